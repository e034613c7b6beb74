import PyProof.Rows.All
import Wide.All
import OpenK.AllK
import Wide.FinOn
import Lean
import PyProof.EqAt
import PyProof.EqKinds
import PyProof.TupleCall
import PySem.Challenge.RW_neverwait_k66_nearest_first_on_any_net
set_option Elab.async false
set_option linter.all false
set_option maxRecDepth 100000
set_option maxHeartbeats 8000000
def aF:=@List.length_map
def bH:=@List.getD_eq_getElem?_getD
def b9:=@List.getElem?_eq_getElem
def aN:=@PySem.wpAny_bind
def bT:=@Nat.lt_of_lt_of_le
def cR:=@PySem.Heap.get?_push_of_some
def ap:=@if_neg
def aq:=@if_pos
def cH:=@List.mem_singleton
def bf:=@Nat.le_refl
def bp:=@List.getElem?_map
def cI:=@List.getElem?_eq_some_iff
def ba:=@Option.some.inj
def bU:=@of_decide_eq_true
def aD:=@PyProof.Rows.wpS_bind
def bK:=@List.map_append
def bg:=@Nat.ne_of_lt
def cu:=@List.length_append
def cN:=@List.mem_cons_of_mem
def bu:=@List.mem_range
def cA:=@List.mem_cons_self
def bj:=@Nat.le_trans
def bn:=@PySem.Heap.lt_size
def bE:=@decide_eq_true
def bV:=@List.mem_append
def cP:=@Bool.false_ne_true
def cx:=@List.length_cons
def cf:=@List.mem_filter
def aO:=@PyProof.Rows.wpS_pure
def dC:=@PySem.Heap.get?_push_size
def dh:=@PySem.W.mg_none_of
def cW:=@Int.toNat_natCast
def eB:=@List.mem_of_getElem?
def bZ:=@List.mem_cons
def dj:=@List.size_toArray
def bO:=@List.mem_map
def cX:=@Bool.and_eq_true
def dD:=@List.length_range
def dP:=@decide_eq_true_iff
def cL:=@PySem.boot_len
def dk:=@decide_eq_false
def cM:=@List.map_cons
def dQ:=@List.nodup_cons
def dR:=@PySem.PassesOwn.never
def iC:=@List.getElem?_append_left
def h_:=@PySem.F.plainAttrs_list
def fH:=@Nat.lt_succ_of_lt
def dF:=@getElem?_pos
def j7:=@PyProof.Rows.boot_isinstance
def gu:=@Nat.lt_of_le_of_lt
def iD:=@List.getElem?_eq_none
def eC:=@Nat.le_of_lt
def fU:=@List.lookup_cons
def dG:=@Nat.zero_le
def fJ:=@List.range_succ
def iE:=@List.mem_append_left
def iW:=@List.mem_append_right
def gX:=@List.take_add_one
def gv:=@List.getElem_mem
def ic:=@List.filter_append
def j8:=@PySem.F.type_list_append
def j_:=@PySem.F.slot_list_append
def lJ:=@Array.perm_iff_toList_perm
def jN:=@List.length_filter_le
def iX:=@Array.length_toList
def ie:=@List.all_eq_true
def mU:=@List.getElem?_append_right
def iF:=@List.length_take
def lK:=@Array.getElem?_toList
def kd:=@PySem.mem_of_lookup
def fV:=@List.map_map
def kg:=@List.map_congr_left
def kh:=@List.getElem?_range
def iY:=@List.take_length
def iZ:=@List.filter_cons
def jO:=@List.pairwise_map
def jP:=@List.append_assoc
def gY:=@Int.ofNat.inj
def jQ:=@Array.toList_push
def lL:=@List.mem_iff_getElem
def jR:=@PySem.Heap.get?_push_ne
def lM:=@beq_eq_false_iff_ne
def mV:=@PyProof.Rows.boot_int
def gx:=@PyProof.Rows.wpS_forRange
def jS:=@PySem.W.kia_one
def pi:=@Option.map_eq_some_iff
def kl:=@Nat.lt_succ_self
def lN:=@List.nodup_append
def pj:=@List.perm_append_comm
def jT:=@List.nodup_nil
def mW:=@of_decide_eq_false
def mX:=@Int.emod_lt_of_pos
def mY:=@Bool.false_eq_true
def pr:=@List.mem_of_mem_take
def jU:=@Nat.lt_irrefl
def gZ:=@beq_iff_eq
def lO:=@PySem.Heap.size_update
def pA:=@Array.toList_append
def tT:=@List.pairwise_iff_getElem
def qI:=@List.length_replicate
def km:=@PySem.F.called_set
def nY:=@Option.isSome_iff_exists
def gL:=@Int.zero_add
def l3:=@List.Pairwise.filter
def ig:=@PySem.wpAny_holding
def jk:=@List.foldl_cons
def jm:=@Int.emod_nonneg
def jn:=@Bool.eq_iff_iff
def l5:=@List.replicate_succ
def qJ:=@PyProof.Rows.callWith_type1
def ii:=@List.map_nil
def jo:=@Array.size_map
def dY:=@PyProof.Rows.wpS_mono
def nZ:=@List.eq_nil_or_concat
def n5:=@List.concat_eq_append
def kn:=@List.append_nil
def l6:=@PySem.wpAny_Call_Name_kw
def l7:=@decide_eq_true_eq
def jp:=@PySem.Heap.size_push
def jq:=@Bool.true_and
def qK:=@PyProof.Rows.boot_tuple
def l9:=@Nat.mod_eq_of_lt
def l_:=@List.nodup_range
def n6:=@PySem.Heap.get?_none_of_le
def fY:=@PyProof.Rows.wpS_modify
def jr:=@Nat.add_zero
def qL:=@List.take_of_length_le
def n8:=@List.mem_filterMap
def qM:=@List.length_pos_of_mem
def qN:=@List.getElem?_set_self
def md:=@List.length_set
def me:=@List.find?_cons
def kq:=@List.any_cons
def ku:=@List.all_cons
def uT:=@Array.getD_eq_getD_getElem?
def mf:=@PySem.wpAny_passesOwn
def fZ:=@if_false
def mh:=@PySem.codeAny_builtin
def uU:=@List.nodup_iff_pairwise_ne
def mi:=@Bool.false_and
def ky:=@Nat.succ.inj
def kA:=@Nat.ne_of_gt
def n9:=@List.countP_cons
def n_:=@PySem.wpAny_truthy_bool
def uV:=@List.drop_eq_getElem_cons
def uW:=@Classical.byContradiction
def y8:=@PyProof.Rows.F.plain_set_update_loop
def iQ:=@PySem.wpAny_mono
def jt:=@PySem.wpAny_field
def ju:=@PySem.sizeLine_eq
def ml:=@PySem.W.mg_of
def qO:=@PySem.Around.under_plainId
def oa:=@List.of_mem_zip
def kB:=@List.map_id
def qP:=@PySem.Heap.get?_update_ne
def uX:=@PyProof.Rows.boot_list
def uY:=@PyProof.Rows.boot_bool
def qQ:=@List.take_sublist
def uZ:=@List.range_succ_eq_map
def qR:=@List.flatten_cons
def qS:=@Bool.eq_false_iff
def u0:=@Array.toList_filterMap
def jv:=@PySem.wpAny_rule
def u3:=@PySem.wpAny_callSpecial?_slot
def u4:=@List.contains_iff_mem
def qT:=@decide_eq_decide
def qU:=@Array.toList_map
def qV:=@PySem.wpAny_pyIter_list
def qW:=@PySem.wpAny_newObj_type
def mn:=@PySem.codeAny_mono
def mq:=@Sum.inl.inj
def u5:=@List.pairwise_append
def u6:=@List.mem_of_mem_drop
def u7:=@List.getElem?_set_ne
def mr:=@Int.le_refl
def u8:=@PySem.Heap.get?_update_other
def u9:=@Array.toList_reverse
def qX:=@List.length_nil
def y9:=@List.filter_map
def u_:=@List.length_take_le
def va:=@List.length_pos_iff
def vc:=@List.getD_cons_succ
def vd:=@PySem.Heap.get?_update_self
def qY:=@PySem.wpAny_call_entry
def oe:=@Nat.zero_add
def ve:=@PySem.W.callWith_K
def qZ:=@List.drop_zero
def y_:=@Array.toList_setIfInBounds
def zc:=@Array.getElem?_eq_getElem
def vf:=@Int.emod_eq_of_lt
def ze:=@PyProof.Rows.boot_sorted
def zf:=@List.length_erase_of_mem
def zg:=@List.getElem?_take_of_lt
def zh:=@List.Pairwise.imp_of_mem
def gN:=@PyProof.Rows.wpS_get
def mw:=@PySem.call_meets
def zi:=@List.getElem?_replicate
def zj:=@List.filter_cons_of_neg
def vg:=@Int.natCast_emod
def jw:=@if_true
def q0:=@Nat.lt_trans
def zm:=@List.filter_eq_nil_iff
def vh:=@PySem.wpAny_setState_of
def vi:=@PySem.wpAny_pyIter_enum
def vj:=@List.filter_nil
def vk:=@List.Perm.of_eq
def q9:=@PySem.wpAny_standAt
def zo:=@List.take_append_drop
def zq:=@List.length_singleton
def zu:=@List.mem_erase_of_ne
def zw:=@List.getLast?_concat
def zx:=@List.dropLast_concat
def vm:=@Bool.and_false
def zy:=@Array.toList_extract
def zz:=@Array.getElem_toList
def mx:=@PyProof.Rows.size_push'
def zA:=@PySem.wpAny_pyNext_list_item
def oh:=@PySem.wpAny_call
def om:=@PySem.wpAny_Name
def zB:=@PySem.W.plainGet_of
def D9:=@PyProof.Rows.F.entry_set_update_loop
def zC:=@List.mem_map_of_mem
def zD:=@List.flatMap_append
def zE:=@List.filterMap_cons
def zF:=@List.countP_eq_zero
def zG:=@Int.toNat_of_nonneg
def vo:=@PySem.wpAny_execs_nil
def vp:=@Nat.add_assoc
def vq:=@Bool.not_true
def zH:=@PySem.wpAny_pyNext_list_end
def zI:=@Option.toList_some
def zJ:=@List.countP_append
def vt:=@PySem.wpAny_seqItems
def zK:=@PySem.wpAny_loadName_local
def zM:=@PySem.codeAny_call_builtin
def vv:=@Nat.sub_zero
def vw:=@Nat.le_of_eq
def zN:=@List.ext_getElem?
def zO:=@List.any_eq_false
def D_:=@Array.toList_eraseIdxIfInBounds
def zP:=@PySem.wpAny_loadName_free
def zQ:=@List.length_drop
def zR:=@List.any_eq_true
def zS:=@Int.natCast_ediv
def zT:=@Array.toList_zip
def vx:=@PySem.wpAny_attempt
def Ea:=@List.eq_nil_of_length_eq_zero
def Eb:=@Int.mul_le_mul_of_nonneg_left
def zU:=@PySem.wpAny_pyIter_tuple
def zV:=@PySem.tupleKind_room_in1
def zW:=@PySem.Obj.data_mapFields
def zX:=@List.count_cons
def Ec:=@List.countP_eq_length_filter
def zY:=@Int.natCast_mul
def Ed:=@PySem.F.typeOf_object_class
def zZ:=@PySem.wpAny_loadPart_at
def vy:=@Nat.mod_lt
def Ee:=@List.perm_ext_iff_of_nodup
def Ef:=@Int.fmod_eq_emod_of_nonneg
def z4:=@Bool.not_false
def Eg:=@Array.getElem?_eq_some_iff
def my:=@PyProof.Rows.wpS_lift
def Eh:=@List.mem_take_iff_getElem
def Ei:=@List.getElem?_zip_eq_some
def z5:=@PySem.wpAny_eqBool_int
def Ej:=@PySem.F.type_list_extend
def Ek:=@PySem.F.slot_list_extend
def El:=@List.filterMap_cons_some
def z6:=@List.cons.inj
namespace L2
open PySem PySem.Spec PyProof.Rows
section
variable {M:Model} {A:Around} {E:Value->Shared->Prop} {s:Shared} {B:Heap} {l outer:List Env} {env:Env} {e L:Addr} {cls:Value}
end
theorem tm:plainId "proto.unchain"=true:=by decide +kernel
theorem tq:entryFor table "proto.unchain"=some Builtin.«proto.unchain»:=PySem.entryFor_of_fast (by kernel_rfl)
def Bb(p:Addr)(h:Heap):Prop:=∃o vs,h.get? p=some o/\o.data=.fields vs/\vs[2]?=some .none
theorem Em{α:Type}{prog:Program}{w:World}{A:Around}{Q:α->Shared->Prop}{E:Value->Shared->Prop}{s:Shared}{a p:Addr}{o:Obj}{vs:Array Value}(hh:A.handled=some (.ref p))(hp:Bb p s.heap)(ne:p≠a)(ha:s.heap.get? a=some o)(hd:o.data=.fields vs)(z2:2<vs.size)(q:E (.ref a) { s with heap:=s.heap.update a (Obj.mapFields (·.setIfInBounds 2 (.ref p))) }):wpAny (model prog w) A (raiseNew (.ref a):Sem α) Q E s:=by
 obtain⟨op,ws,h1,h2,h3⟩:=hp;unfold raiseNew;refine aN (wpAny_handled ?_);rw[hh];dsimp only;rw[aq (show (Value.ref p != Value.ref a)=true from by simp[ne])];refine aN (ig (wpAny_runValue (mh tq ?_)));rw[qO tm _];show wpAny _ _ (field (.ref p) 2 >>= _) _ _ s;refine aN (jt h1 h2 h3 ?_);rw[aq (by decide)];refine wpAny_pure ?_;show wpAny (model prog w) A (updateField a 2 (Value.ref p) >>= fun _=>throw (Value.ref a)) Q E s;unfold updateField;refine aN (aN (wpAny_load ha ?_));rw[hd];dsimp only;rw[aq z2];exact wpAny_update (by rw[ha]) (wpAny_throw q)
theorem z7{prog:Program}{w:World}{A:Around}{E:Value->Shared->Prop}{s:Shared}{it p:Addr}{x left step:Int}{Q:Option Value->Shared->Prop}(hh:A.handled=some (.ref p))(hp:Bb p s.heap)(sW:IsRangeIter s.heap it x left step)(hl:left<=0)(hQ:∀h',(∀b o,s.heap.get? b=some o->h'.get? b=some o)->Q none { s with heap:=h' }):wpAny (model prog w) A (pyNext (.ref it)) Q E s:=by
 have hT:s.TypeIs (.ref it) "range_iterator":=⟨_,sW,rfl⟩
 unfold pyNext;refine aN (vx (u3 (name:=Str.ofString "__next__") hT F.slot_range_iterator_next
  (qY F.slot_range_iterator_next hT F.entry_range_iterator_next ?_ (F.args_range_iterator_next_1 _))))
 show wpAny _ _ (field (.ref it) 0 >>= _) _ _ s;refine aN (jt sW rfl (x:=rawInt x) rfl ?_);refine aN (jt sW rfl (x:=rawInt left) rfl ?_);refine aN (jt sW rfl (x:=rawInt step) rfl ?_);dsimp only[rawInt];rw[aq hl];refine aN (jv ?_);refine aN ?_;show wpAny _ _ (newExc (.type "StopIteration") [] >>= _) _ _ _;refine aN ?_;simp only[newExc,newTuple];refine aN (qW ?_ (by size_fits));refine aN (m:=firstArgMember _ _) (wpAny_of_eq (a:=Value.none) (by first|rfl|(simp only[firstArgMember];rfl)) ?_);refine qW ?_ (by size_fits);generalize hTu:({ cls:=.type "tuple",data:=.seq ([]:List Value).toArray }:Obj)=Tu;generalize Vo:({ cls:=.type "StopIteration",data:=.fields (#[Value.ref s.heap.objs.size,Value.none,Value.none,Value.none,Value.bool false,Value.none]++ownMembersOf (Value.type "StopIteration") []) }:Obj)=Ex;have ZM:Ex.data=.fields (#[Value.ref s.heap.objs.size,Value.none,Value.none,Value.none,Value.bool false,Value.none]++ownMembersOf (Value.type "StopIteration") []):=by rw[<-Vo]
 have cEx:Ex.cls=.type "StopIteration":=by rw[<-Vo]
 have k1:∀b o,s.heap.get? b=some o->((s.heap.push Tu).push Ex).get? b=some o:=fun b o e=>cR _ (cR _ e);have gE:((s.heap.push Tu).push Ex).get? (s.heap.push Tu).objs.size=some Ex:=dC _ (by rw[<-Vo];rfl);have old:∀b o,s.heap.get? b=some o->b≠(s.heap.push Tu).objs.size:=fun b o e=>bg (bn (cR Tu e));obtain⟨op,ws,n1,n2,n3⟩:=id hp;refine Em (A:=A.in1) (p:=p) hh ⟨op,ws,k1 _ _ n1,n2,n3⟩ (old _ _ n1) gE ZM (by simp;lia) ?_;refine aN (wpAny_isInstance (T:="StopIteration") (b:=true) ⟨_,vd _ gE (Obj.isFreed_of_fields (zW ZM _)),(Obj.cls_mapFields _ _).trans cEx⟩ isSubtype_stop ?_);exact wpAny_pure (hQ _ fun b o e=>(u8 _ _ (Ne.symm (old b o e))).trans (k1 b o e))
abbrev dS:=Sum Int Str
def tU:dS->Value->Bool
 |.inl k,v=>Value.isInt k v
 |.inr x,v=>Value.isStrOf x v
def Vp(w:World):dS->Int
 |.inl k=>hashInt k
 |.inr x=>hashStr w x
theorem dq:∀ {k:dS} {v:Value},tU k v=true->(∃i t,k=Sum.inl i/\v=Value.int i t)\/(∃x t,k=Sum.inr x/\v=Value.str x t)
 |.inl i,v,h=>by
  obtain⟨t,e⟩:=Value.isInt_shape (k:=i) (v:=v) h;exact .inl ⟨i,t,rfl,e⟩
 |.inr x,v,h=>by
  obtain⟨t,e⟩:=Value.isStrOf_shape (x:=x) (v:=v) h;exact .inr ⟨x,t,rfl,e⟩
theorem CD(i:Int)(t:Tok):tU (.inl i) (.int i t)=true:=by simp[tU,Value.isInt]
theorem CF(x:Str)(t:Tok):tU (.inr x) (.str x t)=true:=by simp[tU,Value.isStrOf]
theorem Ml(a b:Int):decide ((Sum.inl a:dS)=Sum.inl b)=(a==b):=by
 by_cases e:a=b
 .subst e;simp
 .have h:¬ (Sum.inl a:dS)=Sum.inl b:=fun q=>e (mq q);rw[dk h];exact(lM.mpr e).symm
theorem Mm(a b:Str):decide ((Sum.inr a:dS)=Sum.inr b)=decide (a=b):=by
 by_cases e:a=b
 .subst e;simp
 .have h:¬ (Sum.inr a:dS)=Sum.inr b:=fun q=>e (Sum.inr.inj q);rw[dk h,dk e]
theorem Mn(a:Int)(b:Str):decide ((Sum.inl a:dS)=Sum.inr b)=false:=dk (fun q=>nomatch q)
theorem Mo(a:Str)(b:Int):decide ((Sum.inr a:dS)=Sum.inl b)=false:=dk (fun q=>nomatch q)
def bL(prog:Program)(w:World):PySem.KeyKind prog w dS where
 is:=tU
 hash:=Vp w
 inj:=fun v a b ha hb=>by
  rcases dq ha with ⟨i,t,rfl,rfl⟩|⟨x,t,rfl,rfl⟩
  .rcases dq hb with ⟨j,u,rfl,e⟩|⟨y,u,rfl,e⟩
   .injection e with e1 _;rw[e1]
   .exact nomatch e
  .rcases dq hb with ⟨j,u,rfl,e⟩|⟨y,u,rfl,e⟩
   .exact nomatch e
   .injection e with e1 _;rw[e1]
 byValue:=fun k v h=>by
  rcases dq h with ⟨i,t,rfl,rfl⟩|⟨x,t,rfl,rfl⟩ <;> rfl
 pyHash:=fun hv h=>by
  rcases dq hv with ⟨i,t,rfl,rfl⟩|⟨x,t,rfl,rfl⟩
  .exact wpAny_pyHash_int h
  .exact wpAny_pyHash_str h
 eqBool:=fun hu hv h=>by
  rcases dq hu with ⟨i,t,rfl,rfl⟩|⟨x,t,rfl,rfl⟩
  .rcases dq hv with ⟨j,u,rfl,rfl⟩|⟨y,u,rfl,rfl⟩
   .rw[Ml] at h;exact z5 h
   .rw[Mn] at h;exact SeqAt.EqAt.int_str i t y u _ _ _ _ h
  .rcases dq hv with ⟨j,u,rfl,rfl⟩|⟨y,u,rfl,rfl⟩
   .rw[Mo] at h;exact SeqAt.EqAt.str_int x t j u _ _ _ _ h
   .rw[Mm] at h;exact wpAny_eqBool_str h
 «strs»:=fun k x t v h=>by
  rcases dq h with ⟨i,u,rfl,e⟩|⟨y,u,rfl,e⟩
  .exact nomatch e
  .injection e with e1 _
   subst e1
   cases v <;> rfl
theorem xb(prog:Program)(w:World)(i:Int)(t:Tok):(bL prog w).is (.inl i) (.int i t)=true:=CD i t
theorem xc(prog:Program)(w:World)(x:Str)(t:Tok):(bL prog w).is (.inr x) (.str x t)=true:=CF x t
inductive V where
 |bR|bl (b:Bool)|int (i:Int)|str (x:Str)|CG (b:Array UInt8)|K5 (b:UInt64)|ref (a:Addr)|ty (n:String)
 deriving DecidableEq
def bq:V->Value->Prop
 |.bR,u=>u=Value.none
 |.bl b,u=>u=Value.bool b
 |.int i,u=>∃t,u=Value.int i t
 |.str x,u=>∃t,u=Value.str x t
 |.CG b,u=>∃t,u=Value.bytes b t
 |.K5 b,u=>∃t,u=Value.float b t
 |.ref a,u=>u=Value.ref a
 |.ty n,u=>u=Value.type n
abbrev aY:List V->List Value->Prop:=Paired bq
theorem aY.length(r:aY xs us):xs.length=us.length:=Paired.length r
theorem aY.get:∀ {xs:List V} {us:List Value} {i:Nat} {x:V},aY xs us->xs[i]?=some x->∃u,us[i]?=some u/\bq x u
 |_,_,_,_,.nil,e=>by simp at e
 |_,_,0,_,.cons r _,e=>by simp at e;subst e;exact⟨_,rfl,r⟩
 |_,_,i+1,x,.cons _ t,e=>by
  obtain⟨u,h1,h2⟩:=aY.get (i:=i) (x:=x) t (by simpa using e);exact⟨u,by simpa using h1,h2⟩
theorem aY.set(r:bq x u):∀ {xs:List V} {us:List Value} (i:Nat),aY xs us->aY (xs.set i x) (us.set i u)
 |_,_,_,.nil=>.nil
 |_,_,0,.cons _ t=>.cons r t
 |_,_,i+1,.cons q t=>.cons q (aY.set r i t)
theorem aY.append:∀ {xs ys:List V} {us ws:List Value},aY xs us->aY ys ws->aY (xs++ys) (us++ws)
 |_,_,_,_,.nil,s=>s
 |_,_,_,_,.cons r t,s=>.cons r (aY.append t s)
theorem aY.take:∀ {xs:List V} {us:List Value} (n:Nat),aY xs us->aY (xs.take n) (us.take n)
 |_,_,0,_=>.nil
 |_,_,_+1,.nil=>.nil
 |_,_,n+1,.cons r t=>.cons r (aY.take n t)
theorem aY.drop:∀ {xs:List V} {us:List Value} (n:Nat),aY xs us->aY (xs.drop n) (us.drop n)
 |_,_,0,r=>r
 |_,_,_+1,.nil=>.nil
 |_,_,n+1,.cons _ t=>aY.drop n t
def lE:Option V->Option Value->Prop
 |some v,some u=>bq v u
 |none,none=>True
 |_,_=>False
def KV{κ:Type}:List (κ×V)->List (κ×Value)->Prop:=Paired fun (p:κ×V) (q:κ×Value)=>p.1=q.1/\bq p.2 q.2
def kV:dS->V
 |.inl i=>.int i
 |.inr x=>.str x
inductive HO where
 |lst (xs:List V)
 |tup (xs:List V)
 |dK (kvs:List (dS×V))|dT (kvs:List (List dS×V))
 |set (S:Int->Bool) (n:Nat)
 |ins (C dx:Addr) (fs:List (Str×V))
 |own (x:Addr)
 |xd (fs:List (Str×V))
 |met (f x:Addr)
 |Ii (lo hi:Int)
 |jh (o:Obj) (u:HO)
 |oq (ps:Array Value)
 |ext (φ:Heap->Prop)
abbrev Hp:=Addr->Option HO
def upd(H:Hp)(a:Addr)(o:HO):Hp:=fun b=>if b=a then some o else H b
theorem af:upd H a o a=some o:=by unfold upd;rw[aq rfl]
theorem ak(h:b≠a):upd H a o b=H b:=by unfold upd;rw[ap h]
theorem fu:upd (upd H a o) a u=upd H a u:=by
 funext b;unfold upd;split <;> rfl
theorem cC{H:Hp}{a b:Addr}{o u:HO}(h:H a=some o)(h':H b=some u)(d:o≠u):a≠b:=by
 intro e;subst e;rw[h] at h';exact d (ba h')
theorem ai{H:Hp}{a b:Addr}{o:HO}(h:H a=some o)(h':H b=none):a≠b:=by
 intro e;subst e;rw[h] at h';cases h'
section
variable (P:Program) (w:World)
def ow(h:Heap)(a:Addr)(lP:Array Value):Prop:=∃o,h.get? a=some o/\o.cls=.type "tuple"/\∃n,o.data=.seq lP n/\o.dict=none
theorem ow.tup(p:ow h a lP):IsTup h a lP:=let ⟨o,e,c,n,d,_⟩:=p;⟨o,e,c,n,d⟩
theorem ow.new(h:Heap)(lP:Array Value):ow (h.push { cls:=.type "tuple",data:=.seq lP }) h.objs.size lP:=⟨_,dC _ rfl,rfl,_,rfl,rfl⟩
def cp(H:Hp)(h:Heap)(a:Addr):HO->Prop
 |.lst xs=>xs.length<=sizeLine/\∃ (its:List Value) (n:Nat),aY xs its/\h.get? a=some { cls:=.type "list",data:=.seq its.toArray n }
 |.tup xs=>xs.length<=sizeLine/\∃its:List Value,aY xs its/\ow h a its.toArray
 |.dK kvs=>kvs.length<=sizeLine/\(a==sysModules)=false/\∃vs,KV kvs vs/\h.DictOf (bL P w) a vs
 |.dT kvs=>kvs.length<=sizeLine/\(a==sysModules)=false/\∃xs:List (List dS×Addr×Value),
   Paired (fun (p:List dS×V) (q:List dS×Addr×Value)=>p.1=q.1/\H q.2.1=some (.tup (p.1.map kV))/\bq p.2 q.2.2) kvs xs/\
   ∃o es ep,h.get? a=some o/\o.ExactDict/\o.data=.dict es ep/\es.toList=xs.map (entryOfKey (tupleKind (bL P w)))/\(xs.map (·.1)).Nodup
 |.set S n=>h.SetOf (intKind P w) a S n
 |.ins C dx fs=>H dx=some (.own a)/\fs.length<=1000/\dx≠a/\h.get? a=some (PySem.W.instObj C dx)/\
   ∃mA,h.Ns1 dx mA/\(∀f,lE (fs.lookup f) (mA f))/\PySem.Within mA (fs.map (·.1))
 |.own _=>∃o,h.get? a=some o
 |.xd fs=>∃mA,h.Ns1 a mA/\∀f,lE (fs.lookup f) (mA f)
 |.Ii lo hi=>∃t u v,h.get? a=some { cls:=.type "range",data:=.fields #[.int lo t,.int hi u,.int 1 v] }
 |.jh o u=>h.get? a=some o/\cp H h a u
 |.oq ps=>h.get? a=some { cls:=.none,data:=.fields ps }
 |.met f x=>h.get? a=some (PySem.W.methodObj (.ref f) (.ref x))
 |.ext φ=>φ h/\(∃o,h.get? a=some o)/\∀h1 h2:Heap,φ h1->(∀o,h1.get? a=some o->h2.get? a=some o)->φ h2
def jx(H:Hp)(h:Heap):Prop:=∀a o,H a=some o->cp P w H h a o
end
section
variable {P:Program} {w:World} {H H':Hp} {h h':Heap} {a:Addr} {o:HO}
theorem cp.lt(x:cp P w H h a o):a<h.objs.size:=by
 cases o with
 |lst xs=>obtain⟨_,_,_,_,e⟩:=x;exact bn e
 |tup xs=>obtain⟨_,_,_,p⟩:=x;exact p.tup.lt
 |dK kvs=>obtain⟨_,_,_,_,o,_,_,e,_⟩:=x;exact bn e
 |dT kvs=>obtain⟨_,_,_,_,o,_,_,e,_⟩:=x;exact bn e
 |set S n=>obtain⟨o,_,_,_,e,_⟩:=x;exact bn e
 |ins C dx fs=>obtain⟨_,_,_,e,_⟩:=x;exact bn e
 |own y=>obtain⟨_,e⟩:=x;exact bn e
 |xd fs=>obtain⟨_,⟨_,_,_,e,_⟩,_⟩:=x;exact bn e
 |Ii lo hi=>obtain⟨_,_,_,e⟩:=x;exact bn e
 |jh ob u=>obtain⟨e,_⟩:=x;exact bn e
 |oq ps=>exact bn (show h.get? a=some _ from x)
 |met f y=>exact bn (show h.get? a=some _ from x)
 |ext φ=>obtain⟨_,⟨_,e⟩,_⟩:=x;exact bn e
theorem Paired.Mp:∀ {l₁:List α} {l₂:List β},Paired F l₁ l₂->(∀a b,F a b->G a b)->Paired G l₁ l₂
 |_,_,.nil,_=>.nil
 |_,_,.cons r t,f=>.cons (f _ _ r) (Paired.Mp t f)
theorem cp.pT(x:cp P w H h a o)(k:∀b u,(b=a\/H b=some (.own a))->h.get? b=some u->h'.get? b=some u)(ho:∀b,H b=some (.own a)->H' b=some (.own a))(ht:∀b xs,H b=some (.tup xs)->H' b=some (.tup xs)):cp P w H' h' a o:=by
 induction o with
 |lst xs=>obtain⟨z,its,n,r,e⟩:=x;exact⟨z,its,n,r,k _ _ (.inl rfl) e⟩
 |tup xs=>obtain⟨z,its,r,ob,e,c⟩:=x;exact⟨z,its,r,ob,k _ _ (.inl rfl) e,c⟩
 |dK kvs=>obtain⟨z,y,vs,r,ob,es,ep,e,c⟩:=x;exact⟨z,y,vs,r,ob,es,ep,k _ _ (.inl rfl) e,c⟩
 |dT kvs=>
  obtain⟨z,y,xs,r,ob,es,ep,e,c⟩:=x;exact⟨z,y,xs,Paired.Mp r fun p q z=>⟨z.1,ht _ _ z.2.1,z.2.2⟩,ob,es,ep,k _ _ (.inl rfl) e,c⟩
 |set S n=>obtain⟨ob,es,ep,t,e,c⟩:=x;exact⟨ob,es,ep,t,k _ _ (.inl rfl) e,c⟩
 |ins C dx fs=>
  obtain⟨d,z,ne,e,mA,⟨od,es,ep,e2,c⟩,r⟩:=x;exact⟨ho _ d,z,ne,k _ _ (.inl rfl) e,mA,⟨od,es,ep,k _ _ (.inr d) e2,c⟩,r⟩
 |own y=>obtain⟨ob,e⟩:=x;exact⟨ob,k _ _ (.inl rfl) e⟩
 |xd fs=>obtain⟨mA,⟨od,es,ep,e,c⟩,r⟩:=x;exact⟨mA,⟨od,es,ep,k _ _ (.inl rfl) e,c⟩,r⟩
 |Ii lo hi=>obtain⟨t,u,v,e⟩:=x;exact⟨t,u,v,k _ _ (.inl rfl) e⟩
 |jh ob u ih=>obtain⟨e,q⟩:=x;exact⟨k _ _ (.inl rfl) e,ih q⟩
 |oq ps=>
  have e:h.get? a=some { cls:=.none,data:=.fields ps }:=x;show h'.get? a=some { cls:=.none,data:=.fields ps };exact k a _ (.inl rfl) e
 |met f y=>
  have e:h.get? a=some (PySem.W.methodObj (.ref f) (.ref y)):=x;show h'.get? a=some (PySem.W.methodObj (.ref f) (.ref y));exact k a _ (.inl rfl) e
 |ext φ=>obtain⟨p,⟨o,e⟩,st⟩:=x;exact⟨st _ _ p fun o q=>k _ _ (.inl rfl) q,⟨o,k _ _ (.inl rfl) e⟩,st⟩
theorem jx.lt(x:jx P w H h)(e:H a=some o):a<h.objs.size:=(x a o e).lt
theorem jx.fresh(x:jx P w H h)(e:h.objs.size<=a):H a=none:=by
 cases q:H a with
 |none=>rfl
 |some u=>exact absurd (bT (x.lt q) e) (jU _)
theorem jx.kept(x:jx P w H h)(k:∀b u,h.get? b=some u->h'.get? b=some u):jx P w H h':=fun a o e=>
 (x a o e).pT (fun b u _ q=>k b u q) (fun _ q=>q) fun _ _ q=>q
theorem jx.laid(x:jx P w H h)(k:∀b u,h.get? b=some u->h'.get? b=some u)(hp:h.objs.size<=a)(new:cp P w (upd H a o) h' a o):jx P w (upd H a o) h':=fun b u e=>by
 have hn:=x.fresh hp;by_cases hb:b=a
 .subst hb;rw[af] at e;cases e;exact new
 .rw[ak hb] at e;exact(x b u e).pT (fun c v _ q=>k c v q) (fun c q=>by rw[ak (ai q hn)];exact q) fun c xs q=>by rw[ak (ai q hn)];exact q
end
def Rd(H:Hp)(a:Addr)(u:HO):Prop:=H a=some u\/∃o,H a=some (.jh o u)
theorem Rd.ok(r:Rd H a u)(x:jx P w H h):cp P w H h a u:=by
 rcases r with r|⟨o,r⟩
 .exact x a u r
 .obtain⟨_,q⟩:=x a _ r;exact q
def P_:Option HO->Prop
 |some (.lst _)=>True
 |some (.dK _)=>True
 |some (.dT _)=>True
 |some (.set _ _)=>True
 |some (.ins _ _ _)=>True
 |some (.ext _)=>True
 |_=>False
section
variable {P:Program} {w:World} {H:Hp} {h h':Heap} {x e:Addr} {o':HO}
theorem jx.write(ok:jx P w H h)(mu:P_ (H x))(he:e=x\/H e=some (.own x))(k:∀b u,b≠e->h.get? b=some u->h'.get? b=some u)(Pu:∃u,h'.get? e=some u)(new:cp P w (upd H x o') h' x o'):jx P w (upd H x o') h':=fun b u q=>by
 have Qa:∀c y,H c=some (.own y)->c≠x:=fun c y r z=>by subst z;rw[r] at mu;exact mu
 have Vq:∀c xs,H c=some (.tup xs)->c≠x:=fun c xs r z=>by subst z;rw[r] at mu;exact mu
 by_cases hb:b=x
 .subst hb;rw[af] at q;cases q;exact new
 .rw[ak hb] at q;by_cases HB:b=e
  .have q':H b=some (.own x):=by
    rcases he with z|z
    .exact absurd (HB.trans z) hb
    .rw[HB];exact z
   rw[q] at q';cases q';obtain⟨v,hv⟩:=Pu;exact⟨v,by rw[HB];exact hv⟩
  .refine(ok b u q).pT (fun c v hc r=>k c v ?_ r) (fun c r=>by rw[ak (Qa c b r)];exact r) fun c xs r=>by rw[ak (Vq c xs r)];exact r
   rcases hc with rfl|hc
   .exact HB
   .rintro rfl;rcases he with z|z
    .exact Qa c b hc z
    .rw[hc] at z;cases z;exact hb rfl
end
structure Un(fs ex:List Addr)(H H':Hp)(h h':Heap):Prop where
 keep:∀b o,h.get? b=some o->H b=none->b∉fs->b∉ex->h'.get? b=some o
 slot:∀b o,h.get? b=some o->H b=none->b∈fs->b∉ex->∃sl,h'.get? b=some { o with slots:=sl }
 free:∀b o,h.get? b=some o->H b=none->b∉ex->H' b=none
 there:∀b o,h.get? b=some o->b∉ex->∃o',h'.get? b=some o'
 mz:∀b xs,H b=some (.tup xs)->H' b=some (.tup xs)
 oy:∀b o u,H b=some (.jh o u)->H' b=some (.jh o u)
 oz:∀b ps,H b=some (.oq ps)->∃more,H' b=some (.oq (ps++more))
section
variable {fs fs' ex ex':List Addr} {H H1 H2:Hp} {h h1 h2 h':Heap} {a x e:Addr} {o:HO}
theorem Un.any(u:Un fs ex H H1 h h1)(q:h.get? b=some ob)(n:H b=none)(hx:b∉ex):∃sl,h1.get? b=some { ob with slots:=sl }:=by
 by_cases hb:b∈fs
 .exact u.slot b ob q n hb hx
 .exact⟨ob.slots,u.keep b ob q n hb hx⟩
theorem Un.kept(k:∀b u,h.get? b=some u->h'.get? b=some u):Un fs ex H H h h':=
 ⟨fun b ob q _ _ _=>k b ob q,fun b ob q _ _ _=>⟨ob.slots,k b ob q⟩,fun _ _ _ n _=>n,fun b ob q _=>⟨ob,k b ob q⟩,fun _ _ q=>q,fun _ _ _ q=>q,fun _ ps q=>⟨#[],by rw[q];simp⟩⟩
theorem Un.refl:Un fs ex H H h h:=Un.kept fun _ _ q=>q
theorem Un.laid(k:∀b u,h.get? b=some u->h'.get? b=some u)(hp:h.objs.size<=a)(hn:H a=none):Un fs ex H (upd H a o) h h' where
 keep:=fun b u q _ _ _=>k b u q
 slot:=fun b u q _ _ _=>⟨u.slots,k b u q⟩
 free:=fun b u q n _=>by rw[ak (bg (bT (bn q) hp))];exact n
 there:=fun b u q _=>⟨u,k b u q⟩
 mz:=fun b xs q=>by rw[ak (ai q hn)];exact q
 oy:=fun b u xs q=>by rw[ak (ai q hn)];exact q
 oz:=fun b ps q=>⟨#[],by rw[ak (ai q hn),q];simp⟩
theorem Un.write(mu:P_ (H x))(he:e=x\/H e=some (.own x))(k:∀b u,b≠e->h.get? b=some u->h'.get? b=some u)(Pu:∃u,h'.get? e=some u):Un fs ex H (upd H x o) h h':=by
 have hx:∀b,H b=none->b≠x:=fun b n z=>by subst z;rw[n] at mu;exact mu
 have hb:∀b,H b=none->b≠e:=fun b n z=>by
  subst z;rcases he with r|r
  .exact hx b n r
  .rw[n] at r;cases r
 have hm:∀b u,H b=some u->¬ P_ (some u)->b≠x:=fun b u q nm z=>by subst z;rw[q] at mu;exact nm mu
 refine⟨fun b u q n _ _=>k b u (hb b n) q,fun b u q n _ _=>⟨u.slots,k b u (hb b n) q⟩,fun b u q n _=>by rw[ak (hx b n)];exact n,fun b u q _=>?_,
  fun b xs q=>by rw[ak (hm b _ q fun z=>z)];exact q,fun b u xs q=>by rw[ak (hm b _ q fun z=>z)];exact q,fun b ps q=>⟨#[],by rw[ak (hm b _ q fun z=>z),q];simp⟩⟩
 by_cases HB:b=e
 .subst HB;exact Pu
 .exact⟨u,k b u HB q⟩
end
def Ug(h:Heap)(H:Hp):List Addr:=(List.range h.objs.size).filter fun a=>(H a).isSome
def tu(h:Heap)(H:Hp):Heap:=PySem.W.hideAll h (Ug h H)
theorem CI(h:Heap)(H:Hp):(tu h H).objs.size=h.objs.size:=PySem.W.hideAll_size _ _
theorem En(e:h.get? b=some o)(n:H b=none):(tu h H).get? b=some o:=
 PySem.W.hideAll_get _ e fun hm=>by
  have q:(H b).isSome=true:=(cf.mp hm).2;rw[n] at q;simp at q
theorem Ij(e:(tu h H).get? b=some o):h.get? b=some o/\H b=none:=by
 have e':h.get? b=some o:=PySem.W.of_hideAll (Ug h H) e;refine⟨e',?_⟩;cases q:H b with
 |none=>rfl
 |some x=>
  have hm:b∈Ug h H:=cf.mpr ⟨bu.mpr (bn e'),by simp[q]⟩;have z:(tu h H).get? b=none:=PySem.W.hideAll_none (Ug h H) hm;rw[z] at e;cases e
def jy(g h:Heap)(L:Addr):List (Addr×Obj):=(List.range h.objs.size).filterMap fun a=>if a=L\/(g.get? a).isSome=true then none else (h.get? a).map fun o=>(a,o)
theorem kC(h1:a≠L)(h2:g.get? a=none)(h3:h.get? a=some o):(a,o)∈jy g h L:=
 n8.mpr ⟨a,bu.mpr (bn h3),by simp[h1,h2,h3]⟩
theorem q_(hp:p∈jy g h L):p.1≠L/\g.get? p.1=none/\h.get? p.1=some p.2:=by
 obtain⟨b,_,e⟩:=n8.mp hp;split at e
 .cases e
 .rename_i hn;cases q:h.get? b with
  |none=>rw[q] at e;simp at e
  |some u=>
   rw[q] at e;simp only[Option.map_some,Option.some.injEq] at e;subst e;refine⟨fun z=>hn (.inl z),?_,q⟩;show g.get? b=none;cases r:g.get? b with
   |none=>rfl
   |some v=>exact(hn (.inr (by simp[r]))).elim
theorem Eo:News g L h (jy g h L):=fun p hp=>let ⟨a,b,c⟩:=q_ hp;⟨c,a,b⟩
structure Mod(K:PySem.W.Frag)(mg:Str->Option Value)(base:Heap):Prop where
 Px:K.In base
 glob:base.Ns mainGlobals mg
 blt:∃mb,base.Ns builtinsNs mb/\∀x:Str,x≠"__name__"->mb x=bootBuiltins x
 nolimit:base.NoLimit
structure Cx where
 prog:Program
 w:World
 K:PySem.W.Frag
 mg:Str->Option Value
 base:Heap
 A:Around
 N:List Str
 s₀:Shared
 H₀:Hp
 env:Env
 outer:List Env
 stack:List Env
 ex:List Addr
 fn:Str->Bool
 calm:Bool
 pn:List (Addr×Obj)
 xe:Value->Shared->Prop
def CJ(l:List Env):List Addr:=l.filterMap (·.frame)
abbrev Cx.fs(X:Cx):List Addr:=CJ X.outer
def Qb(sc:Scope)(x:Str):Prop:=sc.names.lookup x=some .local\/sc.names.lookup x=some .cell\/sc.names.lookup x=some .free
def Qc(sc:Scope)(x:Str):Prop:=sc.names.lookup x=some .local\/sc.names.lookup x=some .cell
def Vr(env:Env)(h:Heap)(m:Str->Option Value)(x:Str)(u:Value):Prop:=
 (env.kindOf x=some .local/\m x=some u)\/((env.kindOf x=some .cell\/env.kindOf x=some .free)/\∃c,env.cells.lookup x=some c/\h.IsCell c (some u))
structure Cx.Ok(X:Cx):Prop where
 mod:Mod X.K X.mg X.base
 kind:X.env.scope.kind=.function
 glob:X.env.globals=mainGlobals
 blt:X.env.builtins=builtinsNs
 above:X.s₀.heap.objs.size<=X.env.locals
 inj:∀x y c,X.env.cells.lookup x=some c->X.env.cells.lookup y=some c->x=y
 has:∀x,(X.env.kindOf x=some .cell\/X.env.kindOf x=some .free)->∃c,X.env.cells.lookup x=some c
 Py:∀x c,X.fn x=true->X.env.cells.lookup x=some c->X.s₀.heap.objs.size<=c
 hd:X.calm=true->X.A.handled=none
 frames:X.A.frames=some X.stack
 Pz:X.stack=X.outer\/(X.stack=X.env::X.outer/\X.env.frame=some X.env.locals)
 Vs:∀b∈X.ex,b≠X.env.locals/\∀x c,X.env.cells.lookup x=some c->c≠b
 bs:∀b o,X.base.get? b=some o->X.s₀.heap.get? b=some o/\X.H₀ b=none
 DS:X.base.objs.size<=X.s₀.heap.objs.size
 Ep:∀b o,X.base.get? b=some o->b∉X.ex
 Ik:∀b∈X.ex,b∉X.fs
 oB:X.s₀.heap.FunFrames X.base X.outer
 Mq:∀b∈X.fs,X.H₀ b=none
structure aQ(X:Cx)(ae:List (Addr×Obj))(σ:List (Option V))(H:Hp)(s:Shared):Prop where
 ok:X.Ok
 os:s.os=X.s₀.os
 bare:AllBare s.gens
 base:Un X.fs X.ex X.H₀ H X.s₀.heap s.heap
 loc:∃m,s.heap.Ns X.env.locals m/\∀ (i:Nat) (x:Str) (v:V),X.N[i]?=some x->σ[i]?=some (some v)->Qb X.env.scope x->∃u,bq v u/\Vr X.env s.heap m x u
 cell:∀x c,X.env.cells.lookup x=some c->∃v,s.heap.IsCell c v
 free:H X.env.locals=none
 kD:∀x c,X.env.cells.lookup x=some c->H c=none
 pin:∀p∈X.pn++ae,s.heap.get? p.1=some p.2/\H p.1=none/\p.1≠X.env.locals/\p.1∉X.fs/\∀v,p.2.data≠.cell v
 bS:jx X.prog X.w H s.heap
 len:σ.length=X.N.length
section
variable {X:Cx} {ae:List (Addr×Obj)} {σ:List (Option V)} {H H':Hp} {s:Shared} {h':Heap}
theorem Cx.Ok.Vt(ok:X.Ok)(e:X.base.get? b=some o):b∉X.fs:=fun hb=>by
 have:=(ok.oB.mem hb).1;rw[e] at this;cases this
theorem aQ.bs(I:aQ X ae σ H s):∀b o,X.base.get? b=some o->s.heap.get? b=some o/\H b=none:=fun b o e=>
 ⟨I.base.keep b o (I.ok.bs b o e).1 (I.ok.bs b o e).2 (I.ok.Vt e) (I.ok.Ep b o e),I.base.free b o (I.ok.bs b o e).1 (I.ok.bs b o e).2 (I.ok.Ep b o e)⟩
theorem aQ.bk(I:aQ X ae σ H s):∀b o,X.base.get? b=some o->s.heap.get? b=some o:=fun b o e=>(I.bs b o e).1
theorem aQ.mod(I:aQ X ae σ H s):Mod X.K X.mg X.base:=I.ok.mod
theorem aQ.oC(I:aQ X ae σ H s):X.K.In s.heap:=I.ok.mod.Px.keeps I.bk
theorem aQ.nolimit(I:aQ X ae σ H s):s.heap.NoLimit:=I.ok.mod.nolimit.keeps I.bk
theorem aQ.fr(I:aQ X ae σ H s):∃m,Fr X.base X.env.locals s.heap m:=
 let ⟨m,hn,_⟩:=I.loc
 ⟨m,hn,I.bk,bj I.ok.DS I.ok.above⟩
theorem aQ.lt(I:aQ X ae σ H s):X.env.locals<s.heap.objs.size:=let ⟨_,hn,_⟩:=I.loc;hn.lt
theorem aQ.sz(I:aQ X ae σ H s):X.s₀.heap.objs.size<=s.heap.objs.size:=bj I.ok.above (eC I.lt)
theorem aQ.Vu(I:aQ X ae σ H s)(h:s.heap.objs.size<=a):a∉X.fs:=fun hb=>by
 obtain⟨_,o,ho,_⟩:=I.ok.oB.mem hb;exact absurd (bT (bn ho) (bj I.sz h)) (jU _)
theorem aQ.K6(I:aQ X ae σ H s):∀x c,X.env.cells.lookup x=some c->c≠X.env.locals:=fun x c e z=>by
 obtain⟨v,o,ho,hd⟩:=I.cell x c e;obtain⟨m,⟨o',es,ep,Er,Mr,_⟩,_⟩:=I.loc;rw[z,Er] at ho;cases ho;rw[Mr] at hd;cases hd
theorem aQ.oB(I:aQ X ae σ H s):s.heap.FunFrames X.base X.outer:=by
 have all:∀ (l:List Env),(∀b∈CJ l,b∈X.fs)->X.s₀.heap.FunFrames X.base l->s.heap.FunFrames X.base l:=by
  intro l;induction l with
  |nil=>intro _ _;trivial
  |cons env r ih=>
   intro hs hl;obtain⟨hk,⟨L,o,hf,hn,ho,hd⟩,hr⟩:=hl;have hL:L∈X.fs:=hs L (by unfold CJ;rw[zE,hf];exact cA);obtain⟨sl,e⟩:=I.base.slot L o ho (I.ok.Mq L hL) hL fun z=>I.ok.Ik L z hL;exact⟨hk,⟨L,_,hf,hn,e,hd⟩,ih (fun b hb=>hs b (by unfold CJ;rw[zE,hf];exact cN _ hb)) hr⟩
 exact all X.outer (fun _ hb=>hb) I.ok.oB
theorem aQ.stack(I:aQ X ae σ H s):s.heap.FunFrames X.base X.stack:=by
 rcases I.ok.Pz with e|⟨e,hf⟩
 .rw[e];exact I.oB
 .rw[e];obtain⟨m,hn,_⟩:=I.loc;refine .cons (by rw[I.ok.kind];decide) hf hn ?_ I.oB;exact n6 (bj I.ok.DS I.ok.above)
theorem aQ.rc(I:aQ X ae σ H s):∀b∈CJ X.stack,b∈X.env.locals::X.fs:=fun b hb=>by
 rcases I.ok.Pz with e|⟨e,hf⟩
 .rw[e] at hb;exact cN _ hb
 .rw[e] at hb;unfold CJ at hb;rw[zE,hf] at hb;exact hb
theorem aQ.qk(I:aQ X ae σ H s):∀b∈CJ X.stack,H b=none:=fun b hb=>by
 rcases bZ.mp (I.rc b hb) with e|hb
 .rw[e];exact I.free
 .obtain⟨_,o,ho,_⟩:=I.ok.oB.mem hb;exact I.base.free b o ho (I.ok.Mq b hb) fun z=>I.ok.Ik b z hb
theorem aQ.step{g':Array GenState}{t':Nat}{d':Drawn}{ch:List Addr}(I:aQ X ae σ H s)(HC:∀b∈ch,(b∈X.ex\/X.s₀.heap.objs.size<=b)/\b≠X.env.locals/\(∀x c,X.env.cells.lookup x=some c->c≠b)/\∀p∈X.pn++ae,p.1≠b)(keep:∀b o,b≠X.env.locals->b∉X.fs->b∉ch->s.heap.get? b=some o->H b=none->h'.get? b=some o)(slot:∀b o,b≠X.env.locals->b∈X.fs->b∉ch->s.heap.get? b=some o->H b=none->∃sl,h'.get? b=some { o with slots:=sl })(free:∀b o,b∉ch->s.heap.get? b=some o->H b=none->H' b=none)(there:∀b o,b∉ch->s.heap.get? b=some o->∃o',h'.get? b=some o')(mz:∀b xs,H b=some (.tup xs)->H' b=some (.tup xs))(oy:∀b o u,H b=some (.jh o u)->H' b=some (.jh o u))(oz:∀b ps,H b=some (.oq ps)->∃more,H' b=some (.oq (ps++more)))(ns:∀m,s.heap.Ns X.env.locals m->h'.Ns X.env.locals m)(bS:jx X.prog X.w H' h')(hg:AllBare g'):
  aQ X ae σ H' { s with heap:=h',gens:=g',drawn:=d',toks:=t' }:=by
 have ZN:∀b o,X.s₀.heap.get? b=some o->b≠X.env.locals:=fun b o e=>bg (bT (bn e) I.ok.above);have Uh:∀b o,X.s₀.heap.get? b=some o->b∉X.ex->b∉ch:=fun b o e hx hb=>by
  rcases(HC b hb).1 with z|z
  .exact hx z
  .exact absurd (bT (bn e) z) (jU _)
 have K7:∀x c,X.env.cells.lookup x=some c->∀v,s.heap.IsCell c v->h'.IsCell c v:=fun x c e v ⟨o,ho,hd⟩=>by
  have Qd:c∉ch:=fun z=>(HC c z).2.2.1 x c e rfl;by_cases hc:c∈X.fs
  .obtain⟨sl,q⟩:=slot c o (I.K6 x c e) hc Qd ho (I.kD x c e);exact⟨_,q,hd⟩
  .exact⟨o,keep c o (I.K6 x c e) hc Qd ho (I.kD x c e),hd⟩
 refine⟨I.ok,I.os,hg,⟨fun b o e n hb hx=>?_,fun b o e n hb hx=>?_,fun b o e n hx=>?_,fun b o e hx=>?_,fun b xs e=>mz b xs (I.base.mz b xs e),fun b o xs e=>oy b o xs (I.base.oy b o xs e),fun b ps e=>?_⟩,?_,fun x c e=>?_,?_,fun x c e=>?_,fun p hp=>?_,bS,I.len⟩
 .exact keep b o (ZN b o e) hb (Uh b o e hx) (I.base.keep b o e n hb hx) (I.base.free b o e n hx)
 .obtain⟨sl,e1⟩:=I.base.slot b o e n hb hx;obtain⟨Vv,e2⟩:=slot b _ (ZN b o e) hb (Uh b o e hx) e1 (I.base.free b o e n hx);exact⟨Vv,e2⟩
 .obtain⟨o',e1⟩:=I.base.there b o e hx;exact free b o' (Uh b o e hx) e1 (I.base.free b o e n hx)
 .obtain⟨o',e1⟩:=I.base.there b o e hx;exact there b o' (Uh b o e hx) e1
 .obtain⟨m1,e1⟩:=I.base.oz b ps e;obtain⟨m2,e2⟩:=oz b _ e1;exact⟨m1++m2,by rw[e2,Array.append_assoc]⟩
 .obtain⟨m,hn,hl⟩:=I.loc;refine⟨m,ns m hn,fun i x v e1 e2 e3=>?_⟩;obtain⟨u,r,l⟩:=hl i x v e1 e2 e3;refine⟨u,r,?_⟩;rcases l with l|⟨k,c,e,z⟩
  .exact .inl l
  .exact .inr ⟨k,c,e,K7 x c e _ z⟩
 .obtain⟨v,z⟩:=I.cell x c e;exact⟨v,K7 x c e v z⟩
 .obtain⟨m,⟨o,_,_,ho,_⟩,_⟩:=I.loc;exact free _ o (fun z=>(HC _ z).2.1 rfl) ho I.free
 .obtain⟨v,o,ho,hd⟩:=I.cell x c e;exact free c o (fun z=>(HC c z).2.2.1 x c e rfl) ho (I.kD x c e)
 .obtain⟨e,n,ne,nf,d⟩:=I.pin p hp;have Qd:p.1∉ch:=fun z=>(HC p.1 z).2.2.2 p hp rfl;exact⟨keep p.1 p.2 ne nf Qd e n,free p.1 p.2 Qd e n,ne,nf,d⟩
theorem aQ.un{t':Nat}(I:aQ X ae σ H s)(u:Un X.fs [] H H' s.heap h')(bS:jx X.prog X.w H' h'):aQ X ae σ H' { s with heap:=h',toks:=t' }:=by
 obtain⟨m,⟨o,es,ep,ho,r⟩,_⟩:=id I.loc;obtain⟨sl,hL⟩:=u.any ho I.free (by simp);exact I.step (g':=s.gens) (d':=s.drawn) (ch:=[]) (fun _ z=>nomatch z) (fun b o _ hb _ e n=>u.keep b o e n hb (by simp)) (fun b o _ hb _ e n=>u.slot b o e n hb (by simp)) (fun b o _ e n=>u.free b o e n (by simp)) (fun b o _ e=>u.there b o e (by simp)) u.mz u.oy u.oz (fun m' hm=>by
  obtain⟨o',w9,Ms,Er,r'⟩:=hm;rw[ho] at Er;cases Er;exact⟨_,w9,Ms,hL,r'⟩) bS I.bare
theorem aQ.call{g':Array GenState}{t':Nat}{d':Drawn}{ch:List Addr}(I:aQ X ae σ H s)(u:Un (CJ X.stack) ch H H' s.heap h')(bS:jx X.prog X.w H' h')(hg:AllBare g')(HC:∀b∈ch,(b∈X.ex\/X.s₀.heap.objs.size<=b)/\b≠X.env.locals/\(∀x c,X.env.cells.lookup x=some c->c≠b)/\∀p∈X.pn++ae,p.1≠b):
  aQ X ae σ H' { s with heap:=h',gens:=g',drawn:=d',toks:=t' }:=by
 obtain⟨m,⟨o,es,ep,ho,r⟩,_⟩:=id I.loc;obtain⟨sl,hL⟩:=u.any ho I.free fun z=>(HC _ z).2.1 rfl;exact I.step (ch:=ch) HC (fun b o hL hb hc e n=>u.keep b o e n (fun z=>(bZ.mp (I.rc b z)).elim hL hb) hc) (fun b o _ _ hc e n=>u.any e n hc) (fun b o hc e n=>u.free b o e n hc) (fun b o hc e=>u.there b o e hc) u.mz u.oy u.oz (fun m' hm=>by
  obtain⟨o',w9,Ms,Er,r'⟩:=hm;rw[ho] at Er;cases Er;exact⟨_,w9,Ms,hL,r'⟩) bS hg
theorem aQ.turned{t':Nat}{it:Addr}(I:aQ X ae σ H s)(k:∀b o,b≠it->s.heap.get? b=some o->h'.get? b=some o)(hn:H it=none)(hL:it≠X.env.locals)(h1:it∈X.ex\/X.s₀.heap.objs.size<=it)(h2:∀x c,X.env.cells.lookup x=some c->c≠it)(h3:∀p∈X.pn++ae,p.1≠it):aQ X ae σ H { s with heap:=h',toks:=t' }:=by
 have ZO:∀b u,H b=some u->b≠it:=fun b u e z=>by rw[z,hn] at e;cases e
 refine I.step (g':=s.gens) (d':=s.drawn) (ch:=[it]) (fun b hb=>?_) (fun b o _ _ hc e _=>k b o (fun z=>hc (by simp[z])) e) (fun b o _ _ hc e _=>⟨o.slots,k b o (fun z=>hc (by simp[z])) e⟩) (fun _ _ _ _ n=>n)
  (fun b o hc e=>⟨o,k b o (fun z=>hc (by simp[z])) e⟩) (fun _ _ e=>e) (fun _ _ _ e=>e) (fun b ps e=>⟨#[],by rw[e];simp⟩) (fun m hm=>?_) (fun b u e=>?_) I.bare
 .have e:b=it:=by simpa using hb
  subst e;exact⟨h1,hL,h2,h3⟩
 .obtain⟨o,es,ep,ho,r⟩:=hm;exact⟨o,es,ep,k _ o (Ne.symm hL) ho,r⟩
 .refine(I.bS b u e).pT (fun c v hc q=>k c v ?_ q) (fun _ q=>q) fun _ _ q=>q;rcases hc with z|z
  .rw[z];exact ZO b u e
  .exact ZO c _ z
theorem aQ.tok(I:aQ X ae σ H s)(t:Nat):aQ X ae σ H { s with toks:=t }:=I.un (h':=s.heap) (t':=t) Un.refl I.bS
theorem aQ.kept(I:aQ X ae σ H s)(k:∀b u,s.heap.get? b=some u->h'.get? b=some u):aQ X ae σ H { s with heap:=h',toks:=t' }:=I.un (Un.kept k) (I.bS.kept k)
theorem aQ.laid(I:aQ X ae σ H s)(k:∀b u,s.heap.get? b=some u->h'.get? b=some u)(hp:s.heap.objs.size<=a)(new:cp X.prog X.w (upd H a o) h' a o):
  aQ X ae σ (upd H a o) { s with heap:=h',toks:=t' }:=I.un (Un.laid k hp (I.bS.fresh hp)) (I.bS.laid k hp new)
theorem aQ.write(I:aQ X ae σ H s)(mu:P_ (H x))(he:e=x\/H e=some (.own x))(k:∀b u,b≠e->s.heap.get? b=some u->h'.get? b=some u)(Pu:∃u,h'.get? e=some u)(new:cp X.prog X.w (upd H x o) h' x o):aQ X ae σ (upd H x o) { s with heap:=h',toks:=t' }:=I.un (Un.write mu he k Pu) (I.bS.write mu he k Pu new)
theorem aQ.Bc(I:aQ X ae σ H s)(h:∀p∈Qe,s.heap.get? p.1=some p.2/\H p.1=none/\p.1≠X.env.locals/\p.1∉X.fs/\∀v,p.2.data≠.cell v):aQ X Qe σ H s:=
 ⟨I.ok,I.os,I.bare,I.base,I.loc,I.cell,I.free,I.kD,fun p hp=>(bV.mp hp).elim (fun z=>I.pin p (iE _ z)) (h p),I.bS,I.len⟩
theorem xf{N:List Str}(hN:N.Nodup){i j:Nat}{x:Str}(a:N[i]?=some x)(b:N[j]?=some x):i=j:=by
 obtain⟨h1,e1⟩:=cI.mp a;obtain⟨h2,e2⟩:=cI.mp b;exact(List.getElem_inj hN).mp (e1.trans e2.symm)
theorem tV{M:Model}{A:Around}{E:Value->Shared->Prop}{i:Nat}{x:Str}{v:V}{u:Value}{Q:Unit->Shared->Prop}(I:aQ X ae σ H s)(hN:X.N.Nodup)(hi:X.N[i]?=some x)(hx:Qc X.env.scope x)(r:bq v u)(h:∀s',aQ X ae (σ.set i (some v)) H s'->(∃a,Heap.SameBut a s.heap s'.heap/\(a=X.env.locals\/X.env.cells.lookup x=some a))->Q () s')(hf:X.fn x=true\/X.env.scope.names.lookup x=some .local:=by first|exact .inl rfl|exact .inr rfl|assumption):wpAny M A (storeName X.env x u) Q E s:=by
 obtain⟨m,hn,hl⟩:=id I.loc;have Vw:(X.env.scope.kind==.class||(X.env.scope.kind==.module&&X.env.locals != X.env.globals))=false:=by rw[I.ok.kind];rfl
 have hiσ:i<σ.length:=by rw[I.len];exact(cI.mp hi).1
 have K6:=I.K6;have Bd:∀ {a:Addr} {h':Heap},(∃o,s.heap.get? a=some o/\H a=none)->Heap.SameBut a s.heap h'->jx X.prog X.w H h':=fun {a h'} ha hs b ob e=>by
  obtain⟨_,_,K8⟩:=ha;refine(I.bS b ob e).pT (fun c w' hc q=>(hs.2 c ?_).trans q) (fun _ q=>q) fun _ _ q=>q;rintro rfl;rcases hc with rfl|hc
  .rw[K8] at e;cases e
  .rw[K8] at hc;cases hc
 rcases hx with hk|hk
 .refine wpAny_storeName_local hk hn (fun h' ZP hs=>?_) Vw;obtain⟨oL,_,_,K9,_⟩:=id hn;refine h _ ⟨I.ok,I.os,I.bare,⟨fun b o e n hb hx=>?_,fun b o e n hb hx=>?_,I.base.free,fun b o e hx=>?_,I.base.mz,I.base.oy,I.base.oz⟩,⟨_,ZP,fun j y v' e1 e2 e3=>?_⟩,fun y c e=>?_,I.free,I.kD,fun p hp=>?_,Bd ⟨oL,K9,I.free⟩ hs,by simpa using I.len⟩ ⟨_,hs,.inl rfl⟩
  .exact(hs.2 b (bg (bT (bn e) I.ok.above))).trans (I.base.keep b o e n hb hx)
  .obtain⟨sl,e1⟩:=I.base.slot b o e n hb hx;exact⟨sl,(hs.2 b (bg (bT (bn e) I.ok.above))).trans e1⟩
  .obtain⟨o',e1⟩:=I.base.there b o e hx;exact⟨o',(hs.2 b (bg (bT (bn e) I.ok.above))).trans e1⟩
  .by_cases hj:j=i
   .subst hj;rw[hi] at e1;cases e1;rw[qN hiσ] at e2;cases e2;exact⟨u,r,.inl ⟨hk,by simp⟩⟩
   .rw[u7 (Ne.symm hj)] at e2;obtain⟨u',r',q⟩:=hl j y v' e1 e2 e3;refine⟨u',r',?_⟩;rcases q with ⟨k,e⟩|⟨k,c,e,z⟩
    .refine .inl ⟨k,?_⟩;have:y≠x:=fun e=>hj (xf hN e1 (e ▸ hi));simp[this,e]
    .exact .inr ⟨k,c,e,z.sameBut hs (K6 y c e)⟩
  .obtain⟨w',z⟩:=I.cell y c e;exact⟨w',z.sameBut hs (K6 y c e)⟩
  .obtain⟨e,n,ne,nf,d⟩:=I.pin p hp;exact⟨(hs.2 p.1 ne).trans e,n,ne,nf,d⟩
 .have Qf:X.fn x=true:=by
   rcases hf with z|z
   .exact z
   .rw[z] at hk;cases hk
  obtain⟨c,hc⟩:=I.ok.has x (.inl hk);obtain⟨w',z⟩:=I.cell x c hc;refine wpAny_storeName_cell I.ok.kind hk hc z (fun h' Es hs=>?_);obtain⟨oc,Ui,Vx⟩:=id z;refine h { s with heap:=h' } ⟨I.ok,I.os,I.bare,⟨fun b o e n hb hx=>?_,fun b o e n hb hx=>?_,I.base.free,fun b o e hx=>?_,I.base.mz,I.base.oy,I.base.oz⟩,⟨m,hn.sameBut hs (Ne.symm (K6 x c hc)),fun j y v' e1 e2 e3=>?_⟩,fun y c' e=>?_,I.free,I.kD,fun p hp=>?_,Bd ⟨oc,Ui,I.kD x c hc⟩ hs,by simpa using I.len⟩ ⟨c,hs,.inr hc⟩
  .exact(hs.2 b (bg (bT (bn e) (I.ok.Py x c Qf hc)))).trans (I.base.keep b o e n hb hx)
  .obtain⟨sl,e1⟩:=I.base.slot b o e n hb hx;exact⟨sl,(hs.2 b (bg (bT (bn e) (I.ok.Py x c Qf hc)))).trans e1⟩
  .obtain⟨o',e1⟩:=I.base.there b o e hx;exact⟨o',(hs.2 b (bg (bT (bn e) (I.ok.Py x c Qf hc)))).trans e1⟩
  .by_cases hj:j=i
   .subst hj;rw[hi] at e1;cases e1;rw[qN hiσ] at e2;cases e2;exact⟨u,r,.inr ⟨.inl hk,c,hc,Es⟩⟩
   .rw[u7 (Ne.symm hj)] at e2;obtain⟨u',r',q⟩:=hl j y v' e1 e2 e3;refine⟨u',r',?_⟩;rcases q with q|⟨k,c',e,z'⟩
    .exact .inl q
    .refine .inr ⟨k,c',e,z'.sameBut hs ?_⟩;rintro rfl;exact hj (xf hN e1 (I.ok.inj _ _ _ e hc ▸ hi))
  .by_cases ZQ:c'=c
   .subst ZQ;exact⟨_,Es⟩
   .obtain⟨w2,z2⟩:=I.cell y c' e;exact⟨w2,z2.sameBut hs ZQ⟩
  .obtain⟨e,n,ne,nf,d⟩:=I.pin p hp;refine⟨(hs.2 p.1 ?_).trans e,n,ne,nf,d⟩;intro q;rw[q,Ui] at e;have q':oc=p.2:=ba e;exact d w' (by rw[<-q'];exact Vx)
theorem re(I:aQ X ae σ H s)(hN:X.N.Nodup)(hi:X.N[i]?=some x)(hx:Qc X.env.scope x)(r:bq v u)(h:∀s',aQ X ae (σ.set i (some v)) H s'->Q () s')(hf:X.fn x=true\/X.env.scope.names.lookup x=some .local:=by first|exact .inl rfl|exact .inr rfl|assumption):wpAny M A (storeName X.env x u) Q E s:=
 tV I hN hi hx r (fun s' I' _=>h s' I') hf
theorem aQ.K_(I:aQ X ae σ H s)(ho:s'.os=s.os)(u:Un (CJ X.stack) ch H H' s.heap s'.heap)(bS:jx X.prog X.w H' s'.heap)(hg:AllBare s'.gens)(HC:∀b∈ch,(b∈X.ex\/X.s₀.heap.objs.size<=b)/\b≠X.env.locals/\(∀x c,X.env.cells.lookup x=some c->c≠b)/\∀p∈X.pn++ae,p.1≠b):aQ X ae σ H' s':=by
 obtain⟨h',g',d',t',o'⟩:=s';have e:o'=s.os:=ho;subst e;exact I.call (g':=g') (t':=t') (d':=d') u bS hg HC
end
abbrev XK:=Value->Option Addr->Hp->Prop
abbrev St:=List (Option V)
abbrev VK:=V->Hp->Prop
abbrev TE:=St->Hp->VK->Prop
abbrev TT:=St->Hp->(Bool->Hp->Prop)->Prop
abbrev TA:=St->Hp->(List V->Hp->Prop)->Prop
structure vz where
 nx:St->Hp->Prop
 rt:VK
 bk:St->Hp->Prop:=fun _ _=>False
 ct:St->Hp->Prop:=fun _ _=>False
abbrev TS:=vz->St->Hp->Prop
def EP(X:Cx)(ae:List (Addr×Obj))(σ:St)(Q:VK)(u:Value)(s':Shared):Prop:=∃v H',aQ X ae σ H' s'/\bq v u/\Q v H'
def TP(X:Cx)(ae:List (Addr×Obj))(σ:St)(Q:Bool->Hp->Prop)(b:Bool)(s':Shared):Prop:=∃H',aQ X ae σ H' s'/\Q b H'
def AP(X:Cx)(ae:List (Addr×Obj))(σ:St)(Q:List V->Hp->Prop)(us:List Value)(s':Shared):Prop:=∃vs H',aQ X ae σ H' s'/\aY vs us/\Q vs H'
def SP(X:Cx)(ae:List (Addr×Obj))(D:vz)(f:Flow)(s':Shared):Prop:=
 match f with
 |.next=>∃σ' H',aQ X ae σ' H' s'/\D.nx σ' H'
 |.brk=>∃σ' H',aQ X ae σ' H' s'/\D.bk σ' H'
 |.cont=>∃σ' H',aQ X ae σ' H' s'/\D.ct σ' H'
 |.ret u=>∃v σ' H',aQ X ae σ' H' s'/\bq v u/\D.rt v H'
def PE(X:Cx)(e:Expr)(t:TE):Prop:=
 ∀ (ae:List (Addr×Obj)) (s:Shared) (σ:St) (H:Hp) (Q:VK),aQ X ae σ H s->t σ H Q->wpAny (model X.prog X.w) X.A (eval e X.env) (EP X ae σ Q) X.xe s
def PT(X:Cx)(e:Expr)(t:TT):Prop:=
 ∀ (ae:List (Addr×Obj)) (s:Shared) (σ:St) (H:Hp) (Q:Bool->Hp->Prop),aQ X ae σ H s->t σ H Q->wpAny (model X.prog X.w) X.A (isTrue e X.env (eval e X.env)) (TP X ae σ Q) X.xe s
def PW(X:Cx)(e:Expr)(t:TT):Prop:=
 ∀ (Be:Sem Value) (ae:List (Addr×Obj)) (s:Shared) (σ:St) (H:Hp) (Q:Bool->Hp->Prop),aQ X ae σ H s->t σ H Q->wpAny (model X.prog X.w) X.A (isTrue e X.env Be) (TP X ae σ Q) X.xe s
theorem PW.pt(h:PW X e t):PT X e t:=h _
def PA(X:Cx)(es:List Expr)(t:TA):Prop:=
 ∀ (pos:Pos) (ae:List (Addr×Obj)) (s:Shared) (σ:St) (H:Hp) (Q:List V->Hp->Prop),aQ X ae σ H s->t σ H Q->wpAny (model X.prog X.w) X.A (spliced (backTo pos (starEach es X.env))) (AP X ae σ Q) X.xe s
def PS(X:Cx)(st:Stmt)(t:TS):Prop:=
 ∀ (ae:List (Addr×Obj)) (s:Shared) (σ:St) (H:Hp) (D:vz),aQ X ae σ H s->t D σ H->wpAny (model X.prog X.w) X.A (exec st X.env) (SP X ae D) X.xe s
def z8(X:Cx)(st:List Stmt)(t:TS):Prop:=
 ∀ (ae:List (Addr×Obj)) (s:Shared) (σ:St) (H:Hp) (D:vz),aQ X ae σ H s->t D σ H->wpAny (model X.prog X.w) X.A (execs st X.env) (SP X ae D) X.xe s
theorem cJ(h:wpAny M A t Q E s)(hQ:∀a s,Q a s->Q' a s):wpAny M A t Q' E s:=iQ h hQ fun _ _ x=>x
section
variable {X:Cx}
def aV(i:Nat):TE:=fun σ H Q=>∃v,σ[i]?=some (some v)/\Q v H
def tC(v:V):TE:=fun _ H Q=>Q v H
theorem Mt(hN:X.N[i]?=some x)(hv:Qb X.env.scope x)(hd:(x==("__debug__":Str))=false:=by decide)(tW:(x==("__classdict__":Str))=false:=by decide):PE X (.Name x pos) (aV i):=by
 intro ae s σ H Q I h;obtain⟨v,e,h⟩:=h;obtain⟨m,hn,hl⟩:=I.loc;obtain⟨u,r,l⟩:=hl i x v hN e hv;have fin:EP X ae σ Q u s:=⟨v,H,I,r,h⟩
 rcases l with ⟨hk,hm⟩|⟨hk,c,hc,Bg⟩
 .exact om (zK I.ok.kind hk hn hm fin) hd
 .rcases hk with hk|hk
  .exact om (wpAny_loadName_cell I.ok.kind hk hc Bg fin) hd
  .exact om (zP I.ok.kind hk hc Bg fin tW) hd
theorem ao{i j pos}:PE X (.Constant (.int i) j pos) (tC (.int i)):=fun _ _ _ H _ I h=>wpAny_Constant_int ⟨.int i,H,I.tok _,⟨_,rfl⟩,h⟩
theorem g7{b j pos}:PE X (.Constant (.bool b) j pos) (tC (.bl b)):=fun _ _ _ H _ I h=>Constant_bool ⟨.bl b,H,I,rfl,h⟩
theorem cS{j pos}:PE X (.Constant .none j pos) (tC .bR):=fun _ _ _ H _ I h=>Constant_none ⟨.bR,H,I,rfl,h⟩
def Gl(X:Cx)(x:Str):Prop:=X.env.kindOf x=some .globalImplicit
theorem ql(I:aQ X ae σ H s)(hg:Gl X x)(hm:X.mg x=some u)(h:Q u s)(hd:(x==("__debug__":Str))=false:=by decide):wpAny (model X.prog X.w) X.A (eval (.Name x pos) X.env) Q E s:=
 Calls.Name_function_global I.ok.kind hg (Calls.loadGlobal_global (by rw[I.ok.glob];exact I.mod.glob.keeps I.bk) hm h) hd
theorem kE(I:aQ X ae σ H s)(hg:Gl X x)(hm:X.mg x=none)(hv:bootBuiltins x=some u)(h:Q u s)(hn:x≠"__name__":=by decide)(hd:(x==("__debug__":Str))=false:=by decide):wpAny (model X.prog X.w) X.A (eval (.Name x pos) X.env) Q E s:=by
 obtain⟨mb,h1,h2⟩:=I.mod.blt;exact Calls.Name_function_global I.ok.kind hg (Calls.loadGlobal_builtin (by rw[I.ok.glob];exact I.mod.glob.keeps I.bk) hm (by rw[I.ok.blt];exact h1.keeps I.bk) ((h2 x hn).trans hv) h) hd
theorem vA(hg:Gl X x)(hm:X.mg x=some u)(r:bq v u)(hd:(x==("__debug__":Str))=false:=by decide):PE X (.Name x pos) (tC v):=
 fun _ _ _ H _ I h=>ql I hg hm ⟨v,H,I,r,h⟩ hd
theorem fK(hg:Gl X x)(hm:X.mg x=none)(hv:bootBuiltins x=some u)(r:bq v u)(hn:x≠"__name__":=by decide)(hd:(x==("__debug__":Str))=false:=by decide):PE X (.Name x pos) (tC v):=
 fun _ _ _ H _ I h=>kE I hg hm hv ⟨v,H,I,r,h⟩ hn hd
variable {a b:Expr} {ta tb:TE} {pos:Pos}
def PC(X:Cx)(op:CmpOp)(a b:Expr)(t:TE):Prop:=
 ∀ (ae:List (Addr×Obj)) (s:Shared) (σ:St) (H:Hp) (Q:VK),aQ X ae σ H s->t σ H Q->
  wpAny (model X.prog X.w) X.A (eval a X.env) (fun v s₁=>wpAny (model X.prog X.w) X.A (eval b X.env) (fun u s₂=>wpAny (model X.prog X.w) X.A (compareOp op v u) (EP X ae σ Q) X.xe s₂) X.xe s₁) X.xe s
theorem xg(b:Expr){op:CmpOp}(h:op≠.In)(h2:op≠.NotIn):behindInMarks op b=false:=by
 have e1:(op==CmpOp.In)=false:=by cases op <;> first|rfl|exact absurd rfl h
 have e2:(op==CmpOp.NotIn)=false:=by cases op <;> first|rfl|exact absurd rfl h2
 cases b <;> simp[behindInMarks,e1,e2]
def Qg(ta:TE):TE:=fun σ H Q=>ta σ H fun x H1=>Q (.bl (decide (x=.bR))) H1
def Qh(ta:TE):TE:=fun σ H Q=>ta σ H fun x H1=>Q (.bl (!decide (x=.bR))) H1
theorem bq.xh{x:V}{v:Value}(r:bq x v):(v==Value.none)=decide (x=.bR):=by
 cases x with
 |bR=>cases r;rfl
 |bl _=>cases r;rfl
 |int _=>obtain⟨t,rfl⟩:=r;rfl
 |str _=>obtain⟨t,rfl⟩:=r;rfl
 |CG _=>obtain⟨t,rfl⟩:=r;rfl
 |K5 _=>obtain⟨t,rfl⟩:=r;rfl
 |ref _=>cases r;rfl
 |ty _=>cases r;rfl
theorem Mu{j pU}(ha:PE X a ta):PC X .Is a (.Constant .none j pU) (Qg ta):=by
 intro ae s σ H Q I h;refine cJ (ha ae s σ H _ I h) fun v s1 ⟨x,H1,I1,r1,q1⟩=>?_;exact Constant_none (is_none_gen ⟨.bl _,H1,I1,by rw[r1.xh];rfl,q1⟩)
theorem Il{j pU}(ha:PE X a ta):PC X .IsNot a (.Constant .none j pU) (Qh ta):=by
 intro ae s σ H Q I h;refine cJ (ha ae s σ H _ I h) fun v s1 ⟨x,H1,I1,r1,q1⟩=>?_;exact Constant_none (isnot_none_gen ⟨.bl _,H1,I1,by rw[r1.xh];rfl,q1⟩)
def tB(t:TE):TT:=fun σ H Q=>t σ H fun x H1=>∃c,x=.bl c/\Q c H1
theorem Mv{op:CmpOp}{t:TE}(h:PC X op a b t)(h1:behindInMarks op b=false:=by first|exact xg _ (by decide) (by decide)|rfl):PE X (.Compare a [op] [b] pos) t:=fun ae s σ H Q I hw=>wpAny_Compare1 (h ae s σ H Q I hw) h1
theorem vB(h:PC X op a b t)(h1:behindInMarks op b=false:=by first|exact xg _ (by decide) (by decide)|rfl):PT X (.Compare a [op] [b] pos) (tB t):=by
 intro ae s σ H Q I hw;refine wpAny_isTrue_Compare1 (cJ (h ae s σ H _ I hw) fun v s1 h1=>cJ h1 fun u s2 h2=>cJ h2 fun c s3 ⟨x,H1,I1,r1,q1⟩=>?_) h1;obtain⟨d,rfl,q⟩:=q1;cases r1;exact n_ ⟨H1,I1,q⟩
theorem dA(h:PE X e t)(he:∀Be,isTrue e X.env Be=(do let v <- Be;standAt e.pos;holding [v] (truthy v)):=by intro _;rfl):PT X e (tB t):=by
 intro ae s σ H Q I hw;refine isTrue_plain (cJ (h ae s σ H _ I hw) fun v s1 ⟨x,H1,I1,r1,q1⟩=>?_) (he _);obtain⟨d,rfl,q⟩:=q1;cases r1;exact n_ ⟨H1,I1,q⟩
variable {tA Uj:TT} {pV:List Expr}
def Qi(t u:TT):TT:=fun σ H Q=>t σ H fun c H1=>if c=true then u σ H1 Q else Q false H1
def ZR(t u:TT):TT:=fun σ H Q=>t σ H fun c H1=>if c=true then Q true H1 else u σ H1 Q
def Vy(t:TT):TT:=fun σ H Q=>t σ H fun c H1=>Q (!c) H1
theorem qm(ha:PT X a tA):PW X (.BoolOp .And [a] pos) tA:=by
 intro wh ae s σ H Q I h;refine isTrue_and (cJ (ha ae s σ H Q I h) fun c s1 e=>?_);cases c with
 |true=>exact isTrue_and_nil e
 |false=>exact e
theorem mB(ha:PT X a tA):PW X (.BoolOp .Or [a] pos) tA:=by
 intro wh ae s σ H Q I h;refine isTrue_or (cJ (ha ae s σ H Q I h) fun c s1 e=>?_);cases c with
 |false=>exact isTrue_or_nil e
 |true=>exact e
theorem vC(ha:PT X a tA)(hb:PW X (.BoolOp .And (b::pV) pos) Uj):PW X (.BoolOp .And (a::b::pV) pos) (Qi tA Uj):=by
 intro wh ae s σ H Q I h;refine isTrue_and (cJ (ha ae s σ H _ I h) fun c s1 ⟨H1,I1,q1⟩=>?_);cases c with
 |true=>exact hb wh ae s1 σ H1 Q I1 q1
 |false=>exact⟨H1,I1,q1⟩
theorem pB(ha:PT X a tA)(hb:PW X (.BoolOp .Or (b::pV) pos) Uj):PW X (.BoolOp .Or (a::b::pV) pos) (ZR tA Uj):=by
 intro wh ae s σ H Q I h;refine isTrue_or (cJ (ha ae s σ H _ I h) fun c s1 ⟨H1,I1,q1⟩=>?_);cases c with
 |true=>exact⟨H1,I1,q1⟩
 |false=>exact hb wh ae s1 σ H1 Q I1 q1
theorem eI(ha:PT X a tA):PT X (.UnaryOp .Not a pos) (Vy tA):=by
 intro ae s σ H Q I h;exact isTrue_not (ha ae s σ H (fun c H1=>Q (!c) H1) I h)
def Et(ta tb:TE):TE:=fun σ H Q=>ta σ H fun x H1=>∃c,x=.bl c/\if c=true then tb σ H1 Q else Q (.bl false) H1
def La(ta:TE):TE:=fun σ H Q=>ta σ H fun x H1=>∃c,x=.bl c/\Q (.bl (!c)) H1
theorem gO{op}(h:PE X a t):PE X (.BoolOp op [a] pos) t:=fun ae s σ H Q I hw=>BoolOp_one (h ae s σ H Q I hw)
theorem f_(ha:PE X a ta)(hb:PE X (.BoolOp .And (b::pV) pos) tb):PE X (.BoolOp .And (a::b::pV) pos) (Et ta tb):=by
 intro ae s σ H Q I h;refine BoolOp_and (cJ (ha ae s σ H _ I h) fun v s1 ⟨x,H1,I1,r1,q1⟩=>?_);obtain⟨c,rfl,q1⟩:=q1;cases r1;refine n_ ?_;cases c with
 |true=>exact hb ae s1 σ H1 Q I1 q1
 |false=>exact⟨.bl false,H1,I1,rfl,q1⟩
theorem z9(ha:PE X a ta):PE X (.UnaryOp .Not a pos) (La ta):=by
 intro ae s σ H Q I h;refine UnaryOp_ (cJ (ha ae s σ H _ I h) fun v s1 ⟨x,H1,I1,r1,q1⟩=>?_);obtain⟨c,rfl,q1⟩:=q1;cases r1;exact not_of (n_ ⟨.bl (!c),H1,I1,rfl,q1⟩)
def ZS(t:TT)(ta tb:TE):TE:=fun σ H Q=>t σ H fun c H1=>if c=true then ta σ H1 Q else tb σ H1 Q
theorem xi(hc:PT X c tA)(ha:PE X a ta)(hb:PE X b tb):PE X (.IfExp c a b pos) (ZS tA ta tb):=by
 intro ae s σ H Q I h;refine wpAny_IfExp (cJ (hc ae s σ H _ I h) fun d s1 ⟨H1,I1,q1⟩=>?_);cases d with
 |true=>exact ha ae s1 σ H1 Q I1 q1
 |false=>exact hb ae s1 σ H1 Q I1 q1
end
def aU(K:PySem.W.Frag)(H:Hp)(a:Addr)(xs:List V):Prop:=
 Rd H a (.lst xs)\/
  ∃ (o:Obj) (its:Array Value) (n:Nat),K.lookup a=some o/\o.cls=.type "list"/\o.dict=none/\o.data=.seq its n/\its.size<=sizeLine/\aY xs its.toList
def cK(K:PySem.W.Frag)(H:Hp)(a:Addr)(xs:List V):Prop:=
 Rd H a (.tup xs)\/
  ∃ (o:Obj) (its:Array Value) (n:Nat),K.lookup a=some o/\o.cls=.type "tuple"/\o.data=.seq its n/\its.size<=sizeLine/\aY xs its.toList
def Vz:Value->Option V
 |.none=>some .bR
 |.bool b=>some (.bl b)
 |.int i _=>some (.int i)
 |.str x _=>some (.str x)
 |.bytes b _=>some (.CG b)
 |.float b _=>some (.K5 b)
 |.ref a=>some (.ref a)
 |.type n=>some (.ty n)
 |_=>none
theorem bq.abs(r:bq x u):Vz u=some x:=by
 cases x with
 |bR=>cases r;rfl
 |bl _=>cases r;rfl
 |int _=>obtain⟨t,rfl⟩:=r;rfl
 |str _=>obtain⟨t,rfl⟩:=r;rfl
 |CG _=>obtain⟨t,rfl⟩:=r;rfl
 |K5 _=>obtain⟨t,rfl⟩:=r;rfl
 |ref _=>cases r;rfl
 |ty _=>cases r;rfl
theorem bq.inj(r:bq x u)(q:bq y u):x=y:=ba (r.abs.symm.trans q.abs)
theorem aY.inj:∀ {xs ys:List V} {us:List Value},aY xs us->aY ys us->xs=ys
 |_,_,_,.nil,.nil=>rfl
 |_,_,_,.cons r t,.cons r' t'=>by rw[r.inj r',aY.inj t t']
section
variable {X:Cx} {ae:List (Addr×Obj)} {σ:St} {H:Hp} {s:Shared} {a:Addr} {xs ys:List V}
theorem aU.of{K:PySem.W.Frag}(h:H a=some (.lst xs)):aU K H a xs:=.inl (.inl h)
theorem cK.of{K:PySem.W.Frag}(h:H a=some (.tup xs)):cK K H a xs:=.inl (.inl h)
theorem aQ.list(I:aQ X ae σ H s)(h:aU X.K H a xs):∃its:List Value,aY xs its/\PlainL s.heap a its.toArray/\xs.length<=sizeLine:=by
 rcases h with h|⟨o,its,n,hk,hc,hd,hs,hz,r⟩
 .obtain⟨z,its,n,r,e⟩:=h.ok I.bS;exact⟨its,r,⟨_,n,e,rfl,rfl,rfl⟩,z⟩
 .refine⟨its.toList,r,⟨o,n,I.oC a o hk,hc,hd,by simpa using hs⟩,?_⟩;have e:=r.length;simp only[iX] at e;lia
theorem aQ.tuple(I:aQ X ae σ H s)(h:cK X.K H a xs):∃its:List Value,aY xs its/\IsTup s.heap a its.toArray/\xs.length<=sizeLine:=by
 rcases h with h|⟨o,its,n,hk,hc,hs,hz,r⟩
 .obtain⟨z,its,r,p⟩:=h.ok I.bS;exact⟨its,r,p.tup,z⟩
 .refine⟨its.toList,r,⟨o,I.oC a o hk,hc,n,by simpa using hs⟩,?_⟩;have e:=r.length;simp only[iX] at e;lia
theorem aQ.xj(I:aQ X ae σ H s)(h:aU X.K H a xs)(h':aU X.K H a ys):xs=ys:=by
 obtain⟨its,r,⟨o,n,e,_,_,d⟩,_⟩:=I.list h;obtain⟨its',r',⟨o',n',e',_,_,d'⟩,_⟩:=I.list h';rw[e] at e';cases e';rw[d] at d';injection d' with d1 _;have:its=its':=by simpa using congrArg Array.toList d1
 subst this;exact r.inj r'
theorem aQ.tX(I:aQ X ae σ H s)(h:cK X.K H a xs)(h':cK X.K H a ys):xs=ys:=by
 obtain⟨its,r,⟨o,e,_,n,d⟩,_⟩:=I.tuple h;obtain⟨its',r',⟨o',e',_,n',d'⟩,_⟩:=I.tuple h';rw[e] at e';cases e';rw[d] at d';injection d' with d1 _;have:its=its':=by simpa using congrArg Array.toList d1
 subst this;exact r.inj r'
end
abbrev Cx.tw(X:Cx)(E:Value->Shared->Prop):Cx:={ X with xe:=E }
abbrev Cx.Lb(X:Cx):Cx:=X.tw fun _ _=>False
theorem Cx.Ok.tw{X:Cx}(ok:X.Ok)(E:Value->Shared->Prop):(X.tw E).Ok:=
 ⟨ok.mod,ok.kind,ok.glob,ok.blt,ok.above,ok.inj,ok.has,ok.Py,ok.hd,ok.frames,ok.Pz,ok.Vs,ok.bs,ok.DS,ok.Ep,ok.Ik,ok.oB,ok.Mq⟩
theorem Cx.Ok.kF{X:Cx}{E:Value->Shared->Prop}(ok:(X.tw E).Ok):X.Ok:=
 ⟨ok.mod,ok.kind,ok.glob,ok.blt,ok.above,ok.inj,ok.has,ok.Py,ok.hd,ok.frames,ok.Pz,ok.Vs,ok.bs,ok.DS,ok.Ep,ok.Ik,ok.oB,ok.Mq⟩
section
variable {X:Cx} {ae:List (Addr×Obj)} {σ:St} {H:Hp} {s:Shared} {E:Value->Shared->Prop}
theorem aQ.tw(I:aQ X ae σ H s)(E:Value->Shared->Prop):aQ (X.tw E) ae σ H s:=⟨I.ok.tw E,I.os,I.bare,I.base,I.loc,I.cell,I.free,I.kD,I.pin,I.bS,I.len⟩
theorem aQ.kF(I:aQ (X.tw E) ae σ H s):aQ X ae σ H s:=⟨I.ok.kF,I.os,I.bare,I.base,I.loc,I.cell,I.free,I.kD,I.pin,I.bS,I.len⟩
theorem SP.kF(h:SP (X.tw E) ae D f s'):SP X ae D f s':=by
 cases f with
 |next=>obtain⟨σ',H',I,q⟩:=h;exact⟨σ',H',I.kF,q⟩
 |brk=>obtain⟨σ',H',I,q⟩:=h;exact⟨σ',H',I.kF,q⟩
 |cont=>obtain⟨σ',H',I,q⟩:=h;exact⟨σ',H',I.kF,q⟩
 |ret u=>obtain⟨v,σ',H',I,r,q⟩:=h;exact⟨v,σ',H',I.kF,r,q⟩
theorem z8.Lb{st:List Stmt}{t:TS}(h:z8 X.Lb st t):z8 X st t:=fun ae s σ H D I hw=>
 iQ (h ae s σ H D (I.tw _) hw) (fun _ _ q=>q.kF) fun _ _ z=>False.elim z
end
section
variable {X:Cx} {st:Stmt} {pV:List Stmt} {t u:TS} {e:Expr} {te:TE} {pos:Pos}
def Qj:TS:=fun D σ H=>D.nx σ H
def Mw(t u:TS):TS:=fun D σ H=>t { D with nx:=u D } σ H
theorem aR:z8 X [] Qj:=fun _ _ σ H _ I h=>vo ⟨σ,H,I,h⟩
theorem ah(h1:PS X st t)(h2:z8 X pV u):z8 X (st::pV) (Mw t u):=by
 intro ae s σ H D I h;refine wpAny_execs_cons (cJ (h1 ae s σ H { D with nx:=u D } I h) fun f s1 q=>?_);cases f with
 |next=>
  obtain⟨σ',H',I',q⟩:=q;exact h2 ae s1 σ' H' D I' q
 |ret v=>exact q
 |brk=>exact q
 |cont=>exact q
theorem al(h1:PS X st t):z8 X [st] t:=by
 intro ae s σ H D I h;refine wpAny_execs_cons (cJ (h1 ae s σ H D I h) fun f s1 q=>?_);cases f with
 |next=>exact vo q
 |ret v=>exact q
 |brk=>exact q
 |cont=>exact q
theorem aQ.quiet(I:aQ X ae σ H s):interactive X.env=false:=by simp[interactive,I.ok.kind]
def Qk(te:TE):TS:=fun D σ H=>te σ H fun _ H1=>D.nx σ H1
theorem cg(he:PE X e te)(hs:swapsWith e none pos.line X.env=pure false:=by rfl):PS X (.Expr e pos) (Qk te):=by
 intro ae s σ H D I h;exact wpAny_Expr_any (cJ (he ae s σ H _ I h) fun v s1 ⟨x,H1,I1,r1,q1⟩=>⟨σ,H1,I1,q1⟩) I.quiet hs
def VA(te:TE):TS:=fun D σ H=>te σ H D.rt
theorem aH(he:PE X e te):PS X (.Return (some e) pos) (VA te):=by
 intro ae s σ H D I h;exact wpAny_Return_some (cJ (he ae s σ H _ I h) fun v s1 ⟨x,H1,I1,r1,q1⟩=>⟨x,σ,H1,I1,r1,q1⟩)
def VB(c:TT)(t u:TS):TS:=fun D σ H=>c σ H fun b H1=>if b=true then t D σ H1 else u D σ H1
theorem bA(hc:PT X c tc)(ha:z8 X a t)(hb:z8 X b u):PS X (.If c a b pos) (VB tc t u):=by
 intro ae s σ H D I h;refine wpAny_If (cJ (hc ae s σ H _ I h) fun d s1 ⟨H1,I1,q1⟩=>?_);cases d with
 |true=>exact ha ae s1 σ H1 D I1 q1
 |false=>exact hb ae s1 σ H1 D I1 q1
def Mx:TS:=fun _ _ _=>False
theorem dI:z8 X sts Mx:=fun _ _ _ _ _ _ h=>h.elim
end
abbrev TG:=V->St->Hp->(St->Hp->Prop)->Prop
abbrev Ql:=List V->St->Hp->(St->Hp->Prop)->Prop
def PG(X:Cx)(My:Expr)(t:TG):Prop:=
 ∀ (ae:List (Addr×Obj)) (s:Shared) (σ:St) (H:Hp) (v:V) (u:Value) (Q:St->Hp->Prop),aQ X ae σ H s->bq v u->t v σ H Q->
  wpAny (model X.prog X.w) X.A (assign My X.env u) (fun _ s'=>∃σ' H',aQ X ae σ' H' s'/\Q σ' H') X.xe s
def Uk(X:Cx)(ts:List Expr)(t:Ql):Prop:=
 ∀ (ae:List (Addr×Obj)) (s:Shared) (σ:St) (H:Hp) (vs:List V) (us:List Value) (Q:St->Hp->Prop),aQ X ae σ H s->aY vs us->t vs σ H Q->
  wpAny (model X.prog X.w) X.A (assignInOrder ((assignEach ts X.env).map (·.2)) us) (fun _ s'=>∃σ' H',aQ X ae σ' H' s'/\Q σ' H') X.xe s
abbrev Qm:=V->V->V->Hp->(Hp->Prop)->Prop
def Qn(X:Cx)(t:Qm):Prop:=
 ∀ (ae:List (Addr×Obj)) (s:Shared) (σ:St) (H:Hp) (o i v:V) (ov iv u:Value) (Q:Hp->Prop),aQ X ae σ H s->bq o ov->bq i iv->bq v u->t o i v H Q->
  wpAny (model X.prog X.w) X.A (setItem ov iv u) (fun _ s'=>∃H',aQ X ae σ H' s'/\Q H') X.xe s
abbrev VC:=V->V->Hp->VK->Prop
def ZT(X:Cx)(op:Operator)(t:VC):Prop:=
 ∀ (ae:List (Addr×Obj)) (s:Shared) (σ:St) (H:Hp) (x y:V) (v u:Value) (Q:VK),aQ X ae σ H s->bq x v->bq y u->t x y H Q->
  wpAny (model X.prog X.w) X.A (inplaceOp op v u) (EP X ae σ Q) X.xe s
section
variable {X:Cx} {pos:Pos}
def bo(i:Nat):TG:=fun v σ H Q=>Q (σ.set i (some v)) H
theorem au(hN:X.N.Nodup)(hi:X.N[i]?=some x)(hx:Qc X.env.scope x)(hf:X.fn x=true\/X.env.scope.names.lookup x=some .local:=by first|exact .inl rfl|exact .inr rfl|assumption):PG X (.Name x pos) (bo i):=by
 intro ae s σ H v u Q I r h;exact wpAny_assign_Name (re I hN hi hx r (fun s' I'=>⟨_,H,I',h⟩) hf)
def rf:Ql:=fun vs σ H Q=>vs=[]/\Q σ H
def fq(t:TG)(u:Ql):Ql:=fun vs σ H Q=>∃v r,vs=v::r/\t v σ H fun σ' H'=>u r σ' H' Q
theorem dZ:Uk X [] rf:=by
 intro ae s σ H vs us Q I r h;obtain⟨e,h⟩:=h;subst e;cases r;exact assignInOrder_nil ⟨σ,H,I,h⟩
theorem a9(h1:PG X e t)(h2:Uk X es u)(hs:(assignEach (e::es) X.env).map (·.2)=assign e X.env::(assignEach es X.env).map (·.2):=by rfl):Uk X (e::es) (fq t u):=by
 intro ae s σ H vs us Q I r h;obtain⟨v,vr,e1,h⟩:=h;subst e1;cases r with
 |cons r rr=>
  rw[hs];refine assignInOrder_cons (cJ (h1 ae s σ H _ _ _ I r h) fun _ s1 ⟨σ1,H1,I1,q1⟩=>?_);exact h2 ae s1 σ1 H1 _ _ Q I1 rr q1
def rh(K:PySem.W.Frag)(n:Nat)(t:Ql):TG:=fun v σ H Q=>∃a xs,v=.ref a/\cK K H a xs/\xs.length=n/\t xs σ H Q
theorem fw(hc:X.calm=true)(h:Uk X es t)(hn:(assignEach es X.env).length=n:=by rfl)(oE:(assignEach es X.env).findIdx? (·.1)=none:=by rfl):PG X (.Tuple es k pos) (rh X.K n t):=by
 intro ae s σ H v u Q I r hw;obtain⟨a,xs,e1,hq,hl,hw⟩:=hw;subst e1;cases r;obtain⟨its,rv,ht,hz⟩:=I.tuple hq;refine assign_Tuple_tuple (I.ok.hd hc) ht (by simp[hn,<-hl,rv.length]) oE fun h' hx=>?_;have I1:aQ X ae σ H { s with heap:=h' }:=I.kept (t':=s.toks) fun b o e=>hx b o (bg (bn e)) e;exact h ae _ σ H xs _ Q I1 (by simpa using rv) hw
def VD(to ti:TE)(t:Qm):TG:=fun v σ H Q=>to σ H fun o H1=>ti σ H1 fun i H2=>t o i v H2 fun H3=>Q σ H3
theorem oF(ho:PE X o to)(hi:PE X i ti)(hs:Qn X t)(ha:∀v,assign (.Subscript o i pos) X.env v=(do
   let ov <- holding [v] (eval o X.env)
   let iv <- holding [v,ov] (eval i X.env)
   standAt pos
   holding [v,ov,iv] (setItem ov iv v)
   release [v,ov,iv] []):=by intro _;rfl):PG X (.Subscript o i pos) (VD to ti t):=by
 intro ae s σ H v u Q I r h;rw[ha];refine aN (ig (cJ (ho ae s σ H _ I h) fun ov s1 ⟨x,H1,I1,r1,q1⟩=>?_));refine aN (ig (cJ (hi ae s1 σ H1 _ I1 q1) fun iv s2 ⟨y,H2,I2,r2,q2⟩=>?_));refine aN (q9 (aN (ig (cJ (hs ae s2 σ H2 x y v ov iv u _ I2 r1 r2 r q2) fun _ s3 ⟨H3,I3,q3⟩=>?_))));exact wpAny_release ⟨σ,H3,I3,q3⟩
def CK(te:TE)(g:TG):TS:=fun D σ H=>te σ H fun x H1=>g x σ H1 D.nx
theorem iR(he:PE X e te)(hg:PG X tg g)(hs:swapsWithSole [tg] e pos.line X.env=pure false:=by rfl)(hw:swappedStores [tg] e X.env=pure none:=by rfl)(h1:(assignEach [tg] X.env).map (·.2)=[assign tg X.env]:=by rfl):PS X (.Assign [tg] e pos) (CK te g):=by
 intro ae s σ H D I h;refine wpAny_Assign_stores (cJ (he ae s σ H _ I h) fun v s1 ⟨x,H1,I1,r1,q1⟩=>?_) hs hw;rw[h1];exact cJ (hg ae s1 σ H1 x v _ I1 r1 q1) fun _ s2 q=>q
theorem aK(hN:X.N.Nodup)(hi:X.N[i]?=some x)(hx:Qc X.env.scope x)(he:PE X e te)(hs:swapsWith e (some (.Name x pU)) pos.line X.env=pure false:=by rfl)(hf:X.fn x=true\/X.env.scope.names.lookup x=some .local:=by first|exact .inl rfl|exact .inr rfl|assumption):
  PS X (.Assign [.Name x pU] e pos) (CK te (bo i)):=by
 intro ae s σ H D I h;refine wpAny_Assign_Name (cJ (he ae s σ H _ I h) fun v s1 ⟨y,H1,I1,r1,q1⟩=>?_) hs;exact re I1 hN hi hx r1 (fun s2 I2=>⟨_,H1,I2,q1⟩) hf
def VE(i:Nat)(te:TE)(ti:VC):TS:=fun D σ H=>∃x,σ[i]?=some (some x)/\te σ H fun y H1=>ti x y H1 fun z H2=>D.nx (σ.set i (some z)) H2
theorem Eu(hN:X.N.Nodup)(hi:X.N[i]?=some x)(hx:Qc X.env.scope x)(he:PE X e te)(ho:ZT X op ti)(hf:X.fn x=true\/X.env.scope.names.lookup x=some .local:=by first|exact .inl rfl|exact .inr rfl|assumption):
  PS X (.AugAssign (.Name x pU) op e pos) (VE i te ti):=by
 intro ae s σ H D I h;obtain⟨v,e1,h⟩:=h;obtain⟨m,hn,hl⟩:=I.loc;have VF:Qb X.env.scope x:=by rcases hx with k|k;exact .inl k;exact .inr (.inl k)
 obtain⟨u,r,l⟩:=hl i x v hi e1 VF;refine wpAny_AugAssign_Name ?_;have go:wpAny (model X.prog X.w) X.A (eval e X.env) (fun w s₂=>wpAny (model X.prog X.w) X.A (inplaceOp op u w) (fun r s₃=>wpAny (model X.prog X.w) X.A (storeName X.env x r) (fun _=>SP X ae D .next) X.xe s₃) X.xe s₂) X.xe s:=by
  refine cJ (he ae s σ H _ I h) fun w s1 ⟨y,H1,I1,r1,q1⟩=>?_;refine cJ (ho ae s1 σ H1 v y u w _ I1 r r1 q1) fun z s2 ⟨zv,H2,I2,r2,q2⟩=>?_;exact re I2 hN hi hx r2 (fun s3 I3=>⟨_,H2,I3,q2⟩) hf
 rcases l with ⟨hk,hm⟩|⟨hk,c,hc,Bg⟩
 .exact zK I.ok.kind hk hn hm go
 .rcases hk with hk|hk
  .exact wpAny_loadName_cell I.ok.kind hk hc Bg go
  .rcases hx with k|k
   .have:X.env.scope.names.lookup x=some .free:=hk;rw[k] at this;cases this
   .have:X.env.scope.names.lookup x=some .free:=hk;rw[k] at this;cases this
def ipI(f:Int->Int->Int):VC:=fun x y H Q=>∃i j,x=.int i/\y=.int j/\Q (.int (f i j)) H
theorem Ew:ZT X .Add (ipI fun i j=>i+j):=by
 intro ae s σ H x y v u Q I r1 r2 h;obtain⟨i,j,e1,e2,q⟩:=h;subst e1;subst e2;obtain⟨t,rfl⟩:=r1;obtain⟨t',rfl⟩:=r2;exact iadd_int ⟨.int _,H,I.tok _,⟨_,rfl⟩,q⟩
def Ey(c:TT)(tb:TS):TS:=fun D σ H=>∃W:Nat->St->Hp->Prop,(∃m,W m σ H)/\∀m σ H,W m σ H->
 c σ H fun b H1=>if b=true then ∃N:St->Hp->Prop,(∀σ' H',N σ' H'->∃m',m'<m/\W m' σ' H')/\tb { D with nx:=N,ct:=N,bk:=D.nx } σ H1 else D.nx σ H1
theorem rj(hp:PassesOwn (model X.prog X.w) X.A X.env X.xe)(hc:PT X c tc)(hb:z8 X body tb):PS X (.While c body [] pos) (Ey tc tb):=by
 intro ae s σ H D I h;obtain⟨W,⟨m0,w0⟩,Ez⟩:=h;refine wpAny_While (codeAny_whileLoop (fun n s'=>∃σ' H',aQ X ae σ' H' s'/\W n σ' H') ?_ m0 ⟨σ,H,I,w0⟩);rintro n s1 ⟨σ1,H1,I1,w1⟩;refine mf hp (cJ (hc ae s1 σ1 H1 _ I1 (Ez n σ1 H1 w1)) fun b s2 ⟨H2,I2,q2⟩=>?_);cases b with
 |true=>
  obtain⟨N,hN,q2⟩:=q2;rw[aq rfl];refine mf hp (cJ (hb ae s2 σ1 H2 _ I2 q2) fun f s3 q3=>?_);cases f with
  |next=>
   obtain⟨σ3,H3,I3,n3⟩:=q3;obtain⟨m',hm,w3⟩:=hN σ3 H3 n3;exact⟨m',hm,σ3,H3,I3,w3⟩
  |cont=>
   obtain⟨σ3,H3,I3,n3⟩:=q3;obtain⟨m',hm,w3⟩:=hN σ3 H3 n3;exact⟨m',hm,σ3,H3,I3,w3⟩
  |brk=>exact q3
  |ret v=>exact q3
 |false=>
  rw[ap cP];exact vo ⟨σ1,H2,I2,q2⟩
end
structure It where
 go:Nat->Hp->Prop
 Lc:Nat->Hp->V->Hp->Prop
 stop:Nat->Hp->Prop
 Ul:Around->Hp->Prop
def lF(X:Cx)(ae:List (Addr×Obj))(H:Hp)(b:Addr):Prop:=
 H b=none/\b≠X.env.locals/\b∉X.fs/\(b∈X.ex\/X.s₀.heap.objs.size<=b)/\(∀x c,X.env.cells.lookup x=some c->c≠b)/\∀p∈X.pn++ae,p.1≠b
theorem aQ.xk(I:aQ X ae σ H s)(hb:s.heap.objs.size<=b)(hn:H' b=none):lF X ae H' b:=by
 refine⟨hn,kA (bT I.lt hb),I.Vu hb,.inr (bj I.sz hb),fun x c e z=>?_,fun p hp z=>?_⟩
 .obtain⟨v,q⟩:=I.cell x c e;exact absurd (bT q.lt (by rw[z];exact hb)) (jU _)
 .exact absurd (bT (bn (I.pin p hp).1) (by rw[z];exact hb)) (jU _)
structure vD(P:Program)(w:World)(K:PySem.W.Frag)(tg:Expr)(J:It)(fp:List Addr)(it:Addr)(tn:Nat->Heap->Prop):Prop where
 mem:it∈fp
 obj:∀i h,tn i h->∀b∈fp,∃o,h.get? b=some o/\∀v,o.data≠.cell v
 keep:∀i h h',tn i h->(∀b∈fp,∀o,h.get? b=some o->h'.get? b=some o)->tn i h'
 item:∀ (X:Cx),X.prog=P->X.w=w->X.K=K->∀ (i:Nat) (ae:List (Addr×Obj)) (s:Shared) (σ:St) (H:Hp) (E:Value->Shared->Prop),(X.calm=true\/J.Ul X.A H)->aQ X ae σ H s->(∀b∈fp,lF X ae H b)->tn i s.heap->J.go i H->
  wpAny (model P w) X.A (pyNext (.ref it)) (fun r s1=>∃u,r=some u/\
   wpAny (model P w) X.A (letOwnedTupleGo tg (.ref it) u) (fun _ s2=>∃x H',aQ X ae σ H' s2/\bq x u/\J.Lc i H x H'/\tn (i+1) s2.heap/\∀b∈fp,H' b=none) E s1) E s
 done:∀ (X:Cx),X.prog=P->X.w=w->X.K=K->∀ (i:Nat) (ae:List (Addr×Obj)) (s:Shared) (σ:St) (H:Hp) (E:Value->Shared->Prop),(X.calm=true\/J.Ul X.A H)->aQ X ae σ H s->(∀b∈fp,lF X ae H b)->tn i s.heap->J.stop i H->
  wpAny (model P w) X.A (pyNext (.ref it)) (fun r s1=>r=none/\aQ X ae σ H s1) E s
 self:∀ (A:Around) (i:Nat) (s:Shared) (Q:Value->Shared->Prop) (E:Value->Shared->Prop),tn i s.heap->Q (.ref it) s->wpAny (model P w) A (pyIter (.ref it)) Q E s
abbrev TI:=St->Hp->(It->Hp->Prop)->Prop
def ZU(X:Cx)(ae:List (Addr×Obj))(σ:St)(tg:Expr)(R:It->Hp->Prop)(Um:Value)(s2:Shared):Prop:=
 ∃ (it:Addr) (fp:List Addr) (tn:Nat->Heap->Prop) (J:It) (H':Hp),Um=.ref it/\aQ X ae σ H' s2/\vD X.prog X.w X.K tg J fp it tn/\tn 0 s2.heap/\(∀b∈fp,lF X ae H' b)/\R J H'
def PI(X:Cx)(tg j5:Expr)(wi:TI):Prop:=
 ∀ (ae:List (Addr×Obj)) (s:Shared) (σ:St) (H:Hp) (R:It->Hp->Prop),aQ X ae σ H s->wi σ H R->
  wpAny (model X.prog X.w) X.A (eval j5 X.env) (fun v s1=>wpAny (model X.prog X.w) X.A (pyIter v) (ZU X ae σ tg R) X.xe s1) X.xe s
theorem Bh(ho:s.heap.get? it=some o)(hc:o.cls=.type n)(hd:o.data=.fields vs)(hn:["enumerate","zip","dict_itemiterator","dict_reverseitemiterator","odict_iterator","itertools.zip_longest","itertools.pairwise"].contains n=false)(hQ:Q () s):wpAny M A (letOwnedTupleGo tg (.ref it) u) Q E s:=by
 unfold letOwnedTupleGo;cases tg <;> first
  |exact wpAny_pure hQ
  |(cases u <;> first
    |exact wpAny_pure hQ
    |(refine aN (wpAny_load ho ?_);rw[hc,hd];show wpAny M A (if (["enumerate","zip","dict_itemiterator","dict_reverseitemiterator","odict_iterator","itertools.zip_longest","itertools.pairwise"].contains n&&vs[0]?==some (rawInt _))=true then _ else _) Q E s;rw[ap (by intro h;rw[hn,mi] at h;cases h)];exact wpAny_pure hQ))
def EA(K:PySem.W.Frag)(a:Addr):It:=
 ⟨fun i H=>∃xs x,aU K H a xs/\xs[i]?=some x,fun i H x H'=>H'=H/\∀xs,aU K H a xs->xs[i]?=some x,fun i H=>∃xs,aU K H a xs/\xs.length<=i,fun _ _=>False⟩
def VG(K:PySem.W.Frag)(a:Addr):It:=
 ⟨fun i H=>∃xs x,cK K H a xs/\xs[i]?=some x,fun i H x H'=>H'=H/\∀xs,cK K H a xs->xs[i]?=some x,fun i H=>∃xs,cK K H a xs/\xs.length<=i,fun _ _=>False⟩
def Ld(lo:Int)(n:Nat):It:=⟨fun i _=>i<n,fun i H x H'=>H'=H/\x=.int (lo+i),fun i _=>n<=i,fun A H=>A.handled=none\/∃p φ,A.handled=some (.ref p)/\H p=some (.ext φ)/\∀h,φ h->Bb p h⟩
theorem CL{P:Program}{w:World}{K:PySem.W.Frag}{tg:Expr}(a it:Addr):vD P w K tg (EA K a) [it] it (fun i h=>h.IsListIter it a i) where
 mem:=by simp
 obj:=fun i h st b hb=>by
  have e:b=it:=by simpa using hb
  subst e;obtain⟨o,e,c,d⟩:=st;exact⟨o,e,fun v z=>by rw[d] at z;cases z⟩
 keep:=fun i h h' st k=>st.at fun o e=>k it (by simp) o e
 item:=by
  intro X hP hw hK i ae s σ H E vE I hf st hg;subst hP hw hK;have hc:X.calm=true:=vE.elim id fun z=>(show False from z).elim;obtain⟨xs,x,hq,hx⟩:=hg;obtain⟨its,rv,p,hz⟩:=I.list hq;obtain⟨u,hu,ru⟩:=rv.get hx;obtain⟨f0,f1,f2,f3,f4,f5⟩:=hf it (by simp);refine zA st p.isList (x:=u) (by simpa using hu) fun h' aW sb=>?_;have I1:aQ X ae σ H { s with heap:=h' }:=I.turned (t':=s.toks) (fun b o hb e=>(sb.2 b hb).trans e) f0 f1 f3 f4 f5;obtain⟨o,e,c,d⟩:=id aW;exact⟨u,rfl,Bh (s:={ s with heap:=h' }) e c d (by decide) ⟨x,H,I1,ru,⟨rfl,fun ys hy=>by rw[I.xj hy hq];exact hx⟩,aW,fun b hb=>(hf b hb).1⟩⟩
 done:=by
  intro X hP hw hK i ae s σ H E vE I hf st hg;subst hP hw hK;have hc:X.calm=true:=vE.elim id fun z=>(show False from z).elim;obtain⟨xs,hq,hx⟩:=hg;obtain⟨its,rv,p,hz⟩:=I.list hq;obtain⟨f0,f1,f2,f3,f4,f5⟩:=hf it (by simp);have hl:=rv.length;exact zH (I.ok.hd hc) st p.isList (by simp;lia) fun h' eb=>⟨rfl,I.turned (t':=s.toks) (fun b o hb e=>eb b o hb e) f0 f1 f3 f4 f5⟩
 self:=fun _ _ _ _ _ st h=>wpAny_pyIter_listiter st h
theorem z_{P:Program}{w:World}{K:PySem.W.Frag}{tg:Expr}(a it:Addr):vD P w K tg (VG K a) [it] it (fun i h=>h.IsTupleIter it a i) where
 mem:=by simp
 obj:=fun i h st b hb=>by
  have e:b=it:=by simpa using hb
  subst e;obtain⟨o,e,c,d⟩:=st;exact⟨o,e,fun v z=>by rw[d] at z;cases z⟩
 keep:=fun i h h' st k=>st.at fun o e=>k it (by simp) o e
 item:=by
  intro X hP hw hK i ae s σ H E vE I hf st hg;subst hP hw hK;have hc:X.calm=true:=vE.elim id fun z=>(show False from z).elim;obtain⟨xs,x,hq,hx⟩:=hg;obtain⟨its,rv,p,hz⟩:=I.tuple hq;obtain⟨u,hu,ru⟩:=rv.get hx;obtain⟨f0,f1,f2,f3,f4,f5⟩:=hf it (by simp);refine wpAny_pyNext_tuple_item st (show s.heap.IsTuple a its.toArray from p) (x:=u) (by simpa using hu) fun h' aW sb=>?_;have I1:aQ X ae σ H { s with heap:=h' }:=I.turned (t':=s.toks) (fun b o hb e=>(sb.2 b hb).trans e) f0 f1 f3 f4 f5;obtain⟨o,e,c,d⟩:=id aW;exact⟨u,rfl,Bh (s:={ s with heap:=h' }) e c d (by decide) ⟨x,H,I1,ru,⟨rfl,fun ys hy=>by rw[I.tX hy hq];exact hx⟩,aW,fun b hb=>(hf b hb).1⟩⟩
 done:=by
  intro X hP hw hK i ae s σ H E vE I hf st hg;subst hP hw hK;have hc:X.calm=true:=vE.elim id fun z=>(show False from z).elim;obtain⟨xs,hq,hx⟩:=hg;obtain⟨its,rv,p,hz⟩:=I.tuple hq;obtain⟨f0,f1,f2,f3,f4,f5⟩:=hf it (by simp);have hl:=rv.length;exact wpAny_pyNext_tuple_end (I.ok.hd hc) st (show s.heap.IsTuple a its.toArray from p) (by simp;lia) fun h' eb=>⟨rfl,I.turned (t':=s.toks) (fun b o hb e=>eb b o hb e) f0 f1 f3 f4 f5⟩
 self:=fun _ _ _ _ _ st h=>wpAny_pyIter_tupleiter st h
theorem Aa{P:Program}{w:World}{K:PySem.W.Frag}{tg:Expr}(it:Addr)(lo:Int)(n:Nat):vD P w K tg (Ld lo n) [it] it (fun i h=>IsRangeIter h it (lo+(i:Nat)*1) ((n:Int)-(i:Nat)) 1) where
 mem:=by simp
 obj:=fun i h st b hb=>by
  have e:b=it:=by simpa using hb
  subst e;exact⟨_,st,fun v z=>by
   have z':Data.fields _=Data.cell v:=z;cases z'⟩
 keep:=fun i h h' st k=>k it (by simp) _ st
 item:=by
  intro X hP hw hK i ae s σ H E hc I hf st hg;subst hP hw hK;obtain⟨f0,f1,f2,f3,f4,f5⟩:=hf it (by simp);refine wpAny_pyNext_range_item st (by have:i<n:=hg;lia) fun h' aW sb=>?_;have I1:aQ X ae σ H { s with heap:=h',toks:=s.toks+1 }:=I.turned (fun b o hb e=>(sb.2 b hb).trans e) f0 f1 f3 f4 f5;have i6:IsRangeIter h' it (lo+((i+1:Nat):Int)*1) ((n:Int)-((i+1:Nat):Int)) 1:=by
   rw[show lo+((i+1:Nat):Int)*1=lo+(i:Int)*1+1 by lia,show (n:Int)-((i+1:Nat):Int)=(n:Int)-(i:Int)-1 by lia];exact aW
  exact⟨_,rfl,Bh (s:={ s with heap:=h',toks:=s.toks+1 }) (n:="range_iterator") i6 rfl rfl (by decide) ⟨.int (lo+i),H,I1,⟨s.toks,by rw[Int.mul_one]⟩,⟨rfl,rfl⟩,i6,fun b hb=>(hf b hb).1⟩⟩
 done:=by
  intro X hP hw hK i ae s σ H E hc I hf st hg;subst hP hw hK;obtain⟨f0,f1,f2,f3,f4,f5⟩:=hf it (by simp);have he:X.A.handled=none\/∃p φ,X.A.handled=some (.ref p)/\H p=some (.ext φ)/\∀h,φ h->Bb p h:=hc.elim (fun z=>.inl (I.ok.hd z)) id;rcases he with hn|⟨p,φ,hp,hH,hφ⟩
  .exact wpAny_pyNext_range_end hn st (by have:n<=i:=hg;lia) fun h' eb=>⟨rfl,I.turned (t':=s.toks) (fun b o hb e=>eb b o hb e) f0 f1 f3 f4 f5⟩
  .exact z7 hp (hφ _ (I.bS p _ hH).1) st (by have:n<=i:=hg;lia) fun h' eb=>⟨rfl,I.kept (t':=s.toks) eb⟩
 self:=fun _ _ _ _ _ st h=>wpAny_pyIter_rangeiter st h
section
variable {X:Cx} {tg:Expr}
def Qo(K:PySem.W.Frag)(tl:TE):TI:=fun σ H R=>tl σ H fun x H1=>∃a,x=.ref a/\(∃xs,aU K H1 a xs)/\R (EA K a) H1
def VH(K:PySem.W.Frag)(tl:TE):TI:=fun σ H R=>tl σ H fun x H1=>∃a,x=.ref a/\(∃xs,cK K H1 a xs)/\R (VG K a) H1
theorem b_{l:Expr}{tl:TE}(hl:PE X l tl):PI X tg l (Qo X.K tl):=by
 intro ae s σ H R I h;refine cJ (hl ae s σ H _ I h) fun v s1 ⟨x,H1,I1,r1,q1⟩=>?_;obtain⟨a,e,⟨xs,hq⟩,q⟩:=q1;subst e;cases r1;obtain⟨its,rv,p,hz⟩:=I1.list hq;refine qV p.isList ?_;refine⟨s1.heap.objs.size,[s1.heap.objs.size],_,_,H1,rfl,I1.kept (t':=s1.toks) fun b o e=>cR _ e,CL a _,⟨_,dC _ rfl,rfl,rfl⟩,fun b hb=>?_,q⟩;have e:b=s1.heap.objs.size:=by simpa using hb
 subst e;exact I1.xk (bf _) (I1.bS.fresh (bf _))
theorem EB{l:Expr}{tl:TE}(hl:PE X l tl):PI X tg l (VH X.K tl):=by
 intro ae s σ H R I h;refine cJ (hl ae s σ H _ I h) fun v s1 ⟨x,H1,I1,r1,q1⟩=>?_;obtain⟨a,e,⟨xs,hq⟩,q⟩:=q1;subst e;cases r1;obtain⟨its,rv,p,hz⟩:=I1.tuple hq;refine zU (show s1.heap.IsTuple a its.toArray from p) ?_;refine⟨s1.heap.objs.size,[s1.heap.objs.size],_,_,H1,rfl,I1.kept (t':=s1.toks) fun b o e=>cR _ e,z_ a _,⟨_,dC _ rfl,rfl,rfl⟩,fun b hb=>?_,q⟩;have e:b=s1.heap.objs.size:=by simpa using hb
 subst e;exact I1.xk (bf _) (I1.bS.fresh (bf _))
theorem xm{ae:List (Addr×Obj)}{σ:St}{H:Hp}{s:Shared}{R:It->Hp->Prop}{E:Value->Shared->Prop}{lo hi:Int}{t u v:Tok}{tk:Nat}(I:aQ X ae σ H s)(h1:-(2 ^ 62)<=lo)(h2:lo<2 ^ 62)(h3:-(2 ^ 62)<=hi)(h4:hi<2 ^ 62)(q:R (Ld lo (hi-lo).toNat) H):wpAny (model X.prog X.w) X.A (pyIter (.ref s.heap.objs.size)) (ZU X ae σ tg R) E { s with heap:=s.heap.push { cls:=.type "range",data:=.fields #[.int lo t,.int hi u,.int 1 v] },toks:=tk }:=by
 refine wpAny_pyIter_range (IsRange.new ..) (small_one h1 h2 h3 h4) ?_;have I1:aQ X ae σ H { s with heap:=s.heap.push { cls:=.type "range",data:=.fields #[.int lo t,.int hi u,.int 1 v] },toks:=tk }:=I.kept fun b o e=>cR _ e;refine⟨(s.heap.push { cls:=.type "range",data:=.fields #[.int lo t,.int hi u,.int 1 v] }).objs.size,[(s.heap.push { cls:=.type "range",data:=.fields #[.int lo t,.int hi u,.int 1 v] }).objs.size],_,_,H,rfl,
  I1.kept (t':=tk) fun b o e=>cR _ e,Aa _ lo (hi-lo).toNat,?_,fun b hb=>?_,q⟩
 .have e1:lo+((0:Nat):Int)*1=lo:=by simp
  have e2:(((hi-lo).toNat:Nat):Int)-((0:Nat):Int)=Builtin.Range.rangeSize lo hi 1:=by rw[rangeSize_one];split <;> lia
  show IsRangeIter _ _ (lo+((0:Nat):Int)*1) ((((hi-lo).toNat:Nat):Int)-((0:Nat):Int)) 1;rw[e1,e2];exact dC _ rfl
 .have e:b=(s.heap.push { cls:=.type "range",data:=.fields #[.int lo t,.int hi u,.int 1 v] }).objs.size:=by simpa using hb
  subst e;exact I1.xk (bf _) (I1.bS.fresh (bf _))
def Qp(ta:TA):TI:=fun σ H R=>ta σ H fun vs H1=>∃j:Int,vs=[.int j]/\-(2 ^ 62)<=j/\j<2 ^ 62/\R (Ld 0 j.toNat) H1
def Qq(ta:TA):TI:=fun σ H R=>ta σ H fun vs H1=>∃i j:Int,vs=[.int i,.int j]/\(-(2 ^ 62)<=i/\i<2 ^ 62/\-(2 ^ 62)<=j/\j<2 ^ 62)/\R (Ld i (j-i).toNat) H1
theorem cq{a:Expr}{ta:TA}{p pos:Pos}(hg:Gl X "range")(hm:X.mg "range"=none)(ha:PA X [a] ta)(hs:starEach [a] X.env=[(false,eval a X.env)]:=by rfl):PI X tg (.Call (.Name "range" p) [a] [] pos) (Qp ta):=by
 intro ae s σ H R I h;refine Call_ (kE I hg hm boot_range (qJ (cJ (ha pos ae s σ H _ I h) fun us s1 ⟨vs,H1,I1,r1,q1⟩=>?_) hs rfl));obtain⟨j,e,q1,q2,q⟩:=q1;subst e;cases r1 with
 |cons r rr=>
  cases rr;obtain⟨t,rfl⟩:=r;exact call_range_1 (xm I1 (by lia) (by lia) q1 q2 (by simpa using q))
theorem oG(hg:Gl X "range")(hm:X.mg "range"=none)(ha:PA X [a,b] ta)(hs:starEach [a,b] X.env=[(false,eval a X.env),(false,eval b X.env)]:=by rfl)(rm:starEach [b] X.env=[(false,eval b X.env)]:=by rfl):
  PI X tg (.Call (.Name "range" p) [a,b] [] pos) (Qq ta):=by
 intro ae s σ H R I h;refine Call_ (kE I hg hm boot_range (qJ (cJ (ha pos ae s σ H _ I h) fun us s1 ⟨vs,H1,I1,r1,q1⟩=>?_) (by rw[hs,rm]) (by rw[rm];rfl)));obtain⟨i,j,e,⟨q1,q2,q3,q4⟩,q⟩:=q1;subst e;cases r1 with
 |cons r rr=>
  cases rr with
  |cons r' rr=>
   cases rr;obtain⟨t,rfl⟩:=r;obtain⟨t',rfl⟩:=r';exact call_range_2 (xm I1 q1 q2 q3 q4 q)
def VI(wi:TI)(g:TG)(tb:TS):TS:=fun D σ H=>wi σ H fun J H1=>∃W:Nat->Nat->St->Hp->Prop,(∃m,W 0 m σ H1)/\∀i m σ H,W i m σ H->
 (J.stop i H/\D.nx σ H)\/(J.go i H/\∃N:St->Hp->Prop,(∀σ' H',N σ' H'->∃m',m'<m/\W (i+1) m' σ' H')/\∀x H',J.Lc i H x H'->g x σ H' fun σ2 H2=>tb { D with nx:=N,ct:=N,bk:=D.nx } σ2 H2)
def rp(fp:List Addr)(h:Heap):List (Addr×Obj):=fp.filterMap fun b=>(h.get? b).map fun o=>(b,o)
theorem jz(hb:b∈fp)(e:h.get? b=some o):(b,o)∈rp fp h:=n8.mpr ⟨b,hb,by rw[e];rfl⟩
theorem CM(hp:p∈rp fp h):p.1∈fp/\h.get? p.1=some p.2:=by
 obtain⟨b,hb,e⟩:=n8.mp hp;cases q:h.get? b with
 |none=>rw[q] at e;cases e
 |some o=>
  rw[q] at e;have e':(b,o)=p:=ba e;subst e';exact⟨hb,q⟩
theorem aQ.pinned(I:aQ X ae σ H s)(hf:∀b∈fp,lF X ae H b)(ho:∀b∈fp,∃o,s.heap.get? b=some o/\∀v,o.data≠.cell v):aQ X (ae++rp fp s.heap) σ H s:=
 I.Bc fun p hp=>(bV.mp hp).elim (fun z=>I.pin p (iW _ z)) fun z=>by
  obtain⟨hb,e⟩:=CM z;obtain⟨f0,f1,f2,_⟩:=hf p.1 hb;obtain⟨o,e',d⟩:=ho p.1 hb;rw[e] at e';cases e';exact⟨e,f0,f1,f2,d⟩
theorem aQ.mZ(I:aQ X (ae++pl) σ H s):aQ X ae σ H s:=I.Bc fun p hp=>I.pin p (iW _ (iE _ hp))
theorem cT(hp:PassesOwn (model X.prog X.w) X.A X.env X.xe)(hc:X.calm=true)(hi:PI X tg j5 wi)(hg:PG X tg g)(hb:z8 X body tb)(hs:∀x,foldedSetIterable j5 X.env x=pure x:=by intro _;rfl):PS X (.For tg j5 body [] pos) (VI wi g tb):=by
 intro ae s σ H D I h;refine wpAny_For (cJ (hi ae s σ H _ I h) fun v s1 h1=>cJ h1 fun Um s2 h2=>?_) hs;obtain⟨it,fp,tn,J,H2,e,I2,T,i6,f2,W,⟨m0,w0⟩,Ez⟩:=h2;subst e;have Ab:∀ {H':Hp},(∀b∈fp,H' b=none)->∀b∈fp,lF X ae H' b:=fun hn b hb=>⟨hn b hb,(f2 b hb).2⟩
 refine codeAny_forLoop_any (fun n s'=>∃i σ' H',aQ X ae σ' H' s'/\tn i s'.heap/\(∀b∈fp,H' b=none)/\W i n σ' H') ?_ m0 ⟨0,σ,H2,I2,i6,fun b hb=>(f2 b hb).1,w0⟩;rintro n s3 ⟨i,σ3,H3,I3,vF,Mz,w3⟩;rcases Ez i n σ3 H3 w3 with ⟨stop,qn⟩|⟨go,N,hN,step⟩
 .refine mf hp (cJ (T.done X rfl rfl rfl i ae s3 σ3 H3 X.xe (.inl hc) I3 (Ab Mz) vF stop) fun r s4 ⟨hr,I4⟩=>?_);subst hr;exact vo ⟨σ3,H3,I4,qn⟩
 .refine mf hp (cJ (T.item X rfl rfl rfl i ae s3 σ3 H3 X.xe (.inl hc) I3 (Ab Mz) vF go) fun r s4 ⟨u,hr,h4⟩=>?_);subst hr;refine mf hp (cJ h4 fun _ s5 ⟨x,H5,I5,r5,y5,Bi,VJ⟩=>?_);have VL:=I5.pinned (Ab VJ) (T.obj _ _ Bi);refine mf hp (cJ (hg _ s5 σ3 H5 x u _ VL r5 (step x H5 y5)) fun _ s6 ⟨σ6,H6,I6,q6⟩=>?_);refine mf hp (cJ (hb _ s6 σ6 H6 _ I6 q6) fun f s7 q7=>?_);have again:∀ {σ7:St} {H7:Hp},aQ X (ae++rp fp s5.heap) σ7 H7 s7->N σ7 H7->∃m,m<n/\∃i σ' H',aQ X ae σ' H' s7/\tn i s7.heap/\(∀b∈fp,H' b=none)/\W i m σ' H':=fun {σ7 H7} I7 n7=>by
   obtain⟨m',hm,w7⟩:=hN σ7 H7 n7;refine⟨m',hm,i+1,σ7,H7,I7.mZ,T.keep _ _ _ Bi fun b hb o e=>(I7.pin (b,o) (iW _ (iW _ (jz hb e)))).1,fun b hb=>?_,w7⟩;obtain⟨o,e,d⟩:=T.obj _ _ Bi b hb;exact(I7.pin (b,o) (iW _ (iW _ (jz hb e)))).2.1
  cases f with
  |next=>obtain⟨σ7,H7,I7,n7⟩:=q7;exact again I7 n7
  |cont=>obtain⟨σ7,H7,I7,n7⟩:=q7;exact again I7 n7
  |brk=>obtain⟨σ7,H7,I7,q7⟩:=q7;exact⟨σ7,H7,I7.mZ,q7⟩
  |ret v=>obtain⟨x7,σ7,H7,I7,r7,q7⟩:=q7;exact⟨x7,σ7,H7,I7.mZ,r7,q7⟩
end
theorem ij{K:PySem.W.Frag}{a:Addr}{xs:List V}{g:TG}{tb:TS}{D:vz}{σ:St}{H:Hp}(Pv:Nat->St->Hp->Prop)(h0:Pv 0 σ H)(hl:∀i σ H,i<=xs.length->Pv i σ H->aU K H a xs)(hs:∀i x σ H,xs[i]?=some x->Pv i σ H->g x σ H fun σ2 H2=>tb { D with nx:=Pv (i+1),ct:=Pv (i+1),bk:=D.nx } σ2 H2)(hd:∀σ H,Pv xs.length σ H->D.nx σ H):
  ∃W:Nat->Nat->St->Hp->Prop,(∃m,W 0 m σ H)/\∀i m σ H,W i m σ H->
   ((EA K a).stop i H/\D.nx σ H)\/((EA K a).go i H/\∃N:St->Hp->Prop,(∀σ' H',N σ' H'->∃m',m'<m/\W (i+1) m' σ' H')/\∀x H',(EA K a).Lc i H x H'->g x σ H' fun σ2 H2=>tb { D with nx:=N,ct:=N,bk:=D.nx } σ2 H2):=by
 refine⟨fun i m σ H=>m=xs.length-i/\i<=xs.length/\Pv i σ H,⟨xs.length,by simp,dG _,h0⟩,?_⟩;rintro i m σ H ⟨rfl,hi,p⟩;have q:=hl i σ H hi p;by_cases dL:i<xs.length
 .refine .inr ⟨⟨xs,xs[i],q,by simp[dL]⟩,Pv (i+1),fun σ' H' p'=>⟨xs.length-(i+1),by lia,rfl,dL,p'⟩,fun x H' y=>?_⟩;obtain⟨e,y⟩:=y;subst e;exact hs i x σ _ (y xs q) p
 .have e:i=xs.length:=by lia
  subst e;exact .inl ⟨⟨xs,q,bf _⟩,hd σ H p⟩
theorem df{lo:Int}{n:Nat}{g:TG}{tb:TS}{D:vz}{σ:St}{H:Hp}(Pv:Nat->St->Hp->Prop)(h0:Pv 0 σ H)(hs:∀i σ H,i<n->Pv i σ H->g (.int (lo+i)) σ H fun σ2 H2=>tb { D with nx:=Pv (i+1),ct:=Pv (i+1),bk:=D.nx } σ2 H2)(hd:∀σ H,Pv n σ H->D.nx σ H):
  ∃W:Nat->Nat->St->Hp->Prop,(∃m,W 0 m σ H)/\∀i m σ H,W i m σ H->
   ((Ld lo n).stop i H/\D.nx σ H)\/((Ld lo n).go i H/\∃N:St->Hp->Prop,(∀σ' H',N σ' H'->∃m',m'<m/\W (i+1) m' σ' H')/\∀x H',(Ld lo n).Lc i H x H'->g x σ H' fun σ2 H2=>tb { D with nx:=N,ct:=N,bk:=D.nx } σ2 H2):=by
 refine⟨fun i m σ H=>m=n-i/\i<=n/\Pv i σ H,⟨n,by simp,dG _,h0⟩,?_⟩;rintro i m σ H ⟨rfl,hi,p⟩;by_cases dL:i<n
 .refine .inr ⟨dL,Pv (i+1),fun σ' H' p'=>⟨n-(i+1),by lia,rfl,dL,p'⟩,fun x H' y=>?_⟩;obtain⟨e,y⟩:=y;subst e y;exact hs i σ _ dL p
 .have e:i=n:=by lia
  subst e;exact .inl ⟨bf _,hd σ H p⟩
theorem xo(Pv:St->Hp->Prop)(μ:St->Hp->Nat)(h0:Pv σ H)(hs:∀σ H,Pv σ H->c σ H fun b H1=>if b=true then tb { D with nx:=fun σ' H'=>Pv σ' H'/\μ σ' H'<μ σ H,ct:=fun σ' H'=>Pv σ' H'/\μ σ' H'<μ σ H,bk:=D.nx } σ H1 else D.nx σ H1)(mono:∀σ H Q Q',(∀b H1,Q b H1->Q' b H1)->c σ H Q->c σ H Q'):Ey c tb D σ H:=by
 refine⟨fun m σ H=>m=μ σ H/\Pv σ H,⟨_,rfl,h0⟩,?_⟩;rintro m σ H ⟨rfl,p⟩;refine mono σ H _ _ (fun b H1 q=>?_) (hs σ H p);cases b with
 |true=>exact⟨_,fun σ' H' ⟨p',l⟩=>⟨_,l,rfl,p'⟩,q⟩
 |false=>exact q
abbrev R2:=V->V->Hp->VK->Prop
def m3(X:Cx)(f:Value->Value->Sem Value)(r:R2):Prop:=
 ∀ (ae:List (Addr×Obj)) (s:Shared) (σ:St) (H:Hp) (x y:V) (v u:Value) (Q:VK),aQ X ae σ H s->bq x v->bq y u->r x y H Q->
  wpAny (model X.prog X.w) X.A (f v u) (EP X ae σ Q) X.xe s
def VM(X:Cx)(f:Value->Sem Value)(r:V->Hp->VK->Prop):Prop:=
 ∀ (ae:List (Addr×Obj)) (s:Shared) (σ:St) (H:Hp) (x:V) (v:Value) (Q:VK),aQ X ae σ H s->bq x v->r x H Q->
  wpAny (model X.prog X.w) X.A (f v) (EP X ae σ Q) X.xe s
def fA(X:Cx)(f:Value)(r:List V->Hp->VK->Prop):Prop:=
 ∀ (ae:List (Addr×Obj)) (s:Shared) (σ:St) (H:Hp) (xs:List V) (us:List Value) (Q:VK),aQ X ae σ H s->aY xs us->r xs H Q->
  wpAny (model X.prog X.w) X.A (call f us) (EP X ae σ Q) X.xe s
def iA(r:R2)(ta tb:TE):TE:=fun σ H Q=>ta σ H fun x H1=>tb σ H1 fun y H2=>r x y H2 Q
def tUn(r:V->Hp->VK->Prop)(ta:TE):TE:=fun σ H Q=>ta σ H fun x H1=>r x H1 Q
def rI(C:Int->Int->Prop)(g:Int->Int->V):R2:=fun x y H Q=>∃i j,x=.int i/\y=.int j/\C i j/\Q (g i j) H
def xp(g:Int->Int->V):R2:=fun x y H Q=>∃i j,x=.int i/\y=.int j/\Q (g i j) H
def rU(g:Int->V):V->Hp->VK->Prop:=fun x H Q=>∃i,x=.int i/\Q (g i) H
section
variable {X:Cx} {a b c:Expr} {ta tb tc:TE} {pos:Pos}
theorem MA(ha:PE X a ta)(hb:PE X b tb){ae:List (Addr×Obj)}{s:Shared}{σ:St}{H:Hp}{R:V->V->Hp->Prop}(I:aQ X ae σ H s)(h:ta σ H fun x H1=>tb σ H1 fun y H2=>R x y H2){Q:Value->Shared->Prop}{f:Value->Value->Sem Value}(hf:∀v u s2 x y H2,aQ X ae σ H2 s2->bq x v->bq y u->R x y H2->wpAny (model X.prog X.w) X.A (f v u) Q X.xe s2):
  wpAny (model X.prog X.w) X.A (eval a X.env) (fun v s₁=>wpAny (model X.prog X.w) X.A (eval b X.env) (fun u s₂=>wpAny (model X.prog X.w) X.A (f v u) Q X.xe s₂) X.xe s₁) X.xe s:=by
 refine cJ (ha ae s σ H _ I h) fun v s1 ⟨x,H1,I1,r1,q1⟩=>?_;refine cJ (hb ae s1 σ H1 _ I1 q1) fun u s2 ⟨y,H2,I2,r2,q2⟩=>?_;exact hf v u s2 x y H2 I2 r1 r2 q2
theorem a_{op:Operator}{r:R2}(ho:m3 X (binaryOp op) r)(ha:PE X a ta)(hb:PE X b tb):PE X (.BinOp a op b pos) (iA r ta tb):=by
 intro ae s σ H Q I h;exact wpAny_BinOp (MA ha hb I h fun v u s2 x y H2 I2 rx ry q=>ho ae s2 σ H2 x y v u Q I2 rx ry q)
theorem jV(ho:VM X (unaryOp op) r)(ha:PE X a ta):PE X (.UnaryOp op a pos) (tUn r ta):=by
 intro ae s σ H Q I h;exact UnaryOp_ (cJ (ha ae s σ H _ I h) fun v s1 ⟨x,H1,I1,r1,q1⟩=>ho ae s1 σ H1 x v Q I1 r1 q1)
theorem Uo{f:Value->Value->Sem Value}{C:Int->Int->Prop}{g:Int->Int->Int}(rule:∀ (i j:Int) (t u:Tok) (s:Shared) (Q:Value->Shared->Prop) (E:Value->Shared->Prop),C i j->Q (.int (g i j) s.toks) { s with toks:=s.toks+1 }->wpAny (model X.prog X.w) X.A (f (.int i t) (.int j u)) Q E s):
  m3 X f (rI C fun i j=>.int (g i j)):=by
 intro ae s σ H x y v u Q I rx ry h;obtain⟨i,j,rfl,rfl,hc,q⟩:=h;obtain⟨t,rfl⟩:=rx;obtain⟨t',rfl⟩:=ry;exact rule i j t t' s _ _ hc ⟨.int (g i j),H,I.tok _,⟨_,rfl⟩,q⟩
theorem Qr{f:Value->Value->Sem Value}{g:Int->Int->Int}(rule:∀ (i j:Int) (t u:Tok) (s:Shared) (Q:Value->Shared->Prop) (E:Value->Shared->Prop),Q (.int (g i j) s.toks) { s with toks:=s.toks+1 }->wpAny (model X.prog X.w) X.A (f (.int i t) (.int j u)) Q E s):
  m3 X f (xp fun i j=>.int (g i j)):=by
 intro ae s σ H x y v u Q I rx ry h;obtain⟨i,j,rfl,rfl,q⟩:=h;obtain⟨t,rfl⟩:=rx;obtain⟨t',rfl⟩:=ry;exact rule i j t t' s _ _ ⟨.int (g i j),H,I.tok _,⟨_,rfl⟩,q⟩
theorem Im{f:Value->Value->Sem Value}{g:Int->Int->Bool}(rule:∀ (i j:Int) (t u:Tok) (s:Shared) (Q:Value->Shared->Prop) (E:Value->Shared->Prop),Q (.bool (g i j)) s->wpAny (model X.prog X.w) X.A (f (.int i t) (.int j u)) Q E s):
  m3 X f (xp fun i j=>.bl (g i j)):=by
 intro ae s σ H x y v u Q I rx ry h;obtain⟨i,j,rfl,rfl,q⟩:=h;obtain⟨t,rfl⟩:=rx;obtain⟨t',rfl⟩:=ry;exact rule i j t t' s _ _ ⟨.bl (g i j),H,I,rfl,q⟩
def VN(i j:Int):Prop:=0<j/\j<1073741824
def VO(i j:Int):Prop:=0<=j/\j<=1000000/\i.natAbs<2 ^ 64
def EC(i j:Int):Prop:=(-(2 ^ 64)<i/\i<2 ^ 64)\/(-(2 ^ 64)<j/\j<2 ^ 64)
theorem EC.ok(h:EC i j):IntMulOk i j:=by
 rcases h with ⟨h1,h2⟩|⟨h1,h2⟩
 .exact .of_left (intBits_le_64 h1 h2)
 .exact .of_right (intBits_le_64 h1 h2)
theorem cY:m3 X (binaryOp .Add) (xp fun i j=>.int (i+j)):=Qr fun _ _ _ _ _ _ _ q=>add_int q
theorem jA:m3 X (binaryOp .Sub) (xp fun i j=>.int (i-j)):=Qr fun _ _ _ _ _ _ _ q=>sub_int q
theorem ik:m3 X (binaryOp .Mult) (rI EC fun i j=>.int (i*j)):=Uo fun _ _ _ _ _ _ _ hc q=>mul_int q hc.ok
theorem vG:m3 X (binaryOp .FloorDiv) (rI VN fun i j=>.int (i / j)):=Uo fun i j _ _ _ _ _ hc q=>by
 have h1:(0:Int)<j:=hc.1;have h2:j<1073741824:=hc.2;exact floordiv_int (by lia) (by rw[Int.fdiv_eq_ediv_of_nonneg i (by lia)];exact q) (.inl (PyProof.noPylong_small (by lia)))
theorem gP:m3 X (binaryOp .Mod) (rI (fun _ j=>0<j) fun i j=>.int (i % j)):=Uo fun i j _ _ _ _ _ hc q=>by
 have h1:(0:Int)<j:=hc;exact mod_int' (by lia) (by rw[Ef i (by lia)];exact q)
theorem ED:m3 X (binaryOp .Pow) (rI VO fun i j=>.int (i ^ j.toNat)):=Uo fun _ _ _ _ _ _ _ hc q=>pow_int_small hc.1 hc.2.1 hc.2.2 q
theorem unI{f:Value->Sem Value}{g:Int->Int}(rule:∀ (i:Int) (t:Tok) (s:Shared) (Q:Value->Shared->Prop) (E:Value->Shared->Prop),Q (.int (g i) s.toks) { s with toks:=s.toks+1 }->wpAny (model X.prog X.w) X.A (f (.int i t)) Q E s):
  VM X f (rU fun i=>.int (g i)):=by
 intro ae s σ H x v Q I rx h;obtain⟨i,rfl,q⟩:=h;obtain⟨t,rfl⟩:=rx;exact rule i t s _ _ ⟨.int (g i),H,I.tok _,⟨_,rfl⟩,q⟩
theorem gQ:VM X (unaryOp .USub) (rU fun i=>.int (-i)):=unI fun _ _ _ _ _ q=>neg_int q
end
def MB:V->V->Bool
 |.bR,.bR=>true|.bR,.int _=>true|.int _,.bR=>true|.bR,.bl _=>true|.bl _,.bR=>true|.bR,.str _=>true|.str _,.bR=>true
 |.int _,.int _=>true|.bl _,.bl _=>true|.str _,.str _=>true|.CG _,.CG _=>true
 |.int _,.str _=>true|.str _,.int _=>true|.bl _,.str _=>true|.str _,.bl _=>true
 |_,_=>false
def Up:R2:=fun x y H Q=>MB x y=true/\Q (.bl (decide (x=y))) H
def ZV:R2:=fun x y H Q=>MB x y=true/\Q (.bl (!decide (x=y))) H
theorem qo:decide (V.int i=V.int j)=(i==j):=by
 rw[jn];simp
theorem EE:decide (V.bl i=V.bl j)=(i==j):=by
 rw[jn];simp
theorem Bj:decide (V.str i=V.str j)=(i==j):=by
 rw[jn];simp
theorem Bk:decide (V.CG i=V.CG j)=(i.toList==j.toList):=by
 rw[jn];cases i;cases j;simp
section
variable {X:Cx} {a b c:Expr} {ta tb tc:TE} {pos:Pos}
theorem bP(I:aQ X ae σ H s)(q:Q (.bl k) H)(e:k=k'):EP X ae σ Q (.bool k') s:=by
 subst e;exact⟨.bl k,H,I,rfl,q⟩
theorem eN:m3 X (compareOp .Eq) Up:=by
 intro ae s σ H x y v u Q I rx ry h;obtain⟨hs,q⟩:=h;cases x with
 |bR=>
  cases rx;cases y with
  |bR=>cases ry;exact PySem.EqNone.eq_none_none (bP I q (by simp))
  |bl j=>cases ry;exact PySem.EqNone.eq_none_bool (bP I q (by simp))
  |int j=>obtain⟨t',rfl⟩:=ry;exact PySem.EqNone.eq_none_int (bP I q (by simp))
  |str j=>obtain⟨t',rfl⟩:=ry;exact PySem.EqNone.eq_none_str (bP I q (by simp))
  |_=>exact absurd (show false=true from hs) cP
 |bl i=>
  cases rx;cases y with
  |bR=>cases ry;exact PySem.EqNone.eq_bool_none (bP I q (by simp))
  |bl j=>cases ry;exact eq_bool (bP I q EE)
  |str j=>obtain⟨t',rfl⟩:=ry;exact PySem.EqMixed.eq_bool_str (bP I q (by simp))
  |_=>exact absurd (show false=true from hs) cP
 |int i=>
  obtain⟨t,rfl⟩:=rx;cases y with
  |bR=>cases ry;exact PySem.EqNone.eq_int_none (bP I q (by simp))
  |int j=>obtain⟨t',rfl⟩:=ry;exact eq_int (bP I q qo)
  |str j=>obtain⟨t',rfl⟩:=ry;exact PySem.EqMixed.eq_int_str (bP I q (by simp))
  |_=>exact absurd (show false=true from hs) cP
 |str i=>
  obtain⟨t,rfl⟩:=rx;cases y with
  |bR=>cases ry;exact PySem.EqNone.eq_str_none (bP I q (by simp))
  |bl j=>cases ry;exact PySem.EqMixed.eq_str_bool (bP I q (by simp))
  |int j=>obtain⟨t',rfl⟩:=ry;exact PySem.EqMixed.eq_str_int (bP I q (by simp))
  |str j=>obtain⟨t',rfl⟩:=ry;exact eq_str (bP I q Bj)
  |_=>exact absurd (show false=true from hs) cP
 |CG i=>
  obtain⟨t,rfl⟩:=rx;cases y with
  |CG j=>obtain⟨t',rfl⟩:=ry;exact PySem.W.eq_bytes (bP I q Bk)
  |_=>exact absurd (show false=true from hs) cP
 |_=>cases y <;> exact absurd (show false=true from hs) cP
theorem m4:m3 X (compareOp .NotEq) ZV:=by
 intro ae s σ H x y v u Q I rx ry h;obtain⟨hs,q⟩:=h;cases x with
 |bR=>
  cases rx;cases y with
  |bR=>cases ry;exact PySem.EqNone.ne_none_none (bP I q (by simp))
  |bl j=>cases ry;exact PySem.EqNone.ne_none_bool (bP I q (by simp))
  |int j=>obtain⟨t',rfl⟩:=ry;exact PySem.EqNone.ne_none_int (bP I q (by simp))
  |str j=>obtain⟨t',rfl⟩:=ry;exact PySem.EqNone.ne_none_str (bP I q (by simp))
  |_=>exact absurd (show false=true from hs) cP
 |bl i=>
  cases rx;cases y with
  |bR=>cases ry;exact PySem.EqNone.ne_bool_none (bP I q (by simp))
  |bl j=>cases ry;exact ne_bool (bP I q (congrArg not EE))
  |str j=>obtain⟨t',rfl⟩:=ry;exact PySem.EqMixed.ne_bool_str (bP I q (by simp))
  |_=>exact absurd (show false=true from hs) cP
 |int i=>
  obtain⟨t,rfl⟩:=rx;cases y with
  |bR=>cases ry;exact PySem.EqNone.ne_int_none (bP I q (by simp))
  |int j=>obtain⟨t',rfl⟩:=ry;exact ne_int (bP I q (congrArg not qo))
  |str j=>obtain⟨t',rfl⟩:=ry;exact PySem.EqMixed.ne_int_str (bP I q (by simp))
  |_=>exact absurd (show false=true from hs) cP
 |str i=>
  obtain⟨t,rfl⟩:=rx;cases y with
  |bR=>cases ry;exact PySem.EqNone.ne_str_none (bP I q (by simp))
  |bl j=>cases ry;exact PySem.EqMixed.ne_str_bool (bP I q (by simp))
  |int j=>obtain⟨t',rfl⟩:=ry;exact PySem.EqMixed.ne_str_int (bP I q (by simp))
  |str j=>obtain⟨t',rfl⟩:=ry;exact ne_str (bP I q (congrArg not Bj))
  |_=>exact absurd (show false=true from hs) cP
 |CG i=>
  obtain⟨t,rfl⟩:=rx;cases y with
  |CG j=>obtain⟨t',rfl⟩:=ry;exact PySem.W.ne_bytes (bP I q (congrArg not Bk))
  |_=>exact absurd (show false=true from hs) cP
 |_=>cases y <;> exact absurd (show false=true from hs) cP
theorem pC:m3 X (compareOp .Lt) (xp fun i j=>.bl (decide (i<j))):=Im fun _ _ _ _ _ _ _ q=>lt_int q
theorem Bm:m3 X (compareOp .LtE) (xp fun i j=>.bl (decide (i<=j))):=Im fun _ _ _ _ _ _ _ q=>le_int q
theorem rq:m3 X (compareOp .Gt) (xp fun i j=>.bl (decide (j<i))):=Im fun _ _ _ _ _ _ _ q=>gt_int q
theorem Bn:m3 X (compareOp .GtE) (xp fun i j=>.bl (decide (j<=i))):=Im fun _ _ _ _ _ _ _ q=>ge_int q
theorem kG:m3 X (compareOp .Is) (fun x y H Q=>y=.bR/\Q (.bl (decide (x=.bR))) H):=by
 intro ae s σ H x y v u Q I rx ry h;obtain⟨rfl,q⟩:=h;cases ry;refine is_none_gen (bP I q ?_);cases x <;> first
  |(cases rx;rfl)
  |(obtain⟨t,rfl⟩:=rx;rfl)
theorem vH:m3 X (compareOp .IsNot) (fun x y H Q=>y=.bR/\Q (.bl (!decide (x=.bR))) H):=by
 intro ae s σ H x y v u Q I rx ry h;obtain⟨rfl,q⟩:=h;cases ry;refine isnot_none_gen (bP I q ?_);cases x <;> first
  |(cases rx;rfl)
  |(obtain⟨t,rfl⟩:=rx;rfl)
theorem aG(b:Expr)(h:op≠.In:=by decide)(h2:op≠.NotIn:=by decide):behindInMarks op b=false:=by
 have e1:(op==CmpOp.In)=false:=by cases op <;> first|rfl|exact absurd rfl h
 have e2:(op==CmpOp.NotIn)=false:=by cases op <;> first|rfl|exact absurd rfl h2
 cases b <;> simp[behindInMarks,e1,e2]
theorem cy(ho:m3 X (compareOp op) r)(ha:PE X a ta)(hb:PE X b tb)(hm:behindInMarks op b=false):PE X (.Compare a [op] [b] pos) (iA r ta tb):=by
 intro ae s σ H Q I h;exact wpAny_Compare1 (MA ha hb I h fun v u s2 x y H2 I2 rx ry q=>ho ae s2 σ H2 x y v u Q I2 rx ry q) hm
def jW(t:TE):TT:=fun σ H Q=>t σ H fun x H'=>∃k,x=.bl k/\Q k H'
theorem aL(ho:m3 X (compareOp op) r)(ha:PE X a ta)(hb:PE X b tb)(hm:behindInMarks op b=false):PT X (.Compare a [op] [b] pos) (jW (iA r ta tb)):=by
 intro ae s σ H Q I h;refine wpAny_isTrue_Compare1 (cJ (ha ae s σ H _ I h) fun v s1 ⟨x,H1,I1,r1,q1⟩=>cJ (hb ae s1 σ H1 _ I1 q1) fun u s2 ⟨y,H2,I2,r2,q2⟩=>
  cJ (ho ae s2 σ H2 x y v u _ I2 r1 r2 q2) fun c s3 ⟨z,H3,I3,r3,k,e,q3⟩=>?_) hm
 subst e;cases r3;exact n_ ⟨H3,I3,q3⟩
def ME(r r':R2)(ta tb tc:TE):TE:=fun σ H Q=>ta σ H fun x H1=>tb σ H1 fun y H2=>r x y H2 fun z H3=>∃k,z=.bl k/\
 (if k=true then tc σ H3 fun w' H4=>r' y w' H4 Q else Q (.bl false) H3)
theorem xq(ho:m3 X (compareOp op) r)(Er:m3 X (compareOp ZW) r')(ha:PE X a ta)(hb:PE X b tb)(hc:PE X c tc)(hm:lastMarks [op,ZW] [b,c]=false:=by with_unfolding_all rfl):PE X (.Compare a [op,ZW] [b,c] pos) (ME r r' ta tb tc):=by
 intro ae s σ H Q I h;refine Compare_chain (cJ (ha ae s σ H _ I h) fun v s1 ⟨x,H1,I1,r1,q1⟩=>chain_link (cJ (hb ae s1 σ H1 _ I1 q1) fun u s2 ⟨y,H2,I2,r2,q2⟩=>
  cJ (ho ae s2 σ H2 x y v u _ I2 r1 r2 q2) fun d s3 ⟨z,H3,I3,r3,k,e,q3⟩=>?_)) hm
 subst e;cases r3;refine n_ ?_;cases k with
 |false=>exact ite_ff ⟨.bl false,H3,I3,rfl,q3⟩
 |true=>exact ite_tt (chain_last (cJ (hc ae s3 σ H3 _ I3 q3) fun w' s4 ⟨z',H4,I4,r4,q4⟩=>Er ae s4 σ H4 y z' u w' Q I4 r2 r4 q4))
theorem vI:(sizeLine:Nat)<2 ^ 63:=by rw[ju];decide
theorem rA(r:aY [x] us):∃u,us=[u]/\bq x u:=by
 cases r with
 |cons r1 r2=>cases r2;exact⟨_,rfl,r1⟩
theorem Le(r:aY [x,y] us):∃u w',us=[u,w']/\bq x u/\bq y w':=by
 cases r with
 |cons r1 r2=>
  cases r2 with
  |cons r3 r4=>cases r4;exact⟨_,_,rfl,r1,r3⟩
theorem EF:fA X (.builtin "abs") (fun xs H Q=>∃i,xs=[.int i]/\Q (.int (if i<0 then -i else i)) H):=by
 intro ae s σ H xs us Q I r h;obtain⟨i,rfl,q⟩:=h;obtain⟨u,rfl,t,rfl⟩:=rA r;exact call_abs_int fun u tk=>⟨.int (if i<0 then -i else i),H,I.tok _,⟨_,rfl⟩,q⟩
theorem tY(hc:X.calm=true):fA X (.builtin "max") (fun xs H Q=>∃i j,xs=[.int i,.int j]/\Q (.int (if j > i then j else i)) H):=by
 intro ae s σ H xs us Q I r h;obtain⟨i,j,rfl,q⟩:=h;obtain⟨u,w',rfl,⟨t,rfl⟩,⟨t',rfl⟩⟩:=Le r;refine max_two_ints (I.ok.hd hc) fun h' tk k=>⟨_,H,I.kept k,?_,q⟩
 by_cases hj:j > i
 .rw[aq hj,aq hj];exact⟨_,rfl⟩
 .rw[ap hj,ap hj];exact⟨_,rfl⟩
theorem CN(hc:X.calm=true):fA X (.builtin "min") (fun xs H Q=>∃i j,xs=[.int i,.int j]/\Q (.int (if j<i then j else i)) H):=by
 intro ae s σ H xs us Q I r h;obtain⟨i,j,rfl,q⟩:=h;obtain⟨u,w',rfl,⟨t,rfl⟩,⟨t',rfl⟩⟩:=Le r;refine min_two_ints (I.ok.hd hc) fun h' tk k=>⟨_,H,I.kept k,?_,q⟩
 by_cases hj:j<i
 .rw[aq hj,aq hj];exact⟨_,rfl⟩
 .rw[ap hj,ap hj];exact⟨_,rfl⟩
theorem h9:fA X (.type "int") (fun xs H Q=>(∃i,xs=[.int i]/\Q (.int i) H)\/∃k,xs=[.bl k]/\Q (.int (if k then 1 else 0)) H):=by
 intro ae s σ H xs us Q I r h;rcases h with ⟨i,rfl,q⟩|⟨k,rfl,q⟩
 .obtain⟨u,rfl,t,rfl⟩:=rA r;exact call_int_int ⟨.int i,H,I,⟨_,rfl⟩,q⟩
 .obtain⟨u,rfl,r1⟩:=rA r;cases r1;exact call_int_bool ⟨.int (if k then 1 else 0),H,I.tok _,⟨_,rfl⟩,q⟩
end
structure Ac(h:Heap)(x dx C:Addr)(mA:Str->Option Value):Prop where
 obj:h.get? x=some (PySem.W.instObj C dx)
 ns:h.Ns1 dx mA
 ne:dx≠x
theorem CO{h:Heap}{dx:Addr}{mA:Str->Option Value}(n:h.Ns1 dx mA):∃od,h.get? dx=some od/\∀name,PySem.W.lookIn name od=some (mA name):=by
 obtain⟨o,es,ep,ho,hd,hk,_,hm⟩:=n;refine⟨o,ho,fun name=>?_⟩;have e:=hm name;unfold nsFind findBy at e;rw[<-Array.find?_toList] at e;unfold PySem.W.lookIn;rw[hd];dsimp only;split
 .rename_i y q;rw[q] at e;exact congrArg some e
 .rename_i q;rw[q] at e;have a:es.toList.any (·.refKey)=false:=by
   rw[zO];intro y hy;obtain⟨z,t,pW⟩:=hk y (Array.mem_toList_iff.mp hy);simp[DictEntry.refKey,pW]
  have a':¬ es.toList.any (·.refKey)=true:=by rw[a];exact cP
  rw[ap a'];exact congrArg some e
theorem Ac.look(I:Ac h x dx C mA):∃od,PySem.W.InstAt h x (PySem.W.instObj C dx) C (some od)/\∀name,PySem.W.lookIn name od=some (mA name):=
 let ⟨od,ho,hl⟩:=CO I.ns
 ⟨od,⟨I.obj,rfl,rfl,ho⟩,hl⟩
section
variable {prog:Program} {w:World} {A:Around} {E:Value->Shared->Prop} {s:Shared} {K:PySem.W.Frag} {x dx C f:Addr} {mA:Str->Option Value} {name:Str} {v:Value}
theorem Io(X:K.In s.heap)(I:Ac s.heap x dx C mA)(hg:PySem.W.plainGet K C name=true)(hh:PySem.W.hasDictIn K C=true)(ha:PySem.W.findIn K (.ref C) name=some none)(hv:mA name=some v)(Ad:PySem.W.handedIn v=true)(h:Q v { s with toks:=s.toks+1 }):
  wpAny (model prog w) A (getAttr (.ref x) name Ip) Q E s:=by
 obtain⟨od,J,hl⟩:=I.look;exact PySem.W.get_value X J (zB hg).1 (PySem.W.findObj_own hh ha rfl (by rw[hl,hv])) Ad h
theorem EG(X:K.In s.heap)(I:Ac s.heap x dx C mA)(hg:PySem.W.plainGet K C name=true)(hf:PySem.W.findIn K (.ref C) name=some (some (.ref f)))(ht:PySem.W.isFn K (.ref f)=true)(hv:mA name=none)(h:Q (.ref f,[.ref x]) s):
  wpAny (model prog w) A (getMethod (.ref x) name pl) Q E s:=by
 obtain⟨od,J,hl⟩:=I.look;exact PySem.W.method_fn X J (zB hg).1 (zB hg).2 hf (gZ.mp ht) (by show (PySem.W.lookIn name od).map (·.isSome)=some false;rw[hl,hv];rfl) h
theorem Iq(X:K.In s.heap)(I:Ac s.heap x dx C mA)(hs:PySem.W.findIn K (.ref C) "__setattr__"=some (some (.builtin "object.__setattr__")))(hp:PySem.W.plainOver K C=true)(ht:PySem.W.takerIn K C name=some none)(hh:PySem.W.hasDictIn K C=true)(hw:PySem.Within mA ns)(hsz:ns.length<=sizeLine)(h:∀h',Ac h' x dx C (fun y=>if y=name then some v else mA y)->Heap.SameBut dx s.heap h'->Q () { s with heap:=h',toks:=s.toks+2 }):
  wpAny (model prog w) A (setAttr (.ref x) name v) Q E s:=by
 obtain⟨od,J,hl⟩:=I.look;refine PySem.W.set_plain X J hs (PySem.W.osa_open (s:={ s with toks:=s.toks+1 }) (r:=none) X J hp ht fun b=>?_);obtain⟨cd,hc,Mr⟩:=PySem.W.any_some hh;have hx:s.heap.get? x=some ⟨.ref C,some dx,.plain,#[]⟩:=I.obj;refine aN (wpAny_pure (aN (aN (wpAny_loadPart hx (aN (PySem.W.Looks.here (s:={ s with toks:=s.toks+1 }) (PySem.W.looks_clsIn X hc) ?_))))));rw[Mr];refine wpAny_pure (a:=some dx) (aN (wpAny_pure (aN ?_)));refine wpAny_nsSet1 (s:={ s with toks:=s.toks+1 }) I.ns fun h' Uq rm=>?_;obtain⟨oD,esD,epD,hoD,Qs,Ir⟩:=Uq.count (PySem.Within.cons name v hw);refine aN (wpAny_lookBehind hoD (by rw[Qs];exact pastItsLine_dict (bj Ir (by rw[cx];lia))) ?_);exact wpAny_pure (h _ ⟨(rm.2 _ (Ne.symm I.ne)).trans I.obj,Uq,I.ne⟩ rm)
theorem EH(X:K.In s.heap)(hm:PySem.W.makesIn K C=true)(hi:PySem.W.findIn K (.ref C) "__init__"=some (some (.ref f)))(hf:PySem.W.typeIn K (.ref f)=some (.type "function"))(h:codeAny (model prog w) (A.under (.builtin "type.__call__" ⟨.ref C::vs,kw⟩)) (.call (.ref f) ⟨.ref (s.heap.objs.size+1)::vs,kw⟩) (PySem.W.InitBack (s.heap.objs.size+1) R)
   { s with heap:=(s.heap.push PySem.W.emptyDict).push (PySem.W.instObj C s.heap.objs.size) }):
  codeAny (model prog w) A (.call (.ref C) ⟨vs,kw⟩) R s:=by
 obtain⟨hh,g,d,t,os⟩:=s;exact PySem.W.make_core (PySem.W.makes_of X hm) (PySem.W.looks_findIn X hi) (fun self=>PySem.W.bind_fn X self hf) (.inl rfl) h
end
def d9(f:Str)(v:V):List (Str×V)->List (Str×V)
 |[]=>[(f,v)]
 |(g,x)::r=>if g=f then (g,v)::r else (g,x)::d9 f v r
theorem bv(f g:Str)(v:V):∀fs:List (Str×V),(d9 f v fs).lookup g=if g=f then some v else fs.lookup g
 |[]=>by
  show List.lookup g [(f,v)]=_;by_cases h:g=f
  .have hb:(g==f)=true:=gZ.mpr h;simp only[List.lookup,hb,aq h]
  .have hb:(g==f)=false:=lM.mpr h;simp only[List.lookup,hb,ap h]
 |(k,x)::r=>by
  have ih:=bv f g v r;rw[show d9 f v ((k,x)::r)=(if k=f then (k,v)::r else (k,x)::d9 f v r) from rfl];by_cases hk:k=f
  .rw[aq hk];by_cases h:g=k
   .have hb:(g==k)=true:=gZ.mpr h;simp only[List.lookup,hb,aq (h.trans hk)]
   .have hb:(g==k)=false:=lM.mpr h;simp only[List.lookup,hb,ap (fun e:g=f=>h (e.trans hk.symm))]
  .rw[ap hk];by_cases h:g=k
   .have hb:(g==k)=true:=gZ.mpr h;simp only[List.lookup,hb,ap (fun e:g=f=>hk (h.symm.trans e))]
   .have hb:(g==k)=false:=lM.mpr h;simp only[List.lookup,hb];exact ih
theorem oH(f:Str)(v:V):∀fs:List (Str×V),f∈(d9 f v fs).map (·.1)/\∀g,g∈fs.map (·.1)->g∈(d9 f v fs).map (·.1)
 |[]=>⟨by simp[d9],fun g h=>by simp at h⟩
 |(k,x)::r=>by
  obtain⟨i1,i2⟩:=oH f v r;rw[show d9 f v ((k,x)::r)=(if k=f then (k,v)::r else (k,x)::d9 f v r) from rfl];by_cases hk:k=f
  .rw[aq hk];subst hk;exact⟨by simp,fun g h=>by simpa using h⟩
  .rw[ap hk];refine⟨?_,fun g h=>?_⟩
   .rw[cM];exact cN _ i1
   .rw[cM] at h |-;rcases bZ.mp h with e|e
    .exact bZ.mpr (.inl e)
    .exact cN _ (i2 g e)
theorem eV(f:Str)(v:V):∀fs:List (Str×V),(d9 f v fs).length<=fs.length+1
 |[]=>by simp[d9]
 |(k,x)::r=>by
  have ih:=eV f v r;rw[show d9 f v ((k,x)::r)=(if k=f then (k,v)::r else (k,x)::d9 f v r) from rfl];by_cases hk:k=f
  .rw[aq hk,cx,cx];lia
  .rw[ap hk,cx,cx];lia
theorem lE.some_of(r:lE (some v) o):∃u,o=some u/\bq v u:=by
 cases o with
 |none=>exact(show False from r).elim
 |some u=>exact⟨u,rfl,r⟩
theorem lE.none_of(r:lE none o):o=none:=by
 cases o with
 |none=>rfl
 |some u=>exact(show False from r).elim
theorem i7(r:bq v u):PySem.W.handedIn u=true:=by
 cases v with
 |bR=>cases (show u=Value.none from r);rfl
 |bl b=>cases (show u=Value.bool b from r);rfl
 |int i=>obtain⟨t,e⟩:=(show ∃t,u=Value.int i t from r);cases e;rfl
 |str x=>obtain⟨t,e⟩:=(show ∃t,u=Value.str x t from r);cases e;rfl
 |CG b=>obtain⟨t,e⟩:=(show ∃t,u=Value.bytes b t from r);cases e;rfl
 |K5 b=>obtain⟨t,e⟩:=(show ∃t,u=Value.float b t from r);cases e;rfl
 |ref a=>cases (show u=Value.ref a from r);rfl
 |ty n=>cases (show u=Value.type n from r);rfl
section
variable {P:Program} {w:World} {H H':Hp} {h h':Heap} {a C dx:Addr} {fs fs':List (Str×V)}
theorem qp(bS:jx P w H h)(e:H a=some (.ins C dx fs)):∃mA,Ac h a dx C mA/\(∀f,lE (fs.lookup f) (mA f))/\PySem.Within mA (fs.map (·.1))/\fs.length<=1000/\H dx=some (.own a):=by
 obtain⟨d,z,ne,ob,mA,n,r,q⟩:=(show cp P w H h a (.ins C dx fs) from bS a _ e)
 exact⟨mA,⟨ob,n,ne⟩,r,q,z,d⟩
end
structure HD(K:PySem.W.Frag)(C:Addr):Prop where
 pg:PySem.W.plainGet K C Str.empty=true
 hd:PySem.W.hasDictIn K C=true
 po:PySem.W.plainOver K C=true
 sa:PySem.W.findIn K (.ref C) "__setattr__"=some (some (.builtin "object.__setattr__"))
theorem HD.get{K:PySem.W.Frag}{C:Addr}(c:HD K C)(f:Str):PySem.W.plainGet K C f=true:=c.pg
def iS(K:PySem.W.Frag)(C:Addr)(f:Str):Prop:=PySem.W.findIn K (.ref C) f=some none
theorem iS.taker{K:PySem.W.Frag}{C:Addr}{f:Str}(n:iS K C f):PySem.W.takerIn K C f=some none:=by
 unfold PySem.W.takerIn;rw[show PySem.W.findIn K (.ref C) f=some none from n];rfl
structure MH(K:PySem.W.Frag)(C:Addr)(m:Str)(f:Addr):Prop where
 at_:PySem.W.findIn K (.ref C) m=some (some (.ref f))
 fn:PySem.W.isFn K (.ref f)=true
 kp:PySem.W.keepIn K (.ref f)=true
section
variable {X:Cx} {ae:List (Addr×Obj)} {σ:St} {H:Hp} {s:Shared} {a C dx:Addr} {fs:List (Str×V)} {f:Str} {v:V} {A:Around} {E:Value->Shared->Prop}
theorem Ae(I:aQ X ae σ H s)(e:H a=some (.ins C dx fs))(c:HD X.K C)(n:iS X.K C f)(l:fs.lookup f=some v)(h:∀u s',aQ X ae σ H s'->bq v u->Q u s'):wpAny (model X.prog X.w) A (getAttr (.ref a) f b) Q E s:=by
 obtain⟨mA,O,r,_,_,_⟩:=qp I.bS e;obtain⟨u,hu,ru⟩:=lE.some_of (v:=v) (o:=mA f) (by rw[<-l];exact r f);exact Io I.oC O (c.get f) c.hd n hu (i7 ru) (h u _ (I.tok _) ru)
theorem Af(I:aQ X ae σ H s)(e:H a=some (.ins C dx fs))(c:HD X.K C)(k:MH X.K C m g)(l:fs.lookup m=none)(h:Q (.ref g,[.ref a]) s):wpAny (model X.prog X.w) A (getMethod (.ref a) m pl) Q E s:=by
 obtain⟨mA,O,r,_,_,_⟩:=qp I.bS e;have hn:mA m=none:=lE.none_of (by rw[<-l];exact r m);exact EG I.oC O (c.get m) k.at_ k.fn hn h
theorem Ag(I:aQ X ae σ H s)(e:H a=some (.ins C dx fs))(c:HD X.K C)(n:iS X.K C f)(hl:fs.length<1000)(ry:bq y u)(h:∀s',aQ X ae σ (upd H a (.ins C dx (d9 f y fs))) s'->Q () s'):wpAny (model X.prog X.w) A (setAttr (.ref a) f u) Q E s:=by
 obtain⟨mA,O,r,wi,_,ho⟩:=qp I.bS e;have hz:(fs.map (·.1)).length<=sizeLine:=by rw[aF,ju];lia
 refine Iq I.oC O c.sa c.po n.taker c.hd wi hz fun h' O' sb=>h _ ?_;have hd:∃o,h'.get? dx=some o:=let ⟨o,_,_,e',_⟩:=O'.ns;⟨o,e'⟩;refine I.write (x:=a) (e:=dx) (by rw[e];exact True.intro) (.inr ho) (fun b q hb z=>(sb.2 b hb).trans z) hd ?_;refine⟨by rw[ak O.ne];exact ho,?_,O.ne,O'.obj,_,O'.ns,fun g=>?_,fun g hg=>?_⟩
 .have:=eV f y fs;lia
 .show lE ((d9 f y fs).lookup g) (if g=f then some u else mA g);rw[bv];by_cases q:g=f
  .rw[aq q,aq q];exact ry
  .rw[ap q,ap q];exact r g
 .by_cases q:g=f
  .rw[q];exact(oH f y fs).1
  .refine(oH f y fs).2 g (wi g fun z=>hg ?_);show (if g=f then some u else mA g)=none;rw[ap q];exact z
theorem aQ.made(I:aQ X ae σ H s):aQ X ae σ (upd (upd H s.heap.objs.size (.own (s.heap.objs.size+1))) (s.heap.objs.size+1) (.ins C s.heap.objs.size []))
  { s with heap:=(s.heap.push PySem.W.emptyDict).push (PySem.W.instObj C s.heap.objs.size) }:=by
 have e1:(s.heap.push PySem.W.emptyDict).get? s.heap.objs.size=some PySem.W.emptyDict:=dC s.heap rfl;have e2:((s.heap.push PySem.W.emptyDict).push (PySem.W.instObj C s.heap.objs.size)).get? (s.heap.objs.size+1)=some (PySem.W.instObj C s.heap.objs.size):=by
  have:=dC (s.heap.push PySem.W.emptyDict) (o:=PySem.W.instObj C s.heap.objs.size) rfl;rwa [jp] at this
 have e3:(s.heap.push PySem.W.emptyDict).Ns s.heap.objs.size (fun _=>none):=⟨PySem.W.emptyDict,#[],_,e1,rfl,(fun e he=>absurd he (by simp)),fun _=>rfl⟩
 have I1:=I.laid (a:=s.heap.objs.size) (o:=.own (s.heap.objs.size+1)) (h':=s.heap.push PySem.W.emptyDict) (t':=s.toks) (fun b u q=>cR _ q) (bf _) ⟨_,e1⟩;refine I1.laid (a:=s.heap.objs.size+1) (o:=.ins C s.heap.objs.size []) (t':=s.toks) (fun b u q=>cR _ q) (vw (jp _ _)) ?_;have ne:s.heap.objs.size≠s.heap.objs.size+1:=bg (kl _);refine⟨by rw[ak ne,af],dG _,ne,e2,fun _=>none,(Heap.Ns1.of_empty e3).at fun o q=>cR _ q,fun _=>True.intro,fun y hy=>absurd rfl hy⟩
theorem Iu(hb:attributeBase e f env (eval e env)=eval e env)(h:wpAny (model prog w) A (eval e env) (fun o s₁=>wpAny (model prog w) A (getAttr o f true) Q E s₁) E s):wpAny (model prog w) A (eval (.Attribute e f pos) env) Q E s:=
 Attribute_any_ h (by rw[arm_eval_Attribute,hb])
end
def MJ(K:PySem.W.Frag)(ta:TE)(f:Str):TE:=fun σ H Q=>ta σ H fun x H1=>∃a C dx fs v,x=.ref a/\H1 a=some (.ins C dx fs)/\HD K C/\iS K C f/\fs.lookup f=some v/\Q v H1
def VP(K:PySem.W.Frag)(ta tv:TE)(f:Str):TS:=fun D σ H=>tv σ H fun y H1=>ta σ H1 fun x H2=>∃a C dx fs,x=.ref a/\H2 a=some (.ins C dx fs)/\HD K C/\iS K C f/\fs.length<1000/\
 D.nx σ (upd H2 a (.ins C dx (d9 f y fs)))
section
variable {X:Cx} {o e value:Expr} {f:Str} {pos pU ML:Pos} {ta tv:TE}
theorem oI(he:PE X e ta)(hb:attributeBase e f X.env (eval e X.env)=eval e X.env):PE X (.Attribute e f pos) (MJ X.K ta f):=by
 intro ae s σ H Q I h;refine Iu hb (cJ (he ae s σ H _ I h) fun u s1 ⟨x,H1,I1,rx,a,C,dx,fs,v,ex,ea,c,n,l,q⟩=>?_);subst ex;obtain rfl:u=Value.ref a:=rx;exact Ae I1 ea c n l fun u' s2 I2 ru=>⟨v,H1,I2,ru,q⟩
theorem vJ(ha:PE X o ta)(hv:PE X value tv)(hs:swapsWith value (some (.Attribute o f pU)) pos.line X.env=pure false):PS X (.Assign [.Attribute o f pU] value pos) (VP X.K ta tv f):=by
 intro ae s σ H D I h;refine plainObj_wpAny_Assign_Attribute (cJ (hv ae s σ H _ I h) fun u s1 ⟨y,H1,I1,ry,q⟩=>cJ (ha ae s1 σ H1 _ I1 q) fun ov s2 ⟨x,H2,I2,rx,a,C,dx,fs,ex,ea,c,n,l,q2⟩=>?_) hs;subst ex;obtain rfl:ov=Value.ref a:=rx;exact Ag I2 ea c n l ry fun s3 I3=>⟨σ,_,I3,q2⟩
end
section
variable {X:Cx} {ae:List (Addr×Obj)} {σ:St} {H:Hp} {s:Shared} {A:Around} {E:Value->Shared->Prop} {Q:Value->Shared->Prop} {c:Value} {b:Bool}
inductive oJ (K:PySem.W.Frag) (H:Hp):V->Value->Prop where
 |bR:oJ K H .bR (.type "NoneType")
 |bl (x:Bool):oJ K H (.bl x) (.type "bool")
 |int (i:Int):oJ K H (.int i) (.type "int")
 |str (x:Str):oJ K H (.str x) (.type "str")
 |K5 (x:UInt64):oJ K H (.K5 x) (.type "float")
 |lst {a:Addr} {xs:List V} (e:H a=some (.lst xs)):oJ K H (.ref a) (.type "list")
 |jh {a:Addr} {o:Obj} {xs:List V} (e:H a=some (.jh o (.lst xs))):oJ K H (.ref a) (.type "list")
 |tup {a:Addr} {xs:List V} (e:H a=some (.tup xs)):oJ K H (.ref a) (.type "tuple")
 |dK {a:Addr} {kvs:List (dS×V)} (e:H a=some (.dK kvs)):oJ K H (.ref a) (.type "dict")
 |dT {a:Addr} {kvs:List (List dS×V)} (e:H a=some (.dT kvs)):oJ K H (.ref a) (.type "dict")
 |ins {a C dx:Addr} {fs:List (Str×V)} (e:H a=some (.ins C dx fs)) (cl:HD K C) (ha:PySem.W.findIn K (.ref C) "__class__"=some (some (.builtin "object.__class__")))
   (hn:PySem.W.specialIn K (.builtin "object.__class__") "__get__"=some (some (.builtin "getset_descriptor.__get__"))) (VQ:PySem.W.takesIn K (.builtin "object.__class__")=some true)
   (hm:PySem.W.mroIn K C (.type "object")=some true):oJ K H (.ref a) (.ref C)
theorem CP(I:aQ X ae σ H s)(rx:bq x u)(ty:oJ X.K H x t)(e:PySem.W.kitOne X.K t c=some b)(h:∀tk,Q (.bool b) { s with toks:=tk }):
  wpAny (model X.prog X.w) A (call (.builtin "isinstance") [u,c]) Q E s:=by
 cases ty with
 |bR=>cases (show u=Value.none from rx);exact jS PySem.W.kitx_none I.oC True.intro e (fun z=>nomatch z) h
 |bl y=>cases (show u=Value.bool y from rx);exact jS PySem.W.kitx_bool I.oC True.intro e (fun z=>nomatch z) h
 |int i=>obtain⟨t,q⟩:=(show ∃t,u=Value.int i t from rx);cases q;exact jS PySem.W.kitx_int I.oC True.intro e (fun z=>nomatch z) h
 |str y=>obtain⟨t,q⟩:=(show ∃t,u=Value.str y t from rx);cases q;exact jS PySem.W.kitx_str I.oC True.intro e (fun z=>nomatch z) h
 |K5 y=>obtain⟨t,q⟩:=(show ∃t,u=Value.float y t from rx);cases q;exact jS PySem.W.kitx_float I.oC True.intro e (fun z=>nomatch z) h
 |@lst a xs ea=>
  cases (show u=Value.ref a from rx);obtain⟨_,_,n,_,h1⟩:=(show cp X.prog X.w H s.heap a (.lst xs) from I.bS a _ ea)
  exact jS PySem.W.kitx_list I.oC ⟨_,h1,rfl⟩ e (fun z=>nomatch z) h
 |@jh a ob xs ea=>
  cases (show u=Value.ref a from rx);obtain⟨_,_,_,n,_,h1⟩:=(show cp X.prog X.w H s.heap a (.jh ob (.lst xs)) from I.bS a _ ea)
  exact jS PySem.W.kitx_list I.oC ⟨_,h1,rfl⟩ e (fun z=>nomatch z) h
 |@tup a xs ea=>
  cases (show u=Value.ref a from rx);obtain⟨_,_,_,p⟩:=(show cp X.prog X.w H s.heap a (.tup xs) from I.bS a _ ea)
  obtain⟨o,h1,h2,_⟩:=p;exact jS PySem.W.kitx_tuple I.oC ⟨o,h1,h2⟩ e (fun z=>nomatch z) h
 |@dK a kvs ea=>
  cases (show u=Value.ref a from rx);obtain⟨_,_,vs,_,p⟩:=(show cp X.prog X.w H s.heap a (.dK kvs) from I.bS a _ ea)
  obtain⟨o,es,ep,h1,h2,_⟩:=p;exact jS PySem.W.kitx_dict I.oC ⟨o,h1,h2.1⟩ e (fun z=>nomatch z) h
 |@dT a kvs ea=>
  cases (show u=Value.ref a from rx);obtain⟨_,_,xs,_,o,es,ep,h1,h2,_⟩:=(show cp X.prog X.w H s.heap a (.dT kvs) from I.bS a _ ea)
  exact jS PySem.W.kitx_dict I.oC ⟨o,h1,h2.1⟩ e (fun z=>nomatch z) h
 |@ins a C dx fs ea cl ha hn VQ hm=>
  cases (show u=Value.ref a from rx);obtain⟨mA,O,_⟩:=qp I.bS ea;obtain⟨od,J,_⟩:=O.look;exact jS (PySem.W.kitx_own (cl.get _) cl.hd ha hn VQ hm) I.oC J e (fun z=>nomatch z) h
end
structure cD(k:Nat)(A:Around):Prop where
 hd:A.handled=none
 dp:A.depth+3*k+5<recursionLimit
 un:A.units+16*k+200<cLine
 gd:A.guards=some []
theorem cD.mono(r:cD k A)(h:j<=k):cD j A:=⟨r.hd,by have:=r.dp;lia,by have:=r.un;lia,r.gd⟩
theorem cD.deeper(r:cD (k+1) A)(env:Env):cD k (A.deeper env):=
 ⟨r.hd,by have:=r.dp;show A.depth+1+3*k+5<_;lia,by have:=r.un;show A.units+3+16*k+200<_;lia,r.gd⟩
theorem Ah{A:Around}{C:Addr}{us:List Value}{kw:List (Str×Value)}:(A.under (.builtin "type.__call__" ⟨.ref C::us,kw⟩)).depth=A.depth+1:=by
 first|rfl|simp[Around.under,Code.weight,Code.isCreation,Code.isGuard,Code.isCaller,Code.frames,Code.isFrame,guardIds]
theorem Ai{A:Around}{C:Addr}{us:List Value}{kw:List (Str×Value)}:(A.under (.builtin "type.__call__" ⟨.ref C::us,kw⟩)).units=A.units+1:=by
 first|rfl|simp[Around.under,Code.cUnits,Code.frames,Code.isFrame]
theorem cD.make(r:cD (k+1) A)(C:Addr)(us:List Value)(kw:List (Str×Value)):cD k (A.under (.builtin "type.__call__" ⟨.ref C::us,kw⟩)):=
 ⟨r.hd,by have:=r.dp;rw[Ah];lia,by have:=r.un;rw[Ai];lia,r.gd⟩
theorem cD.depth(r:cD k A):A.depth<recursionLimit:=by have:=r.dp;lia
theorem cD.u(r:cD k A)(h:n<=200:=by decide):A.units+n<cLine:=by have:=r.un;lia
def hE:TA:=fun _ H Q=>Q [] H
def bx(ta:TE)(tr:TA):TA:=fun σ H Q=>ta σ H fun x H1=>tr σ H1 fun xs H2=>Q (x::xs) H2
section
variable {X:Cx} {e:Expr} {es:List Expr} {te:TE} {t:TA} {pos:Pos}
theorem ag:PA X [] hE:=fun _ _ _ _ H Q I h=>Calls.spliced_nil ⟨[],H,I,.nil,h⟩
theorem aa(ha:PE X e te)(hr:PA X es t)(hs:starEach (e::es) X.env=(false,eval e X.env)::starEach es X.env:=by rfl):PA X (e::es) (bx te t):=by
 intro pos ae s σ H Q I h;rw[hs];show wpAny _ _ (spliced ((false,eval e X.env)::backTo pos (starEach es X.env))) _ _ s;refine Calls.spliced_cons (cJ (ha ae s σ H _ I h) fun u s1 ⟨x,H1,I1,r1,q1⟩=>?_);exact cJ (hr pos ae s1 σ H1 _ I1 q1) fun us s2 ⟨xs,H2,I2,r2,q2⟩=>⟨x::xs,H2,I2,.cons r1 r2,q2⟩
def tD(t:TA):TE:=fun σ H Q=>t σ H fun xs H1=>xs.length<=sizeLine/\∀p,H1 p=none->Q (.ref p) (upd H1 p (.tup xs))
def Aj(t:TA):TE:=fun σ H Q=>t σ H fun xs H1=>xs.length<=sizeLine/\∀p,H1 p=none->Q (.ref p) (upd H1 p (.lst xs))
theorem eJ{x1}(h:PA X es t):PE X (.Tuple es x1 pos) (tD t):=by
 intro ae s σ H Q I hq;refine wpAny_Tuple_spliced (cJ (h pos ae s σ H _ I hq) fun us s1 ⟨xs,H1,I1,r,z,q⟩=>⟨by rw[<-r.length];exact z,?_⟩);have hf:H1 s1.heap.objs.size=none:=I1.bS.fresh (bf _);refine⟨.ref s1.heap.objs.size,upd H1 s1.heap.objs.size (.tup xs),I1.laid (t':=s1.toks) (fun b u e=>cR _ e) (bf _) ?_,rfl,q _ hf⟩;exact⟨z,us,r,⟨_,dC _ rfl,rfl,_,rfl,rfl⟩⟩
theorem cZ(h:PA X es t):PE X (.List es pos) (Aj t):=by
 intro ae s σ H Q I hq;refine wpAny_List_spliced (cJ (h pos ae s σ H _ I hq) fun us s1 ⟨xs,H1,I1,r,z,q⟩=>⟨by rw[<-r.length];exact z,?_⟩);have hf:H1 s1.heap.objs.size=none:=I1.bS.fresh (bf _);refine⟨.ref s1.heap.objs.size,upd H1 s1.heap.objs.size (.lst xs),I1.laid (t':=s1.toks) (fun b u e=>cR _ e) (bf _) ?_,rfl,q _ hf⟩;exact⟨z,us,0,r,dC _ rfl⟩
end
abbrev Sp:=List V->Hp->VK->XK->Prop
abbrev xr:=List Env->Hp->Shared->XK->Value->Shared->Prop
structure xt(P:Program)(w:World)(K:PySem.W.Frag)(mg:Str->Option Value)(base:Heap)(A:Around)(outer:List Env)(s:Shared)(H:Hp):Prop where
 frames:A.frames=some outer
 mod:Mod K mg base
 bs:∀b o,base.get? b=some o->s.heap.get? b=some o/\H b=none
 DS:base.objs.size<=s.heap.objs.size
 oB:s.heap.FunFrames base outer
 Mq:∀b∈CJ outer,H b=none
 bS:jx P w H s.heap
 bare:AllBare s.gens
def CE(outer:List Env)(P:Program)(w:World)(H:Hp)(s:Shared)(Q:VK)(u:Value)(s':Shared):Prop:=
 ∃v H',s'.os=s.os/\AllBare s'.gens/\Un (CJ outer) [] H H' s.heap s'.heap/\jx P w H' s'.heap/\bq v u/\Q v H'
def CR(CX:xr)(outer:List Env)(P:Program)(w:World)(H:Hp)(s:Shared)(Q:VK)(E:XK)(r:Result)(s':Shared):Prop:=
 match r with
 |.ok (.ret u)=>CE outer P w H s Q u s'
 |.ok _=>False
 |.error e=>CX outer H s E e s'
structure bC(P:Program)(w:World)(K:PySem.W.Frag)(mg:Str->Option Value)(base:Heap)(CX:xr)(k:Nat)(f:Addr)(fd:FuncData)(ps:List Str)(sp:Sp):Prop where
 len:∀vs H Q E,sp vs H Q E->vs.length=ps.length
 run:∀ (A:Around) (outer:List Env) (s:Shared) (H:Hp) (args:Args) (us:List Value) (vs:List V) (Q:VK) (E:XK),cD k A->xt P w K mg base A outer s H->BindsTo s fd args (ps.zip us)->aY vs us->sp vs H Q E->
  codeAny (model P w) A (.call (.ref f) args) (CR CX outer P w H s Q E) s
theorem xt.make{P:Program}{w:World}{K:PySem.W.Frag}{mg:Str->Option Value}{base:Heap}{A:Around}{outer:List Env}{s:Shared}{H:Hp}(e:xt P w K mg base A outer s H)(C:Addr)(us:List Value)(kw:List (Str×Value)):
  xt P w K mg base (A.under (.builtin "type.__call__" ⟨.ref C::us,kw⟩)) outer s H:=⟨by first|exact e.frames|(simpa [Around.under,Code.envs,Code.isFrame,pushEnvs] using e.frames),e.mod,e.bs,e.DS,e.oB,e.Mq,e.bS,e.bare⟩
section
variable {X:Cx} {ae:List (Addr×Obj)} {σ:St} {H:Hp} {s s':Shared}
theorem aQ.MM(I:aQ X ae σ H s):xt X.prog X.w X.K X.mg X.base X.A X.stack s H:=
 ⟨I.ok.frames,I.ok.mod,I.bs,bj I.ok.DS I.sz,I.stack,I.qk,I.bS,I.bare⟩
theorem aQ.after(I:aQ X ae σ H s)(h:CE X.stack X.prog X.w H s Q u s'):EP X ae σ Q u s':=by
 obtain⟨v,H',os,bare,un,bS,r,q⟩:=h;obtain⟨hh,g,d,t,os'⟩:=s';obtain rfl:os'=s.os:=os;exact⟨v,H',I.call (h':=hh) (g':=g) (d':=d) (t':=t) (ch:=[]) un bS bare (fun b z=>absurd z (by simp)),r,q⟩
end
def pD(sp:Sp)(sX:List V)(E:XK)(t:TA):TE:=fun σ H Q=>t σ H fun vs H1=>sp (vs++sX) H1 Q E
def Qt(C:Addr)(m:Str)(sp:Sp)(sX:List V)(E:XK)(ta:TE)(t:TA):TE:=fun σ H Q=>ta σ H fun x H1=>∃a dx fs,x=.ref a/\H1 a=some (.ins C dx fs)/\fs.lookup m=none/\
 t σ H1 fun vs H2=>sp (x::(vs++sX)) H2 Q E
def Qu(C:Addr)(sp:Sp)(sX:List V)(E:XK)(t:TA):TE:=fun σ H Q=>t σ H fun vs H1=>∀x dx,H1 x=none->H1 dx=none->dx≠x->
 sp (.ref x::(vs++sX)) (upd (upd H1 dx (.own x)) x (.ins C dx [])) (fun v H2=>v=.bR/\Q (.ref x) H2) E
def kH(K:PySem.W.Frag)(fd:FuncData)(ps:List Str)(ds:List Value):Prop:=
 ∀ (s:Shared) (us:List Value),K.In s.heap->(us++ds).length=ps.length->BindsTo s fd ⟨us,[]⟩ (ps.zip (us++ds))
theorem kH.all{K:PySem.W.Frag}{fd:FuncData}{ps:List Str}(h:∀us:List Value,us.length=ps.length->bindArgs fd ⟨us,[]⟩=pure (ps.zip us)):kH K fd ps []:=fun s us _ hl=>by
 rw[kn] at hl |-;exact .of_eq (h us hl)
def mC(CX:xr)(X:Cx)(E:XK):Prop:=∀ (ae:List (Addr×Obj)) (σ:St) (H:Hp) (s:Shared) (e:Value) (s':Shared),aQ X ae σ H s->CX X.stack H s E e s'->X.xe e s'
section
variable {X:Cx} {CX:xr} {k:Nat} {f C:Addr} {fd:FuncData} {ps:List Str} {sp:Sp} {sX:List V} {ds:List Value} {E:XK} {x m:Str} {p pos vK:Pos} {e o:Expr} {es:List Expr} {ta:TE} {t:TA}
theorem EI(F:bC X.prog X.w X.K X.mg X.base CX k f fd ps sp)(hr:cD k X.A)(hb:kH X.K fd ps ds)(hd:aY sX ds)(hx:mC CX X E)(I:aQ X ae σ H s)(r:aY vs us)(h:sp (vs++sX) H Q E):wpAny (model X.prog X.w) X.A (call (.ref f) us) (EP X ae σ Q) X.xe s:=by
 have r2:aY (vs++sX) (us++ds):=r.append hd;have hl:(us++ds).length=ps.length:=by rw[<-r2.length];exact F.len _ _ _ _ h
 refine oh (mn (F.run X.A X.stack s H ⟨us,[]⟩ (us++ds) (vs++sX) Q E hr I.MM (hb s us I.oC hl) r2 h) fun r s' hq=>?_);cases r with
 |error e=>exact hx ae σ H s e s' I hq
 |ok fl=>
  cases fl with
  |ret u=>exact I.after hq
  |next=>exact False.elim hq
  |brk=>exact False.elim hq
  |cont=>exact False.elim hq
theorem Iv(F:bC X.prog X.w X.K X.mg X.base CX k f fd ps sp)(hr:cD k X.A)(hg:Gl X x)(hm:X.mg x=some (.ref f))(hk:PySem.W.keepIn X.K (.ref f)=true)(hb:kH X.K fd ps ds)(hd:aY sX ds)(hx:mC CX X E)(ha:PA X (e::es) t)(CQ:(x==("__debug__":Str))=false:=by decide)(he:starEach (e::es) X.env=(false,eval e X.env)::starEach es X.env:=by rfl)(yW:(backTo pos (starEach es X.env)).any (·.1)=false:=by rfl):
  PE X (.Call (.Name x p) (e::es) [] pos) (pD sp sX E t):=by
 intro ae s σ H Q I h;refine l6 (ql I hg hm ?_ CQ);refine ve (h₀:=X.base) I.ok.mod.Px hk (cJ (ha pos ae s σ H _ I h) fun us s1 ⟨vs,H1,I1,r,q⟩=>⟨I1.oC,?_⟩) he yW;exact EI F hr hb hd hx I1 r q
theorem jB(he:PE X o ta)(c:HD X.K C)(hm:MH X.K C m f)(F:bC X.prog X.w X.K X.mg X.base CX k f fd ps sp)(hr:cD k X.A)(hb:kH X.K fd ps ds)(hd:aY sX ds)(hx:mC CX X E)(ha:PA X (e::es) t)(oE:starEach (e::es) X.env=(false,eval e X.env)::starEach es X.env:=by rfl)(yW:(backTo pos (starEach es X.env)).any (·.1)=false:=by rfl)(ht:eval (.Call (.Attribute o m vK) (e::es) [] pos) X.env=(do
   let ov <- eval o X.env
   standAt vK.atName
   let (f,first) <- holding [ov] (getMethod ov m pl)
   callWith pos f first (backTo pos (starEach (e::es) X.env)) (backToKw pos (keywordEach [] X.env))):=by rfl):
  PE X (.Call (.Attribute o m vK) (e::es) [] pos) (Qt C m sp sX E ta t):=by
 intro ae s σ H Q I h;refine PySem.W.methodCall_KW (pl:=pl) (cJ (he ae s σ H _ I h) fun u s1 ⟨x,H1,I1,rx,a,dx,fs,ex,ea,l,q⟩=>?_) ht;subst ex;obtain rfl:u=Value.ref a:=rx;refine Af I1 ea c hm l ?_;refine ve (first:=[.ref a]) (h₀:=X.base) I.ok.mod.Px hm.kp (cJ (ha pos ae s1 σ H1 _ I1 q) fun us s2 ⟨vs,H2,I2,r,q2⟩=>⟨I2.oC,?_⟩) oE yW;exact EI (us:=.ref a::us) (vs:=.ref a::vs) F hr hb hd hx I2 (.cons rfl r) q2
structure Mk(K:PySem.W.Frag)(C f:Addr):Prop where
 makes:PySem.W.makesIn K C=true
 init:PySem.W.findIn K (.ref C) "__init__"=some (some (.ref f))
 fn:PySem.W.isFn K (.ref f)=true
 kp:PySem.W.keepIn K (.ref C)=true
theorem EJ(M:Mk X.K C f)(F:bC X.prog X.w X.K X.mg X.base CX k f fd ps sp)(hr:cD (k+1) X.A)(hb:kH X.K fd ps ds)(hd:aY sX ds)(hx:mC CX X E)(I:aQ X ae σ H s)(r:aY vs us)(h:∀x dx,H x=none->H dx=none->dx≠x->sp (.ref x::(vs++sX)) (upd (upd H dx (.own x)) x (.ins C dx [])) (fun v H2=>v=.bR/\Q (.ref x) H2) E):
  wpAny (model X.prog X.w) X.A (call (.ref C) us) (EP X ae σ Q) X.xe s:=by
 have hq:=h (s.heap.objs.size+1) s.heap.objs.size (I.bS.fresh (Nat.le_succ _)) (I.bS.fresh (bf _)) (bg (kl _));have I2:=aQ.made (C:=C) I;have r2:aY (V.ref (s.heap.objs.size+1)::(vs++sX)) (Value.ref (s.heap.objs.size+1)::(us++ds)):=.cons rfl (r.append hd);have hl:(Value.ref (s.heap.objs.size+1)::us++ds).length=ps.length:=by
  have e:=r2.length;rw[F.len _ _ _ _ hq] at e;exact e.symm
 refine oh (EH (f:=f) I.oC M.makes M.init (gZ.mp M.fn) (mn (F.run _ X.stack _ _ ⟨Value.ref (s.heap.objs.size+1)::us,[]⟩ (Value.ref (s.heap.objs.size+1)::(us++ds)) _ _ E (hr.make C us [])
  (I2.MM.make C us []) (hb _ (Value.ref (s.heap.objs.size+1)::us) I2.oC hl) r2 hq) fun r s' Iw=>?_))
 cases r with
 |error e=>exact hx ae σ _ _ e s' I2 Iw
 |ok fl=>
  cases fl with
  |ret u=>
   obtain⟨v,H',I3,rv,ev,q3⟩:=I2.after Iw;subst ev;exact⟨rv,⟨V.ref (s.heap.objs.size+1),H',I3,rfl,q3⟩⟩
  |next=>exact False.elim Iw
  |brk=>exact False.elim Iw
  |cont=>exact False.elim Iw
theorem Ix(M:Mk X.K C f)(F:bC X.prog X.w X.K X.mg X.base CX k f fd ps sp)(hr:cD (k+1) X.A)(hg:Gl X x)(hm:X.mg x=some (.ref C))(hb:kH X.K fd ps ds)(hd:aY sX ds)(hx:mC CX X E)(ha:PA X (e::es) t)(CQ:(x==("__debug__":Str))=false:=by decide)(he:starEach (e::es) X.env=(false,eval e X.env)::starEach es X.env:=by rfl)(yW:(backTo pos (starEach es X.env)).any (·.1)=false:=by rfl):
  PE X (.Call (.Name x p) (e::es) [] pos) (Qu C sp sX E t):=by
 intro ae s σ H Q I h;refine l6 (ql I hg hm ?_ CQ);refine ve (h₀:=X.base) I.ok.mod.Px M.kp (cJ (ha pos ae s σ H _ I h) fun us s1 ⟨vs,H1,I1,r,q⟩=>⟨I1.oC,?_⟩) he yW;exact EJ M F hr hb hd hx I1 r q
end
def PK(X:Cx)(EK:List Keyword)(t:TA):Prop:=
 ∀ (pos:Pos) (ae:List (Addr×Obj)) (s:Shared) (σ:St) (H:Hp) (Q:List V->Hp->Prop),aQ X ae σ H s->t σ H Q->wpAny (model X.prog X.w) X.A (evalAll ((backToKw pos (keywordEach EK X.env)).map (·.2))) (AP X ae σ Q) X.xe s
section
variable {X:Cx} {CX:xr} {k:Nat} {f C:Addr} {fd:FuncData} {ps ks:List Str} {sp:Sp} {E:XK} {x m:Str} {p pos vK VR:Pos} {e o:Expr} {es:List Expr} {EK:List Keyword} {te ta:TE} {t tk:TA} {nm:Option Str}
theorem MN:PK X [] hE:=fun _ _ _ _ H Q I h=>wpAny_evalAll_nil ⟨[],H,I,.nil,h⟩
theorem Iy(ha:PE X e te)(hr:PK X EK t):PK X (⟨nm,e,VR⟩::EK) (bx te t):=by
 intro pos ae s σ H Q I h;show wpAny _ _ (evalAll ((do let v <- eval e X.env;standAt pos;pure v)::(backToKw pos (keywordEach EK X.env)).map (·.2))) _ _ s;refine wpAny_evalAll_cons (aN (cJ (ha ae s σ H _ I h) fun u s1 ⟨x,H1,I1,r1,q1⟩=>aN (q9 (wpAny_pure ?_))));exact cJ (hr pos ae s1 σ H1 _ I1 q1) fun us s2 ⟨xs,H2,I2,r2,q2⟩=>⟨x::xs,H2,I2,.cons r1 r2,q2⟩
variable {g:List Value->List Value->List Value} {gV:List V->List V->List V}
end
structure aJ(N P:List Str)(sc:Scope):Prop where
 kind:sc.kind=.function
 co:sc.isCoroutine=false
 gen:sc.isGenerator=false
 nd:N.Nodup
 pre:N.take P.length=P
 par:∀x∈P,sc.names.lookup x=some .local\/sc.names.lookup x=some .cell
 MO:∀y∈sc.names,y.2≠.free
theorem tZ{kindOf:Str->Option NameKind}{x:Str}:∀ {binds:List (Str×Value)} {m:Str->Option Value},(∀v,(x,v)∉binds)->bindL kindOf binds m x=m x
 |[],_,_=>rfl
 |(n,v)::r,m,h=>by
  unfold bindL;rw[tZ fun w hw=>h w (cN _ hw)];split
  .have:x≠n:=by rintro rfl;exact h v cA
   simp[this]
  .rfl
theorem t_{kindOf:Str->Option NameKind}{x:Str}:∀ {binds:List (Str×Value)} {m:Str->Option Value},(∀v,(x,v)∉binds)->bindC kindOf binds m x=m x
 |[],_,_=>rfl
 |(n,v)::r,m,h=>by
  unfold bindC;rw[t_ fun w hw=>h w (cN _ hw)];split
  .rfl
  .have:x≠n:=by rintro rfl;exact h v cA
   simp[this]
theorem ua{kindOf:Str->Option NameKind}{x:Str}{v:Value}:∀ {P:List Str} {vs:List Value} {i:Nat} {m:Str->Option Value},P.Nodup->P[i]?=some x->vs[i]?=some v->kindOf x=some .local->
  bindL kindOf (P.zip vs) m x=some v
 |[],_,_,_,_,h,_,_=>by simp at h
 |_::_,[],_,_,_,_,h,_=>by simp at h
 |p::P,w::vs,0,m,nd,h1,h2,hk=>by
  simp at h1 h2;subst h1;subst h2;show bindL kindOf ((p,w)::P.zip vs) m p=_;unfold bindL;rw[tZ fun v hv=>(dQ.mp nd).1 (oa hv).1,aq hk];simp
 |p::P,w::vs,i+1,m,nd,h1,h2,hk=>by
  show bindL kindOf ((p,w)::P.zip vs) m x=_;unfold bindL;exact ua (i:=i) (dQ.mp nd).2 (by simpa using h1) (by simpa using h2) hk
theorem ub{kindOf:Str->Option NameKind}{x:Str}{v:Value}:∀ {P:List Str} {vs:List Value} {i:Nat} {m:Str->Option Value},P.Nodup->P[i]?=some x->vs[i]?=some v->kindOf x≠some .local->
  bindC kindOf (P.zip vs) m x=some v
 |[],_,_,_,_,h,_,_=>by simp at h
 |_::_,[],_,_,_,_,h,_=>by simp at h
 |p::P,w::vs,0,m,nd,h1,h2,hk=>by
  simp at h1 h2;subst h1;subst h2;show bindC kindOf ((p,w)::P.zip vs) m p=_;unfold bindC;rw[t_ fun v hv=>(dQ.mp nd).1 (oa hv).1,ap hk];simp
 |p::P,w::vs,i+1,m,nd,h1,h2,hk=>by
  show bindC kindOf ((p,w)::P.zip vs) m x=_;unfold bindC;exact ub (i:=i) (dQ.mp nd).2 (by simpa using h1) (by simpa using h2) hk
def start(N:List Str)(vs:List V):St:=vs.map some++List.replicate (N.length-vs.length) none
def vL(CX:xr)(P:Program)(w:World)(K:PySem.W.Frag)(mg:Str->Option Value)(base:Heap)(N:List Str)(qual:Str)(scope:Scope)(f:Addr)(cd:Value)(A:Around)(outer:List Env)(s:Shared)(H:Hp)(E:XK):Cx where
 prog:=P
 w:=w
 K:=K
 mg:=mg
 base:=base
 A:=A.deeper (envOfC qual scope s.heap.objs.size f cd)
 N:=N
 s₀:=s
 H₀:=H
 env:=envOfC qual scope s.heap.objs.size f cd
 outer:=outer
 stack:=envOfC qual scope s.heap.objs.size f cd::outer
 ex:=[]
 calm:=true
 fn:=fun _=>true
 pn:=[]
 xe:=fun e s'=>wpAny (model P w) (A.deeper (envOfC qual scope s.heap.objs.size f cd)) (leaving (envOfC qual scope s.heap.objs.size f cd) e) (fun _ Qv=>CX outer H s E e Qv) (fun e' Qv=>CX outer H s E e' Qv) s'
theorem xu{sc:Scope}{n:Nat}{x:Str}(h:sc.names.lookup x=some .cell):∃c,(cellsFrom n sc.names []).lookup x=some c:=by
 have q:=PySem.W.cellsFrom_some sc.names n [] (.inl h);exact nY.mp q
theorem CS{CX:xr}{P:Program}{w:World}{K:PySem.W.Frag}{mg:Str->Option Value}{base:Heap}{N ps:List Str}{qual:Str}{scope:Scope}{f:Addr}{cd:Value}{A:Around}{outer:List Env}{s s1:Shared}{H:Hp}{E:XK}{us:List Value}{vs:List V}(S:aJ N ps scope)(hd:A.handled=none)(e0:xt P w K mg base A outer s H)(hl:vs.length=ps.length)(r:aY vs us)(x:InCallC s s.heap.objs.size (bindL (envOfC qual scope s.heap.objs.size f cd).kindOf (ps.zip us) fun _=>none) (cellsFrom (s.heap.objs.size+1) scope.names []) (bindC (envOfC qual scope s.heap.objs.size f cd).kindOf (ps.zip us) fun _=>none) s1):
  aQ (vL CX P w K mg base N qual scope f cd A outer s H E) [] (start N vs) H s1:=by
 have yW:ps.length<=N.length:=by have:=congrArg List.length S.pre;rw[iF] at this;lia
 obtain⟨h1,tk,rfl,hk⟩:=x.done;have PB:∀b:Addr,b∉(vL CX P w K mg base N qual scope f cd A outer s H E).ex:=fun b z=>absurd (show b∈([]:List Addr) from z) (by simp);refine⟨⟨e0.mod,S.kind,rfl,rfl,bf _,fun y z c h1 h2=>?_,fun y hy=>?_,fun y c _ h=>?_,fun _=>hd,Around.frames_deeper e0.frames,.inr ⟨rfl,rfl⟩,fun b z=>absurd z (PB b),e0.bs,e0.DS,fun b _ _=>PB b,fun b z=>absurd z (PB b),e0.oB,e0.Mq⟩,
  rfl,e0.bare,Un.kept hk,⟨_,x.toInCall.ns,fun i y v h1 h2 h3=>?_⟩,fun y c h=>⟨_,x.cell y c h⟩,e0.bS.fresh (bf _),fun y c h=>?_,fun p hp=>absurd (show p∈([]:List (Addr×Obj)) from hp) (by simp),e0.bS.kept hk,?_⟩
 .exact name_of_addr x.apart (kd h1) (kd h2)
 .have hy:scope.names.lookup y=some .cell\/scope.names.lookup y=some .free:=hy;rcases hy with hy|hy
  .exact xu hy
  .exact absurd rfl (S.MO _ (kd hy))
 .exact eC (x.above y c (kd h))
 .have hi:i<vs.length:=by
   unfold start at h2;by_cases hi:i<vs.length
   .exact hi
   .rw[mU (by simpa using hi)] at h2;rw[zi] at h2;split at h2 <;> cases h2
  have ha:vs[i]?=some v:=by
   unfold start at h2;rw[iC (by simpa using hi),bp] at h2;cases e:vs[i]? with
   |none=>rw[e] at h2;cases h2
   |some a=>rw[e] at h2;cases h2;rfl
  obtain⟨u,hu,rv⟩:=r.get ha;have hp:ps[i]?=some y:=by
   rw[<-S.pre,zg (by lia)];exact h1
  have ZX:ps.Nodup:=by rw[<-S.pre];exact S.nd.sublist (qQ _ _)
  refine⟨u,rv,?_⟩;rcases S.par y (eB hp) with k|k
  .exact .inl ⟨k,ua ZX hp hu k⟩
  .obtain⟨c,e⟩:=xu (n:=s.heap.objs.size+1) k;refine .inr ⟨.inl k,c,e,?_⟩;have q:=x.cell y c e;rw[ub ZX hp hu (by show scope.names.lookup y≠_;rw[k];decide)] at q;exact q
 .exact e0.bS.fresh (eC (x.above y c (kd h)))
 .unfold start;show _=N.length;rw[cu,aF,qI];lia
theorem Lf{CX:xr}{P:Program}{w:World}{K:PySem.W.Frag}{mg:Str->Option Value}{base:Heap}{k:Nat}{f:Addr}{name qual:Str}{params:Arguments}{body:List Stmt}{scope:Scope}{dV kV m5 pm dE ct oc:Value}{an od:Option Addr}{yX:Array (Option Value)}{N ps:List Str}{sp:Sp}(lk:K.lookup f=some ⟨oc,od,.func (PySem.W.fnOf name qual params body scope dV kV m5 pm an dE ct),yX⟩)(tW:PySem.W.codeIn K dE qual=true)(S:aJ N ps scope)(len:∀vs H Q E,sp vs H Q E->vs.length=ps.length)(xv:∀ (A:Around) (outer:List Env) (s:Shared) (H:Hp) (vs:List V) (Q:VK) (E:XK),cD k (A.deeper (envOfC qual scope s.heap.objs.size f dE))->sp vs H Q E->
   ∃t,z8 (vL CX P w K mg base N qual scope f dE A outer s H E) body t/\t { nx:=fun _ H'=>Q .bR H',rt:=Q } (start N vs) H):
  bC P w K mg base CX (k+1) f (PySem.W.fnOf name qual params body scope dV kV m5 pm an dE ct) ps sp:=by
 refine⟨len,fun A outer s H args us vs Q E hr e0 hb r HE=>?_⟩;have hl:=len _ _ _ _ HE;have KX:K.In s.heap:=e0.mod.Px.keeps fun b o e=>(e0.bs b o e).1;have lim:s.heap.NoLimit:=e0.mod.nolimit.keeps fun b o e=>(e0.bs b o e).1;have Qw:∀y∈ps.zip us,scope.names.lookup y.1=some .local\/(scope.names.lookup y.1=some .cell/\((cellsFrom (s.heap.objs.size+1) scope.names []).lookup y.1).isSome=true):=fun ⟨n,v⟩ hy=>by
  rcases S.par n (oa hy).1 with q|q
  .exact .inl q
  .exact .inr ⟨q,PySem.W.cellsFrom_some _ _ _ (.inl q)⟩
 refine codeAny_call_function hr.depth (KX _ _ lk) rfl S.co S.gen rfl (PySem.W.codeRec_of KX tW) (hb _ _ _ _ ?_);refine wpAny_newFunctionEnv_cells S.kind Qw fun env he s1 x=>?_;subst he;refine⟨lim.keeps x.toInCall.keep,codeAny_func ?_⟩;obtain⟨t,ht,hq⟩:=xv A outer s H vs Q E (hr.deeper _) HE;have I:aQ (vL CX P w K mg base N qual scope f dE A outer s H E) [] (start N vs) H s1:=CS S hr.hd e0 hl r x;refine iQ (ht [] s1 (start N vs) H _ I hq) (fun fl s' hs=>?_) fun e s' hs=>hs;have fin:∀ {σ':St} {H':Hp} {v:V} {u:Value},aQ (vL CX P w K mg base N qual scope f dE A outer s H E) [] σ' H' s'->bq v u->Q v H'->CE outer P w H s Q u s':=
  fun {σ' H' v u} J rv q=>⟨v,H',J.os,J.bare,J.base,J.bS,rv,q⟩
 cases fl with
 |ret u=>
  obtain⟨v,σ',H',J,rv,q⟩:=hs;exact fin J rv q
 |next=>
  obtain⟨σ',H',J,q⟩:=hs;exact fin (v:=V.bR) (u:=Value.none) J rfl q
 |brk=>
  obtain⟨_,_,_,q⟩:=hs;exact False.elim q
 |cont=>
  obtain⟨_,_,_,q⟩:=hs;exact False.elim q
section
variable {X:Cx} {x:Str} {p pos:Pos} {e:Expr} {es:List Expr} {t:TA} {id T:String} {r:List V->Hp->VK->Prop}
def PD(r:List V->Hp->VK->Prop)(t:TA):TE:=fun σ H Q=>t σ H fun vs H1=>r vs H1 Q
theorem av(hc:fA X (.builtin id) r)(hg:Gl X x)(hm:X.mg x=none)(hv:bootBuiltins x=some (.builtin id))(ha:PA X (e::es) t)(hn:x≠"__name__":=by decide)(CQ:(x==("__debug__":Str))=false:=by decide)(he:starEach (e::es) X.env=(false,eval e X.env)::starEach es X.env:=by rfl)(yW:(backTo pos (starEach es X.env)).any (·.1)=false:=by rfl):PE X (.Call (.Name x p) (e::es) [] pos) (PD r t):=by
 intro ae s σ H Q I h;refine l6 (kE I hg hm hv ?_ hn CQ);exact PyProof.Rows.callWith_builtin1 (cJ (ha pos ae s σ H _ I h) fun us s1 ⟨vs,H1,I1,r1,q1⟩=>hc ae s1 σ H1 vs us Q I1 r1 q1) he yW
theorem cr(hc:fA X (.type T) r)(hg:Gl X x)(hm:X.mg x=none)(hv:bootBuiltins x=some (.type T))(ha:PA X (e::es) t)(hn:x≠"__name__":=by decide)(CQ:(x==("__debug__":Str))=false:=by decide)(he:starEach (e::es) X.env=(false,eval e X.env)::starEach es X.env:=by rfl)(yW:(backTo pos (starEach es X.env)).any (·.1)=false:=by rfl):PE X (.Call (.Name x p) (e::es) [] pos) (PD r t):=by
 intro ae s σ H Q I h;refine l6 (kE I hg hm hv ?_ hn CQ);exact qJ (cJ (ha pos ae s σ H _ I h) fun us s1 ⟨vs,H1,I1,r1,q1⟩=>hc ae s1 σ H1 vs us Q I1 r1 q1) he yW
end
end L2
namespace HT
open PySem PyProof.Rows
section
open PySem.SeqAt
open PySem.AutoSeq1 (wpAny_loadPart')
open PySem.MeetsSeq PySem.MeetsSeq2 PySem.MeetsSeq3
end
section
variable {prog:Program} {w:World} {A:Around} {E:Value->Shared->Prop} {s:Shared}
def qr(n d:Nat):Option Int->Nat
 |none=>d
 |some v=>if v<0 then (v+(n:Int)).toNat else min v.toNat n
end
end HT
namespace L2
open PySem PySem.Spec PyProof.Rows
abbrev TO:=St->Hp->(Option Int->Hp->Prop)->Prop
def PO(X:Cx)(e:Option Expr)(t:TO):Prop:=
 ∀ (ae:List (Addr×Obj)) (s:Shared) (σ:St) (H:Hp) (Q:Option Int->Hp->Prop),aQ X ae σ H s->t σ H Q->
  wpAny (model X.prog X.w) X.A (evalPart e X.env) (fun u s'=>∃o H',aQ X ae σ H' s'/\IsPart u o/\Q o H') X.xe s
def Iz:TO:=fun _ H Q=>Q none H
def Qx(t:TE):TO:=fun σ H Q=>t σ H fun x H1=>∃i,x=.int i/\Q (some i) H1
section
variable {X:Cx} {e:Expr} {te:TE} {lo hi:Option Expr} {tl th:TO} {pos p2:Pos}
theorem m6:PO X none Iz:=by
 intro ae s σ H Q I h;rw[evalPart_none];exact wpAny_pure ⟨none,H,I,.none,h⟩
theorem m7(h:PE X e te):PO X (some e) (Qx te):=by
 intro ae s σ H Q I hw;rw[evalPart_some];refine cJ (h ae s σ H _ I hw) fun u s1 ⟨x,H1,I1,r1,q1⟩=>?_;obtain⟨i,rfl,q⟩:=q1;obtain⟨t,rfl⟩:=r1;exact⟨some i,H1,I1,.int i t,q⟩
def ZY(X:Cx)(r:V->Option Int->Option Int->Hp->VK->Prop):Prop:=
 ∀ (ae:List (Addr×Obj)) (s:Shared) (σ:St) (H:Hp) (x:V) (v vl vu:Value) (lo hi:Option Int) (sl:Addr) (Q:VK),aQ X ae σ H s->bq x v->s.heap.IsSliceOf sl vl vu .none->IsPart vl lo->IsPart vu hi->r x lo hi H Q->
  ∃T id,typeLookup (.type T) "__getitem__"=pure (some (.builtin id))/\s.TypeIs v T/\wpAny (model X.prog X.w) X.A (getItem v (.ref sl)) (EP X ae σ Q) X.xe s
def tSl(r:V->Option Int->Option Int->Hp->VK->Prop)(te:TE)(tl th:TO):TE:=fun σ H Q=>te σ H fun x H1=>tl σ H1 fun l H2=>th σ H2 fun u H3=>r x l u H3 Q
theorem kI(hr:ZY X r)(he:PE X e te)(hl:PO X lo tl)(hu:PO X hi th):PE X (.Subscript e (.Slice lo hi none p2) pos) (tSl r te tl th):=by
 intro ae s σ H Q I h;refine Subscript_ (cJ (he ae s σ H _ I h) fun v s1 ⟨x,H1,I1,r1,q1⟩=>?_);refine wpAny_Slice (cJ (hl ae s1 σ H1 _ I1 q1) fun vl s2 ⟨l,H2,I2,pl,q2⟩=>cJ (hu ae s2 σ H2 _ I2 q2) fun vu s3 ⟨u,H3,I3,pu,q3⟩=>?_);rw[evalPart_none];refine wpAny_pure ?_;have I4:aQ X ae σ H3 { s3 with heap:=s3.heap.push { cls:=.type "slice",data:=.fields #[vl,vu,.none] } }:=I3.kept (t':=s3.toks) fun b ob q=>cR _ q;obtain⟨T,id,hT,ht,hg⟩:=hr ae { s3 with heap:=s3.heap.push { cls:=.type "slice",data:=.fields #[vl,vu,.none] } } σ H3 x v vl vu l u s3.heap.objs.size Q I4 r1 (Heap.IsSliceOf.new ..) pl pu q3;show wpAny (model X.prog X.w) X.A (subscriptTail e (.Slice lo hi none p2) v (.ref s3.heap.objs.size)) (EP X ae σ Q) X.xe { s3 with heap:=s3.heap.push { cls:=.type "slice",data:=.fields #[vl,vu,.none] } };exact tail_any (ops:=[.ref s3.heap.objs.size,v]) ht hT hg (by with_unfolding_all rfl)
def tE(xs:List V)(lo hi:Option Int):List V:=(xs.drop (HT.qr xs.length 0 lo)).take (HT.qr xs.length xs.length hi-HT.qr xs.length 0 lo)
theorem xw(xs:List V)(lo hi:Option Int):(tE xs lo hi).length<=xs.length:=by
 unfold tE;rw[iF,zQ];lia
end
def EL(n:Nat)(i:Int):Option Nat:=if 0<=i then (if i<n then some i.toNat else none) else if -(n:Int)<=i then some (i+n).toNat else none
def fT{α:Type}(xs:List α)(i:Int):Option α:=(EL xs.length i).bind fun j=>xs[j]?
theorem Bo(h:EL n i=some j):seqIndex? i n=some j/\j<n/\-(n:Int)<=i/\i<n:=by
 unfold EL at h;by_cases h0:0<=i
 .rw[aq h0] at h;by_cases h1:i<n
  .rw[aq h1] at h;have e:i.toNat=j:=ba h;exact⟨by rw[seqIndex_of h0 h1,e],by lia,by lia,h1⟩
  .rw[ap h1] at h;cases h
 .rw[ap h0] at h;by_cases h1:-(n:Int)<=i
  .rw[aq h1] at h;have e:(i+n).toNat=j:=ba h;exact⟨by rw[seqIndex_neg (by lia) h1,e],by lia,h1,by lia⟩
  .rw[ap h1] at h;cases h
theorem Bp(h:fT xs i=some v):∃j,seqIndex? i xs.length=some j/\xs[j]?=some v/\j<xs.length/\-(xs.length:Int)<=i/\i<xs.length:=by
 unfold fT at h;cases e:EL xs.length i with
 |none=>rw[e] at h;cases h
 |some j=>
  rw[e] at h;obtain⟨h1,h2,h3,h4⟩:=Bo e;exact⟨j,h1,h,h2,h3,h4⟩
theorem br{α:Type}{xs:List α}{j:Nat}{v:α}(h:xs[j]?=some v):fT xs (j:Int)=some v:=by
 have hj:j<xs.length:=(cI.mp h).1;have e:EL xs.length (j:Int)=some j:=by
  unfold EL;rw[aq (by lia),aq (by lia)];simp
 unfold fT;rw[e];exact h
theorem kJ(xs:List α)(v:α):fT (xs++[v]) (-1)=some v:=by
 have hl:(xs++[v]).length=xs.length+1:=by simp
 have e:EL (xs++[v]).length (-1)=some xs.length:=by
  unfold EL;rw[hl,ap (by decide),aq (by lia)];congr 1;lia
 unfold fT;rw[e];show (xs++[v])[xs.length]?=some v;simp
def vM(b:Expr):Prop:=∀o i,subscripted b false o i=operate [o,i] (getItem o i)
def VS(X:Cx)(r:R2):Prop:=
 ∀ (value slice:Expr) (ae:List (Addr×Obj)) (s:Shared) (σ:St) (H:Hp) (x y:V) (v u:Value) (Q:VK),aQ X ae σ H s->bq x v->bq y u->r x y H Q->
  subscripted slice false v u=operate [v,u] (getItem v u)->wpAny (model X.prog X.w) X.A (subscriptTail value slice v u) (EP X ae σ Q) X.xe s
def MtR(X:Cx)(id:String)(r:V->List V->Hp->VK->Prop):Prop:=
 ∀ (ae:List (Addr×Obj)) (s:Shared) (σ:St) (H:Hp) (x:V) (xs:List V) (v:Value) (us:List Value) (Q:VK),aQ X ae σ H s->bq x v->aY xs us->r x xs H Q->
  wpAny (model X.prog X.w) X.A (call (.builtin id) (v::us)) (EP X ae σ Q) X.xe s
section
variable {X:Cx} {a b:Expr} {ta tb:TE} {pos:Pos}
theorem az(hr:VS X r)(ha:PE X a ta)(hb:PE X b tb)(hs:vM b):PE X (.Subscript a b pos) (iA r ta tb):=by
 intro ae s σ H Q I h;exact Subscript_ (MA ha hb I h fun v u s2 x y H2 I2 rx ry q=>hr a b ae s2 σ H2 x y v u Q I2 rx ry q (hs _ _))
def tG(K:PySem.W.Frag):R2:=fun x y H Q=>∃p xs i v,x=.ref p/\y=.int i/\aU K H p xs/\fT xs i=some v/\Q v H
def xx(K:PySem.W.Frag):R2:=fun x y H Q=>∃p xs i v,x=.ref p/\y=.int i/\cK K H p xs/\fT xs i=some v/\Q v H
theorem aA:VS X (tG X.K):=by
 intro value slice ae s σ H x y v u Q I rx ry h hs;obtain⟨p,xs,i,z,rfl,rfl,hq,he,q⟩:=h;cases rx;obtain⟨t,rfl⟩:=ry;obtain⟨its,r,pl,hz⟩:=I.list hq;obtain⟨j,h1,h2,h3,h4,h5⟩:=Bp he;obtain⟨w,ew,IA⟩:=r.get h2;have hl:=r.length;have hn:=vI;have fin:EP X ae σ Q w s:=⟨z,H,I,IA,q⟩
 by_cases h0:0<=i
 .have hj:i.toNat=j:=by
   rw[seqIndex_of h0 h5] at h1;exact ba h1
  exact item_listR pl.isList h0 (by lia) (by rw[hj];simpa using ew) fin hs
 .have hj:(i+(its.toArray.size:Int)).toNat=j:=by
   rw[seqIndex_neg (by lia) h4] at h1;rw[dj,<-hl];exact ba h1
  exact subscriptTail_builtinR (x:=w) pl.isList.typeIs slot_list_getitem.lookup
   (wpAny_getItem_list_neg (Q:=fun r s'=>r=w/\EP X ae σ Q r s') pl.isList (by lia) (by rw[dj] <;> lia) (by lia) (by rw[hj];simpa using ew) ⟨rfl,fin⟩) hs
theorem aZ:VS X (xx X.K):=by
 intro value slice ae s σ H x y v u Q I rx ry h hs;obtain⟨p,xs,i,z,rfl,rfl,hq,he,q⟩:=h;cases rx;obtain⟨t,rfl⟩:=ry;obtain⟨its,r,pl,hz⟩:=I.tuple hq;obtain⟨j,h1,h2,h3,h4,h5⟩:=Bp he;obtain⟨w,ew,IA⟩:=r.get h2;have hl:=r.length;have hn:=vI;have fin:EP X ae σ Q w s:=⟨z,H,I,IA,q⟩
 exact subscriptTail_builtinR (x:=w) pl.typeIs slot_tuple_getitem.lookup
  (getItem_tuple (j:=j) (Q:=fun r s'=>r=w/\EP X ae σ Q r s') pl (by lia) (by lia) (by rw[dj,<-hl];exact h1) (by simpa using ew) ⟨rfl,fin⟩) hs
theorem Ak(its:List Value)(n j:Nat)(u:Value):Obj.mapSeq (·.setIfInBounds j u) { cls:=.type "list",data:=.seq its.toArray n }={ cls:=.type "list",data:=.seq (its.set j u).toArray n }:=by
 simp[Obj.mapSeq]
theorem aQ.lst(I:aQ X ae σ H s)(h:H p=some (.lst xs)):
  ∃ (its:List Value) (n:Nat),aY xs its/\s.heap.get? p=some { cls:=.type "list",data:=.seq its.toArray n }/\xs.length<=sizeLine:=by
 obtain⟨z,its,n,r,e⟩:=I.bS p _ h;exact⟨its,n,r,e,z⟩
theorem aQ.MP{ae:List (Addr×Obj)}{σ:St}{H:Hp}{s:Shared}{p:Addr}{xs ys:List V}{its its':List Value}{n n':Nat}{f:Obj->Obj}(I:aQ X ae σ H s)(h:H p=some (.lst xs))(ho:s.heap.get? p=some { cls:=.type "list",data:=.seq its.toArray n })(hf:f { cls:=.type "list",data:=.seq its.toArray n }={ cls:=.type "list",data:=.seq its'.toArray n' })(r:aY ys its')(hz:ys.length<=sizeLine)(t:Nat):
  aQ X ae σ (upd H p (.lst ys)) { s with heap:=s.heap.update p f,toks:=t }:=by
 have e:(s.heap.update p f).get? p=some { cls:=.type "list",data:=.seq its'.toArray n' }:=by
  rw[vd f ho (by rw[hf] <;> rfl),hf]
 refine I.write (x:=p) (e:=p) (by rw[h];trivial) (.inl rfl) (fun b u hb q=>(u8 _ _ (Ne.symm hb)).trans q) ⟨_,e⟩ ?_;exact⟨hz,its',n',r,e⟩
def Qy:V->V->V->Hp->(Hp->Prop)->Prop:=fun o i v H Q=>∃p xs k j,o=.ref p/\i=.int k/\H p=some (.lst xs)/\EL xs.length k=some j/\Q (upd H p (.lst (xs.set j v)))
theorem i8:Qn X Qy:=by
 intro ae s σ H o i v ov iv u Q I ro ri rv h;obtain⟨p,xs,k,j,rfl,rfl,hp,hj,q⟩:=h;cases ro;obtain⟨t,rfl⟩:=ri;obtain⟨its,n,r,ho,hz⟩:=I.lst hp;obtain⟨h1,h2,h3,h4⟩:=Bo hj;have hl:=r.length;have hn:=vI;have I':aQ X ae σ (upd H p (.lst (xs.set j v))) { s with heap:=s.heap.update p (Obj.mapSeq (·.setIfInBounds j u)) }:=
  I.MP hp ho (Ak its n j u) (r.set rv j) (by rw[md];exact hz) s.toks
 by_cases h0:0<=k
 .have hk:k.toNat=j:=by
   rw[seqIndex_of h0 h4] at h1;exact ba h1
  exact PySem.W.ki_setAt ho h0 (by lia) (by rw[dj,<-hl];exact h4) (by rw[hk];exact⟨_,I',q⟩)
 .have hk:(k+(its.toArray.size:Int)).toNat=j:=by
   rw[seqIndex_neg (by lia) h3] at h1;rw[dj,<-hl];exact ba h1
  exact PySem.W.ki_setBack ho (by lia) (by rw[dj,<-hl];exact h3) (by lia) (by rw[hk];exact⟨_,I',q⟩)
theorem vN(lo hi:Option Int)(n:Nat):(sliceBounds lo hi none n).1=((HT.qr n 0 lo:Nat):Int)/\(sliceBounds lo hi none n).2.1=((HT.qr n n hi:Nat):Int)/\(sliceBounds lo hi none n).2.2=1:=by
 refine⟨?_,?_,rfl⟩
 .cases lo with
  |none=>simp[sliceBounds,HT.qr]
  |some i=>
   simp only[sliceBounds,HT.qr,Option.getD_none,show (1:Int) > 0 by decide,jw];by_cases h:i<0
   .simp only[h,jw] <;> lia
   .simp only[h,fZ] <;> lia
 .cases hi with
  |none=>simp[sliceBounds,HT.qr]
  |some i=>
   simp only[sliceBounds,HT.qr,Option.getD_none,show (1:Int) > 0 by decide,jw];by_cases h:i<0
   .simp only[h,jw] <;> lia
   .simp only[h,fZ] <;> lia
theorem tH(its:List Value)(lo hi:Option Int):slicePick its.toArray lo hi none=((its.drop (HT.qr its.length 0 lo)).take (HT.qr its.length its.length hi-HT.qr its.length 0 lo)).toArray:=by
 obtain⟨h1,h2,h3⟩:=vN lo hi its.toArray.size;unfold slicePick;rw[h1,h2,h3];simp only[sliceRange_one,pick_run,dj] <;> rfl
def VT(K:PySem.W.Frag):V->Option Int->Option Int->Hp->VK->Prop:=fun x lo hi H Q=>∃a xs,x=.ref a/\aU K H a xs/\∀p,H p=none->Q (.ref p) (upd H p (.lst (tE xs lo hi)))
theorem m8:ZY X (VT X.K):=by
 intro ae s σ H x v vl vu lo hi sl Q I rx hs pl pu h;obtain⟨a,xs,rfl,hx,q⟩:=h;cases rx;obtain⟨its,r,ht,hz⟩:=I.list hx;have eW:=r.length;refine⟨"list",_,slot_list_getitem.lookup,ht.isList.typeIs,?_⟩;refine wpAny_getItem_list_slice ht.isList hs pl pu .none (by simp) ?_ (by rw[dj] <;> lia);rw[tH,<-eW];refine⟨.ref s.heap.objs.size,_,I.laid (t':=s.toks) (o:=.lst (tE xs lo hi)) (fun b ob q=>cR _ q) (bf _) ?_,rfl,q _ (I.bS.fresh (bf _))⟩;exact⟨bj (xw xs lo hi) hz,_,0,(r.drop (HT.qr xs.length 0 lo)).take (HT.qr xs.length xs.length hi-HT.qr xs.length 0 lo),dC _ rfl⟩
def g8:V->Bool
 |.bR=>true
 |.bl _=>true
 |.int _=>true
 |.str _=>true
 |_=>false
def vO:V->V->Bool
 |.bR,.bR=>true
 |.bl a,.bl b=>a==b
 |.bl a,.int b=>(if a then 1 else 0)==b
 |.int a,.bl b=>a==(if b then 1 else 0)
 |.int a,.int b=>a==b
 |.str a,.str b=>a==b
 |_,_=>false
theorem EM(ry:bq y u)(rx:bq x v)(fy:g8 y=true)(fx:g8 x=true):SeqAt.EqAt A s u v (vO y x):=by
 cases y with
 |bR=>
  cases ry;cases x with
  |bR=>cases rx;exact SeqAt.EqAt.same _
  |bl b=>cases rx;exact SeqAt.EqAt.none_bool b
  |int b=>obtain⟨t,rfl⟩:=rx;exact SeqAt.EqAt.none_int b t
  |str b=>obtain⟨t,rfl⟩:=rx;exact SeqAt.EqAt.none_str b t
  |_=>exact absurd (show false=true from fx) cP
 |bl a=>
  cases ry;cases x with
  |bR=>cases rx;exact SeqAt.EqAt.bool_none a
  |bl b=>cases rx;exact SeqAt.EqAt.bool_bool a b
  |int b=>obtain⟨t,rfl⟩:=rx;exact SeqAt.EqAt.bool_int a b t
  |str b=>obtain⟨t,rfl⟩:=rx;exact SeqAt.EqAt.bool_str a b t
  |_=>exact absurd (show false=true from fx) cP
 |int a=>
  obtain⟨t',rfl⟩:=ry;cases x with
  |bR=>cases rx;exact SeqAt.EqAt.int_none a t'
  |bl b=>cases rx;exact SeqAt.EqAt.int_bool a t' b
  |int b=>obtain⟨t,rfl⟩:=rx;exact SeqAt.EqAt.int_int a t' b t
  |str b=>obtain⟨t,rfl⟩:=rx;exact SeqAt.EqAt.int_str a t' b t
  |_=>exact absurd (show false=true from fx) cP
 |str a=>
  obtain⟨t',rfl⟩:=ry;cases x with
  |bR=>cases rx;exact SeqAt.EqAt.str_none a t'
  |bl b=>cases rx;exact SeqAt.EqAt.str_bool a t' b
  |int b=>obtain⟨t,rfl⟩:=rx;exact SeqAt.EqAt.str_int a t' b t
  |str b=>obtain⟨t,rfl⟩:=rx;exact SeqAt.EqAt.str_str a t' b t
  |_=>exact absurd (show false=true from fx) cP
 |_=>exact absurd (show false=true from fy) cP
def vP(x:V)(u:Value):Bool:=match u with
 |.none=>vO .bR x
 |.bool b=>vO (.bl b) x
 |.int i _=>vO (.int i) x
 |.str z _=>vO (.str z) x
 |_=>false
theorem EN(r:bq y u)(f:g8 y=true):vP x u=vO y x:=by
 cases y with
 |bR=>cases r;rfl
 |bl b=>cases r;rfl
 |int i=>obtain⟨t,rfl⟩:=r;rfl
 |str z=>obtain⟨t,rfl⟩:=r;rfl
 |_=>exact absurd (show false=true from f) cP
theorem lf:∀ {xs:List V} {us:List Value},aY xs us->xs.all g8=true->us.any (vP x)=xs.any fun y=>vO y x
 |_,_,.nil,_=>rfl
 |y::xs,u::us,.cons r t,f=>by
  rw[ku,cX] at f;rw[kq,kq,EN r f.1,lf t f.2]
theorem i9(rx:bq x v)(fx:g8 x=true):∀ {xs:List V} {us:List Value},aY xs us->xs.all g8=true->∀u∈us,SeqAt.EqAt A s u v (vP x u)
 |_,_,.nil,_=>fun u hu=>by cases hu
 |y::xs,u::us,.cons r t,f=>fun u' hu=>by
  rw[ku,cX] at f;rcases bZ.mp hu with rfl|hu
  .rw[EN r f.1];exact EM r rx f.1 fx
  .exact i9 rx fx t f.2 u' hu
def CV(x:V)(xs:List V):Bool:=xs.any fun y=>vO y x
def Qz(K:PySem.W.Frag)(QA:Bool):R2:=fun x y H Q=>∃p xs,y=.ref p/\(aU K H p xs\/cK K H p xs)/\g8 x=true/\xs.all g8=true/\Q (.bl (if QA then !CV x xs else CV x xs)) H
theorem oK:m3 X (compareOp .In) (Qz X.K false):=by
 intro ae s σ H x y v u Q I rx ry h;obtain⟨p,xs,rfl,hq,fx,fs,q⟩:=h;cases ry;rcases hq with hq|hq
 .obtain⟨its,r,pl,hz⟩:=I.list hq;refine SeqAt.in_listAt (vP x) pl.isList (fun w hw=>i9 rx fx r fs w (by simpa using hw)) ⟨.bl _,H,I,rfl,?_⟩;rw[show its.toArray.any (vP x)=its.any (vP x) by simp,lf r fs];exact q
 .obtain⟨its,r,pl,hz⟩:=I.tuple hq;refine SeqAt.in_tupleAt (vP x) pl (fun w hw=>i9 rx fx r fs w (by simpa using hw)) ⟨.bl _,H,I,rfl,?_⟩;rw[show its.toArray.any (vP x)=its.any (vP x) by simp,lf r fs];exact q
theorem vQ:m3 X (compareOp .NotIn) (Qz X.K true):=by
 intro ae s σ H x y v u Q I rx ry h;obtain⟨p,xs,rfl,hq,fx,fs,q⟩:=h;cases ry;rcases hq with hq|hq
 .obtain⟨its,r,pl,hz⟩:=I.list hq;refine SeqAt.notIn_listAt (vP x) pl.isList (fun w hw=>i9 rx fx r fs w (by simpa using hw)) ⟨.bl _,H,I,rfl,?_⟩;rw[show its.toArray.any (vP x)=its.any (vP x) by simp,lf r fs];exact q
 .obtain⟨its,r,pl,hz⟩:=I.tuple hq;refine SeqAt.notIn_tupleAt (vP x) pl (fun w hw=>i9 rx fx r fs w (by simpa using hw)) ⟨.bl _,H,I,rfl,?_⟩;rw[show its.toArray.any (vP x)=its.any (vP x) by simp,lf r fs];exact q
theorem aE:fA X (.builtin "len") (fun xs H Q=>∃p ys,xs=[.ref p]/\(aU X.K H p ys\/cK X.K H p ys)/\Q (.int ys.length) H):=by
 intro ae s σ H xs us Q I r h;obtain⟨p,ys,rfl,hq,q⟩:=h;obtain⟨u,rfl,rx⟩:=rA r;cases rx;have hn:=vI;rcases hq with hq|hq
 .obtain⟨its,r',pl,hz⟩:=I.list hq;have eW:=r'.length;exact Calls.call_len_list pl.isList (by simp only[dj] <;> lia) ⟨.int ys.length,H,I.tok _,⟨s.toks+1,by rw[dj,eW]⟩,q⟩
 .obtain⟨its,r',pl,hz⟩:=I.tuple hq;have eW:=r'.length;exact len_tuple pl (by simp only[dj] <;> lia) ⟨.int ys.length,H,I.tok _,⟨s.toks+1,by rw[dj,eW]⟩,q⟩
theorem gm:fA X (.type "tuple") (fun xs H Q=>∃p ys,xs=[.ref p]/\((aU X.K H p ys/\∀l,H l=none->Q (.ref l) (upd H l (.tup ys)))\/(cK X.K H p ys/\Q (.ref p) H))):=by
 intro ae s σ H xs us Q I r h;obtain⟨p,ys,rfl,h⟩:=h;obtain⟨u,rfl,rx⟩:=rA r;cases rx;rcases h with ⟨hq,q⟩|⟨hq,q⟩
 .obtain⟨its,r',pl,hz⟩:=I.list hq;have eW:=r'.length;refine call_tuple_list pl.isList (fun h' kp=>?_) (by simp only[dj] <;> lia);have I1:aQ X ae σ H { s with heap:=h' }:=I.kept (t':=s.toks) kp;have I2:aQ X ae σ (upd H h'.objs.size (.tup ys)) { s with heap:=h'.push { cls:=.type "tuple",data:=.seq its.toArray } }:=
   I1.laid (t':=s.toks) (fun b o e=>cR _ e) (bf _) (show cp X.prog X.w _ _ _ (.tup ys) from ⟨hz,its,r',ow.new _ _⟩)
  exact⟨.ref h'.objs.size,_,I2,rfl,q _ (I1.bS.fresh (bf _))⟩
 .obtain⟨its,r',pl,hz⟩:=I.tuple hq;exact call_tuple_same pl ⟨.ref p,H,I,rfl,q⟩
def ZZ(K:PySem.W.Frag)(T:String)(x:V)(H:Hp):Prop:=match x with
 |.str _=>T="str"
 |.int _=>T="int"
 |.ref p=>(T="list"/\∃xs,aU K H p xs)\/(T="tuple"/\∃o,K.lookup p=some o/\o.cls=.type "tuple"/\o.dict=none)\/
   (T="dict"/\((∃kvs,H p=some (.dK kvs))\/∃kvs,H p=some (.dT kvs)))\/(T="set"/\∃S n,H p=some (.set S n))
 |_=>False
theorem MQ(I:aQ X ae σ H s)(r:bq x v)(ty:ZZ X.K T x H):
  s.TypeIs v T/\∀a,v=.ref a->∃ob,s.heap.get? a=some ob/\ob.dict=none:=by
 cases x with
 |str z=>
  obtain⟨t,rfl⟩:=r;cases (show T="str" from ty);exact⟨typeIs_str s z t,fun _ e=>nomatch e⟩
 |int i=>
  obtain⟨t,rfl⟩:=r;cases (show T="int" from ty);exact⟨typeIs_int s i t,fun _ e=>nomatch e⟩
 |ref p=>
  cases r;rcases ty with ⟨rfl,xs,hq⟩|⟨rfl,o,hk,hc,hd⟩|⟨rfl,hk⟩|⟨rfl,S,n,hk⟩
  .obtain⟨its,_,pl,_⟩:=I.list hq;refine⟨pl.isList.typeIs,fun a e=>?_⟩;cases e;obtain⟨o,n,e,c,hd,_⟩:=pl;exact⟨o,e,hd⟩
  .refine⟨⟨o,I.oC p o hk,hc⟩,fun a e=>?_⟩;cases e;exact⟨o,I.oC _ o hk,hd⟩
  .have z:∃o,s.heap.get? p=some o/\o.ExactDict:=by
    rcases hk with ⟨kvs,hk⟩|⟨kvs,hk⟩
    .obtain⟨_,_,_,_,o,_,_,e,ex,_⟩:=I.bS p _ hk;exact⟨o,e,ex⟩
    .obtain⟨_,_,_,_,o,_,_,e,ex,_⟩:=I.bS p _ hk;exact⟨o,e,ex⟩
   obtain⟨o,e,ex⟩:=z;refine⟨⟨o,e,ex.1⟩,fun a e2=>?_⟩;cases e2;exact⟨o,e,ex.2.1⟩
  .obtain⟨o,_,_,_,e,ex,_⟩:=I.bS p _ hk;refine⟨⟨o,e,ex.1⟩,fun a e2=>?_⟩;cases e2;exact⟨o,e,ex.2.1⟩
 |_=>exact False.elim ty
def tBM(K:PySem.W.Frag)(T:String)(r:V->List V->Hp->VK->Prop)(to:TE)(t:TA):TE:=fun σ H Q=>to σ H fun x H1=>ZZ K T x H1/\t σ H1 fun xs H2=>r x xs H2 Q
variable {o e:Expr} {es:List Expr} {to:TE} {t:TA} {name:Str} {vK vR:Pos} {T id:String} {r:V->List V->Hp->VK->Prop}
theorem im(pa:PlainAttrs T)(slot:Slot T name id)(hty:typeOf (.builtin id)=pure (.type "method_descriptor"))(hm:MtR X id r)(ho:PE X o to)(ha:PA X (e::es) t)(QB:attributeBase o name X.env (eval o X.env)=eval o X.env:=by rfl)(VU:((backTo vR (starEach (e::es) X.env)).all (fun x=>!x.1)&&(backToKw vR (keywordEach [] X.env)).all (fun x=>x.1.isSome)
   && decide ((e::es).length+([]:List Keyword).length+(if ([]:List Keyword).isEmpty then 0 else 1)<30))=true:=by rfl)(QC:(vK.endLine==vR.line)=true:=by rfl)(hs:starEach (e::es) X.env=(false,eval e X.env)::starEach es X.env:=by rfl)(Al:(backTo vR (starEach es X.env)).any (·.1)=false:=by rfl):
  PE X (.Call (.Attribute o name vK) (e::es) [] vR) (tBM X.K T r to t):=by
 intro ae s σ H Q I h;refine wpAny_Call_method_late QB VU QC rfl (cJ (ho ae s σ H _ I h) fun v s1 ⟨x,H1,I1,r1,ty,q1⟩=>?_);obtain⟨h1,h2⟩:=MQ I1 r1 ty;refine⟨T,id,pa,slot,hty,h1,h2,?_⟩;have hA:=ha vR ae s1 σ H1 _ I1 q1;rw[hs] at hA |-;refine Calls.callWith_builtin (by show (false||(backTo vR (starEach es X.env)).any (·.1))=false;rw[Al] <;> rfl) (Calls.evalArgs_plain ?_);exact cJ hA fun us s2 ⟨vs,H2,I2,r2,q2⟩=>hm ae s2 σ H2 x vs v us Q I2 r1 r2 q2
end
def Ur(X:Cx)(id:String)(r:V->List V->Hp->VK->Prop):Prop:=
 ∀ (ae:List (Addr×Obj)) (s:Shared) (σ:St) (H:Hp) (x:V) (xs:List V) (v:Value) (us:List Value) (Q:VK),aQ X ae σ H s->bq x v->aY xs us->r x xs H Q->
  wpAny (model X.prog X.w) X.A (call (.builtin id) (v::us)) (EP X ae σ Q) X.xe s
theorem aY.one{x:V}{us:List Value}(h:aY [x] us):∃u,us=[u]/\bq x u:=by
 cases h with
 |cons r h=>cases h;exact⟨_,rfl,r⟩
theorem aY.two{x y:V}{us:List Value}(h:aY [x,y] us):∃u v,us=[u,v]/\bq x u/\bq y v:=by
 cases h with
 |cons r h=>
  cases h with
  |cons q h=>cases h;exact⟨_,_,rfl,r,q⟩
theorem aY.rep(h:aY xs us):∀k:Nat,aY (List.replicate k xs).flatten (List.replicate k us).flatten
 |0=>.nil
 |k+1=>by
  rw[l5,l5,qR,qR];exact aY.append h (aY.rep h k)
theorem uc(its:List Value):∀ (k:Nat) (eA:List Value),
  List.foldl (fun x1 x2=>x1++x2) eA.toArray (List.replicate k its.toArray)=(eA++(List.replicate k its).flatten).toArray
 |0,eA=>by simp
 |k+1,eA=>by
  have e:eA.toArray++its.toArray=(eA++its).toArray:=by simp
  have e2:(eA++its)++(List.replicate k its).flatten=eA++(List.replicate (k+1) its).flatten:=by
   rw[l5,qR,jP]
  rw[<-e2,<-uc its k (eA++its),<-e,l5,jk]
section
variable {X:Cx} {ae:List (Addr×Obj)} {σ:St} {H:Hp} {s:Shared} {l b:Addr} {xs ys zs:List V}
theorem aQ.MR{its its':List Value}{n:Nat}{f:Array Value->Array Value}{t':Nat}(I:aQ X ae σ H s)(hH:H l=some (.lst xs))(e:s.heap.get? l=some { cls:=.type "list",data:=.seq its.toArray n })(hf:f its.toArray=its'.toArray)(hv:aY ys its')(hz:ys.length<=sizeLine):
  aQ X ae σ (upd H l (.lst ys)) { s with heap:=s.heap.update l (Obj.mapSeq f),toks:=t' }:=by
 have q:=PySem.IsL.update e f;rw[hf] at q;refine I.write (x:=l) (e:=l) (by rw[hH];exact trivial) (.inl rfl) (fun b' u hb hu=>(u8 s.heap (Obj.mapSeq f) (Ne.symm hb)).trans hu) ⟨_,q⟩ ?_;exact⟨hz,its',_,hv,q⟩
theorem aQ.QD(I:aQ X ae σ H s)(hv:aY ys its)(hz:ys.length<=sizeLine):
  aQ X ae σ (upd H s.heap.objs.size (.lst ys)) { s with heap:=s.heap.push { cls:=.type "list",data:=.seq its.toArray },toks:=t' }:=
 I.laid (fun _ _ q=>cR _ q) (bf _) ⟨hz,its,0,hv,dC _ rfl⟩
theorem aQ.fresh(I:aQ X ae σ H s):H s.heap.objs.size=none:=I.bS.fresh (bf _)
theorem aQ.xy(I:aQ X ae σ H s)(hH:H l=some (.lst xs)):xs.length<=sizeLine/\∃ (its:List Value) (n:Nat),aY xs its/\xs.length=its.length/\s.heap.get? l=some { cls:=.type "list",data:=.seq its.toArray n }:=by
 obtain⟨z,its,n,r,e⟩:=I.bS l _ hH;exact⟨z,its,n,r,r.length,e⟩
theorem xz(h:n<=sizeLine):Builtin.List.listTooLong n=false:=by
 unfold Builtin.List.listTooLong;exact dk (by lia)
end
section
variable {X:Cx}
def IC:V->List V->Hp->VK->Prop:=fun x vs H Q=>∃l xs y,x=.ref l/\vs=[y]/\H l=some (.lst xs)/\xs.length<sizeLine/\Q .bR (upd H l (.lst (xs++[y])))
theorem dg:Ur X "list.append" IC:=by
 intro ae s σ H x vs v us Q I rx rv h;obtain⟨l,xs,y,rfl,rfl,hH,hz,q⟩:=h;cases rx;obtain⟨u,rfl,ru⟩:=rv.one;obtain⟨z,its,n,r,hl,e⟩:=I.xy hH;refine mw F.slot_list_append ⟨_,e,rfl⟩ F.entry_list_append (F.args_list_append_2 _ _) (PySem.list_append l its.toArray n u (by rw[dj];lia)) ⟨e,?_⟩;refine⟨.bR,_,I.MR (its':=its++[u]) hH e (by simp) (r.append (.cons ru .nil)) ?_,rfl,q⟩;rw[cu,zq];lia
def ID:V->List V->Hp->VK->Prop:=fun x vs H Q=>∃l b xs zs,x=.ref l/\vs=[.ref b]/\H l=some (.lst xs)/\H b=some (.lst zs)/\xs.length+zs.length<=sizeLine/\Q .bR (upd H l (.lst (xs++zs)))
theorem ud:Ur X "list.extend" ID:=by
 intro ae s σ H x vs v us Q I rx rv h;obtain⟨l,b,xs,zs,rfl,rfl,hH,hB,hz,q⟩:=h;cases rx;obtain⟨u,rfl,ru⟩:=rv.one;cases ru;obtain⟨z,its,n,r,hl,e⟩:=I.xy hH;obtain⟨z2,IE,n2,r2,Us,e2⟩:=I.xy hB;have hsz:its.toArray.size+IE.toArray.size<=sizeLine:=by rw[dj,dj];lia
 have EO:¬ (!its.toArray.isEmpty&&Builtin.List.listTooLong (its.toArray.size+IE.toArray.size))=true:=by
  rw[xz hsz,vm];exact cP
 refine mw F.slot_list_extend ⟨_,e,rfl⟩ F.entry_list_extend (F.args_list_extend_2 _ _)
  (AutoSeq1.list_extend_list_list_0 l its.toArray n b IE.toArray n2 EO (by rw[dj];lia) (by lia)) ⟨e,e2,?_⟩
 refine⟨.bR,_,I.MR (its':=its++IE) hH e (by simp) (r.append r2) ?_,rfl,q⟩;rw[cu];lia
def VW:R2:=fun x y H Q=>∃l k xs,x=.ref l/\y=.int k/\H l=some (.lst xs)/\-(2 ^ 63)<=k/\k<2 ^ 63/\xs.length*k.toNat<=sizeLine/\
 ∀p,H p=none->Q (.ref p) (upd H p (.lst (List.replicate k.toNat xs).flatten))
theorem IF(xs:List α)(k:Nat):(List.replicate k xs).flatten.length=k*xs.length:=by
 induction k with
 |zero=>simp
 |succ k ih=>rw[l5,qR,cu,ih,Nat.succ_mul,Nat.add_comm]
theorem MS:m3 X (binaryOp .Mult) VW:=by
 intro ae s σ H x y v u Q I rx ry h;obtain⟨l,k,xs,rfl,rfl,hH,h1,h2,hz,q⟩:=h;cases rx;obtain⟨t,rfl⟩:=ry;obtain⟨z,its,n,r,hl,e⟩:=I.xy hH;have eW:its.toArray.size*k.toNat<=sizeLine:=by rw[dj,<-hl];exact hz
 have VX:¬ its.toArray.size*k.toNat > (2 ^ 63-1) / 8:=by
  have:(sizeLine:Nat)<=(2 ^ 63-1) / 8:=by decide
  lia
 have VY:¬ (!Builtin.List.listFitsIndex k)=true:=by
  rw[fitsIndex_both h1 h2];exact cP
 have EO:¬ Builtin.List.listTooLong (its.toArray.size*k.toNat)=true:=by
  rw[xz eW];exact cP
 have oM:List.foldl (fun x1 x2=>x1++x2) #[] (List.replicate (if its.toArray.isEmpty=true then 0 else k.toNat) its.toArray)=(List.replicate k.toNat its).flatten.toArray:=by
  have f0:∀m:Nat,List.foldl (fun x1 x2=>x1++x2) #[] (List.replicate m its.toArray)=(List.replicate m its).flatten.toArray:=fun m=>by
   have:=uc its m [];rw[List.nil_append] at this;exact this
  rw[f0];cases its with
  |nil=>simp
  |cons a r'=>rw[ap (by simp)]
 refine wpAny_binaryOp_repeat_ref (T:="list") (U:="int") (by decide) ⟨_,e,rfl⟩ (fun s'=>typeIs_int s' k t) noFill_list_mul F.fills_int_mul F.slot_int_rmul repeat_list F.slot_int_index.lookup
  (mw F.slot_int_rmul (typeIs_int s k t) F.entry_int_rmul (F.args_int_rmul_2 _ _) (int___rmul___int_list k t l its.toArray n)
   ⟨e,rfl,⟨_,e,rfl⟩,mw F.slot_list_mul ⟨_,e,rfl⟩ F.entry_list_mul (F.args_list_mul_2 _ _) (AutoListH.list___mul___list_int_3 l its.toArray n k t VY VX EO) ⟨e,?_⟩⟩)
 rw[oM];exact⟨.ref _,_,I.QD (t':=s.toks) (r.rep k.toNat) (by rw[IF,Nat.mul_comm];exact hz),rfl,q _ I.fresh⟩
end
section
variable {prog:Program} {w:World} {A:Around} {E:Value->Shared->Prop} {s:Shared}
end
section
variable {X:Cx}
end
end L2
namespace Z0
open PySem PySem.W PySem.Calls PyProof.Rows
theorem pX:∀ (ns:List Int) (vs:List Value),WellAll P h vs (ns.map WData.int)->IntsAre vs ns:=by
 intro ns;induction ns with
 |nil=>
  intro vs w;rw[ii] at w;cases w;exact .nil
 |cons n ns ih=>
  intro vs w;rw[cM] at w;cases w with
  |cons a b=>
   cases a;exact .cons _ _ (ih _ b)
theorem CW{l:OpenLaw}{n:Nat}(hn:l.most=some n){P:Params}{h:Heap}{args:List WData}{EQ:List Value}(IG:l.row.toRowW.claim.pre args=true)(VZ:WellAll P h EQ args):
  ∃a vs ns,EQ=[Value.ref a]/\args=[WData.list (ns.map WData.int)]/\h.get? a=some { cls:=.type "list",data:=.seq vs.toArray }/\IntsAre vs ns/\ns.length<=n:=by
 have hsh:WShape.hasAll [] args [.list .int]=true:=(pre_splitW IG).1;have hc:l.pre.holds [] { args:=args }=true:=(pre_splitW IG).2;obtain⟨d,r,rfl,h1,h2⟩:=hasAllW_cons hsh;obtain rfl:=hasAllW_nil h2;obtain⟨xs,rfl,h3⟩:=hasW_list h1;obtain⟨ns,rfl⟩:=items_int h3;have eW:ns.length<=n:=by
  unfold OpenLaw.pre at hc;have h4:(WTm.not (.lt (.lit (.int (n:Int))) (.len (.arg 0)))).holds [] { args:=[.list (ns.map .int)] }=true:=by
   have h4:=(holds_andW hc).1;rw[hn] at h4;exact h4
  have h5:=condW_of h4 (w_not (w_lt w_lit (w_len_list (w_arg rfl))));rw[aF] at h5;refine Nat.le_of_not_lt fun q=>?_;have q':(n:Int)<((ns.length:Nat):Int):=by lia
  first
   |(rw[bE q'] at h5;exact absurd h5 (by decide))
   |(simp at h5;lia)
 cases VZ with
 |cons w1 w2=>
  cases w2;cases w1 with
  |list ho tI=>exact⟨_,_,ns,rfl,rfl,ho,pX ns _ tI,eW⟩
theorem CY(l:OpenLaw)(args:List WData):l.row.toRowW.claim.post args (.bool true) args=true:=
 postW_of (r:=l.row.toRowW) (X:=(true==true))
  (show WShape.has [] (.bool true) .bool=true by first|rfl|decide|simp[WShape.has,WShape.arms,WShape.armsAll])
  (show (WTm.eq .res (.lit (.bool true))).value [] { args:=args,res:=some (.bool true),after:=args }=some (.bool (true==true)) from w_eq_bool (w_res rfl) w_lit) rfl
theorem xA{l:OpenLaw}{n:Nat}{q:Program}{ue:List Str}{XP:(Str->Option Value)->Heap->Prop}{YP:World->Heap->Prop}{d:DefRec}(hn:l.most=some n)(QE:d.params.defaults=[])(call:∀ (w:World) (s₀ s₁:Shared) (mg mb:Str->Option Value) (fa:Addr) (o:Obj) (pm cd m5:Value) (a:Addr) (vs:List Value) (ns:List Int),
   Ground q ue [] XP w s₀ mg mb s₁.heap->YP w s₁.heap->
   s₁.heap.get? fa=some o->o.data=.func (docDef d.name d.params d.body d.scope pm cd m5)->s₁.heap.CodeRec cd d.name->mg d.name=some (.ref fa)->
   s₁.heap.get? a=some { cls:=.type "list",data:=.seq vs.toArray }->IntsAre vs ns->ns.length<=n->s₁.gens=#[]->
   codeAny (model l.prog w) callerA (.call (.ref fa) ⟨[.ref a],[]⟩) (fun r s'=>r=.ok (.ret (.bool true))/\OldK s₁.heap s'.heap/\s'.os=s₁.os/\AllBare s'.gens) s₁):
  WalkO q ue XP YP l.row.toRowW d [] (fun f vs=>PySem.call f vs):=by
 intro w s₀ s₁ mg mb G Y fa o pm cd m5 dV kV ho hd tW hD QF hg args EQ as IG aad hrd VZ xB;obtain rfl:dV=.none:=Dflts.none hD QE;obtain rfl:kV=.none:=Dflts.noKw hD;obtain⟨a,vs,ns,rfl,rfl,MT,ER,eW⟩:=CW hn IG VZ;refine enter_call (mn (call w s₀ s₁ mg mb fa o pm cd m5 a vs ns G Y ho (fd_plain hd) tW QF MT ER eW hg) fun r s' hq=>?_);obtain⟨rfl,h2,h3,h4⟩:=hq;exact⟨.inl ⟨.bool true,.bool true,[],rfl,fun _=>rfl,.bool true,CY l _,fun _=>⟨List.Pairwise.nil,fun _ hm=>(nomatch hm)⟩⟩,h2,h3,h4⟩
section
variable {prog:Program} {w:World} {A:Around} {E:Value->Shared->Prop} {s:Shared} {K:Frag}
end
end Z0
namespace L2
open PySem PySem.Spec PyProof.Rows
theorem uf:∀ {vs:List Value} {ns:List Int},IntsAre vs ns->aY (ns.map V.int) vs
 |_,_,.nil=>.nil
 |_,_,.cons n t h=>.cons ⟨t,rfl⟩ (uf h)
def qt(s:Stmt)(j:Nat):Stmt:=match s with
 |.ClassDef _ _ _ body _ _ _ _ _ _ _=>body.getD j (.Pass ⟨0,0,0,0⟩)
 |_=>.Pass ⟨0,0,0,0⟩
def dt(s:Stmt):Arguments:=match s with
 |.FunctionDef _ a _ _ _ _ _ _ _ _=>a
 |_=>{ posonlyargs:=[],args:=[],vararg:=none,kwonlyargs:=[],kw_defaults:=[],kwarg:=none,defaults:=[] }
def cz(s:Stmt):List Stmt:=match s with
 |.FunctionDef _ _ b _ _ _ _ _ _ _=>b
 |_=>[]
def am(s:Stmt):Scope:=match s with
 |.FunctionDef _ _ _ _ _ _ sc _ _ _=>sc
 |_=>{ kind:=.function,names:=[],isGenerator:=false,isCoroutine:=false }
abbrev bi:xr:=fun _ _ _ _ _ _=>False
abbrev E0:XK:=fun _ _ _=>False
theorem aM:mC bi X E0:=fun _ _ _ _ _ _ _ h=>h.elim
structure fW(K:PySem.W.Frag)(x qual:Str)(st:Stmt)(f:Addr)(fd:FuncData):Prop where
 ex:∃ (oc:Value) (od:Option Addr) (kV m5 pm:Value) (an:Option Addr) (dE ct:Value) (yX:Array (Option Value)),
  fd=PySem.W.fnOf x qual (dt st) (cz st) (am st) .none kV m5 pm an dE ct/\K.lookup f=some ⟨oc,od,.func fd,yX⟩/\PySem.W.codeIn K dE qual=true
 kp:PySem.W.keepIn K (.ref f)=true
section
variable {P:Program} {w:World} {K:PySem.W.Frag} {mg:Str->Option Value} {base:Heap}
theorem fW.ok{x qual:Str}{st:Stmt}{f:Addr}{fd:FuncData}{N ps:List Str}{k:Nat}{sp:Sp}(F:fW K x qual st f fd)(S:aJ N ps (am st))(len:∀vs H Q E,sp vs H Q E->vs.length=ps.length)(xv:∀ (dE:Value) (A:Around) (outer:List Env) (s:Shared) (H:Hp) (vs:List V) (Q:VK) (E:XK),cD k (A.deeper (envOfC qual (am st) s.heap.objs.size f dE))->sp vs H Q E->
   ∃t,z8 (vL bi P w K mg base N qual (am st) f dE A outer s H E).Lb (cz st) t/\t { nx:=fun _ H'=>Q .bR H',rt:=Q } (start N vs) H):bC P w K mg base bi (k+1) f fd ps sp:=by
 obtain⟨oc,od,kV,m5,pm,an,dE,ct,yX,rfl,lk,tW⟩:=F.ex;refine Lf lk tW S len fun A outer s H vs Q E hr HE=>?_;obtain⟨t,h,q⟩:=xv dE A outer s H vs Q E hr HE;exact⟨t,h.Lb,q⟩
theorem fW.binds{x qual:Str}{st:Stmt}{f:Addr}{fd:FuncData}{ps:List Str}(F:fW K x qual st f fd)(h:∀ (kV m5 pm:Value) (an:Option Addr) (dE ct:Value) (us:List Value),us.length=ps.length->bindArgs (PySem.W.fnOf x qual (dt st) (cz st) (am st) .none kV m5 pm an dE ct) ⟨us,[]⟩=pure (ps.zip us)):kH K fd ps []:=by
 obtain⟨oc,od,kV,m5,pm,an,dE,ct,yX,rfl,lk,tW⟩:=F.ex;exact .all (h kV m5 pm an dE ct)
theorem vS{x qual:Str}{st:Stmt}{f:Addr}{oc:Value}{od an:Option Addr}{yX:Array (Option Value)}{kV m5 pm dE ct:Value}(l:K.lookup f=some ⟨oc,od,.func (PySem.W.fnOf x qual (dt st) (cz st) (am st) .none kV m5 pm an dE ct),yX⟩)(c:PySem.W.codeIn K dE qual=true)(k:PySem.W.keepIn K (.ref f)=true):fW K x qual st f (PySem.W.fnOf x qual (dt st) (cz st) (am st) .none kV m5 pm an dE ct):=⟨⟨oc,od,kV,m5,pm,an,dE,ct,yX,rfl,l,c⟩,k⟩
end
section
variable {X:Cx}
theorem pv(i:Nat)(hN:X.N[i]?=some x:=by rfl)(hv:Qb X.env.scope x:=by first|exact Or.inl rfl|exact Or.inr (Or.inl rfl)|exact Or.inr (Or.inr rfl))(hd:(x==("__debug__":Str))=false:=by decide)(tW:(x==("__classdict__":Str))=false:=by decide):PE X (.Name x pos) (aV i):=Mt hN hv hd tW
end
theorem lG{A B:Prop}(h:B):if false=true then A else B:=by
 rw[ap cP];exact h
theorem IH{A B:Prop}(h:A):if true=true then A else B:=by
 rw[aq rfl];exact h
theorem bW{c A B:Prop}[Decidable c](h1:c->A)(h2:¬ c->B):if c then A else B:=by
 by_cases h:c
 .rw[aq h];exact h1 h
 .rw[ap h];exact h2 h
def aI(H H':Hp):Prop:=∀b o,H b=some o->H' b=some o
theorem aI.refl(H:Hp):aI H H:=fun _ _ h=>h
theorem aI.trans(a:aI H H1)(b:aI H1 H2):aI H H2:=fun c o h=>b c o (a c o h)
theorem aI.free(e:aI H H')(h:H' l=Option.none):H l=Option.none:=by
 cases q:H l with
 |none=>rfl
 |some o=>
  rw[e l o q] at h;cases h
def Lg(src:List (Option Nat))(σ:St):St:=src.map fun o=>match o with|some j=>σ.getD j none|none=>none
theorem II{src:List (Option Nat)}{σ:St}{i:Nat}{v:V}(h:(Lg src σ)[i]?=some (some v)):∃j,src[i]?=some (some j)/\σ[j]?=some (some v):=by
 unfold Lg at h;rw[bp] at h;cases e:src[i]? with
 |none=>rw[e] at h;cases h
 |some o=>
  rw[e] at h;cases o with
  |none=>cases h
  |some j=>
   refine⟨j,rfl,?_⟩;have h':σ.getD j none=some v:=ba h;rw[bH] at h';cases e2:σ[j]? with
   |none=>rw[e2] at h';cases h'
   |some o=>rw[e2] at h';rw[show o=some v from h']
structure io(NB:List Str)(src:List (Option Nat))(scope:Scope)(X:Cx):Prop where
 kind:scope.kind=.function
 nd:NB.Nodup
 len:src.length=NB.length
 cells:∀y∈scope.names,y.2=.cell->scope.names.lookup y.1=some .cell
 names:∀y∈scope.names,y.2=.local->scope.names.lookup y.1=some .local
 free:∀y∈scope.names,y.2=.free->X.env.scope.names.lookup y.1=some .cell\/X.env.scope.names.lookup y.1=some .free
 src:∀ (i:Nat) (x:Str) (j:Nat),NB[i]?=some x->src[i]?=some (some j)->X.N[j]?=some x/\scope.names.lookup x=some .free
def vT(scope:Scope)(x:Str):Bool:=match scope.names.lookup x with
 |some .cell=>true
 |_=>false
theorem xC:vT scope x=true↔scope.names.lookup x=some .cell:=by
 unfold vT;split
 .rename_i h;exact⟨fun _=>h,fun _=>rfl⟩
 .rename_i h;exact⟨fun z=>(by cases z),fun z=>absurd z h⟩
def Bq(X:Cx)(NB:List Str)(scope:Scope)(cl:List (Str×Addr))(C:Addr)(s₃:Shared)(H₃:Hp)(fp:List Addr):Cx:=
 { X with N:=NB,s₀:=s₃,H₀:=H₃,env:=compEnvC scope cl C X.env,outer:=X.stack,stack:=X.stack,ex:=fp,fn:=vT scope,pn:=[],xe:=fun _ _=>False }
theorem mD:∀ (names:List (Str×NameKind)) (eA:List (Str×Addr)),(∀y∈names,y.2=NameKind.free->∃c,env.cells.lookup y.1=some c)->(∀x c,eA.lookup x=some c->env.cells.lookup x=some c)->
  ∃cl,(forIn names eA fun x r=>(if (x.2==NameKind.free)=true then (do let a <- cellOf env x.1;pure (ForInStep.yield ((x.1,a)::r))) else pure (ForInStep.yield r):Sem (ForInStep (List (Str×Addr)))))=(pure cl:Sem (List (Str×Addr)))/\
   (∀x c,cl.lookup x=some c->env.cells.lookup x=some c)/\(∀x c,eA.lookup x=some c->∃c',cl.lookup x=some c')/\∀x,(x,NameKind.free)∈names->∃c,cl.lookup x=some c
 |[],eA,_,ha=>⟨eA,by rw[List.forIn_nil],ha,fun x c h=>⟨c,h⟩,fun x h=>nomatch h⟩
 |(n,k)::r,eA,hf,ha=>by
  by_cases hk:k=NameKind.free
  .subst hk;obtain⟨c,hc⟩:=hf (n,NameKind.free) cA rfl;have V0:∀x c',((n,c)::eA).lookup x=some c'->env.cells.lookup x=some c':=fun x c' h=>by
    rw[fU] at h;cases hx:x==n with
    |true=>
     rw[hx] at h;cases h;have:x=n:=by simpa using hx
     rw[this];exact hc
    |false=>rw[hx] at h;exact ha x c' h
   obtain⟨cl,e1,e2,e3,e4⟩:=mD r ((n,c)::eA) (fun y hy=>hf y (cN _ hy)) V0;refine⟨cl,?_,e2,fun x c' h=>?_,fun x h=>?_⟩
   .rw[List.forIn_cons];have ec:cellOf env n=pure c:=by unfold cellOf;rw[hc]
    have e0:(if ((n,NameKind.free).2==NameKind.free)=true then (do let a <- cellOf env (n,NameKind.free).1;pure (ForInStep.yield (((n,NameKind.free).1,a)::eA))) else pure (ForInStep.yield eA):Sem (ForInStep (List (Str×Addr))))=pure (ForInStep.yield ((n,c)::eA)):=by
     rw[aq (show (NameKind.free==NameKind.free)=true by decide)];show cellOf env n >>= _=_;rw[ec];rfl
    rw[e0];exact e1
   .cases hx:x==n with
    |true=>exact e3 x c (by rw[fU,hx])
    |false=>exact e3 x c' (by rw[fU,hx];exact h)
   .rcases bZ.mp h with h|h
    .cases h;exact e3 n c (by rw[fU];simp)
    .exact e4 x h
  .obtain⟨cl,e1,e2,e3,e4⟩:=mD r eA (fun y hy=>hf y (cN _ hy)) ha;refine⟨cl,?_,e2,e3,fun x h=>?_⟩
   .rw[List.forIn_cons];have hb:(k==NameKind.free)=false:=by simpa using hk
    have e0:(if ((n,k).2==NameKind.free)=true then (do let a <- cellOf env (n,k).1;pure (ForInStep.yield (((n,k).1,a)::eA))) else pure (ForInStep.yield eA):Sem (ForInStep (List (Str×Addr))))=pure (ForInStep.yield eA):=by
     rw[ap (by show ¬ (k==NameKind.free)=true;rw[hb];decide)]
    rw[e0];exact e1
   .rcases bZ.mp h with h|h
    .cases h;exact absurd rfl hk
    .exact e4 x h
theorem mE(ok:X.Ok)(S:io NB src scope X):
  ∃cl,closureFor scope X.env=pure cl/\(∀x c,cl.lookup x=some c->X.env.cells.lookup x=some c)/\∀x,(x,NameKind.free)∈scope.names->∃c,cl.lookup x=some c:=by
 obtain⟨cl,e1,e2,_,e4⟩:=mD (env:=X.env) scope.names [] (fun y hy hk=>ok.has y.1 (S.free y hy hk)) (fun x c h=>nomatch h);refine⟨cl,?_,e2,e4⟩;unfold closureFor;simp only[bind_pure];exact e1
theorem vU(h:scope.names.lookup x=some .free):(relabel scope env).names.lookup x=some .cell\/(relabel scope env).names.lookup x=some .free:=by
 have go:∀names:List (Str×NameKind),names.lookup x=some .free->
   (names.map fun (n,k)=>if (k==NameKind.free&&env.scope.kind==.function&&env.kindOf n==some .cell) then (n,NameKind.cell) else (n,k)).lookup x=some .cell\/
   (names.map fun (n,k)=>if (k==NameKind.free&&env.scope.kind==.function&&env.kindOf n==some .cell) then (n,NameKind.cell) else (n,k)).lookup x=some .free:=by
  intro names;induction names with
  |nil=>intro h;simp at h
  |cons y r ih=>
   intro h;obtain⟨n,k⟩:=y;rw[fU] at h;rw[cM];cases hx:x==n with
   |true=>
    rw[hx] at h;cases h;by_cases hc:(NameKind.free==NameKind.free&&env.scope.kind==.function&&env.kindOf n==some .cell)=true
    .left;show List.lookup x ((if _ then _ else _)::_)=_;rw[aq hc,fU,hx]
    .right;show List.lookup x ((if _ then _ else _)::_)=_;rw[ap hc,fU,hx]
   |false=>
    rw[hx] at h;by_cases hc:(k==NameKind.free&&env.scope.kind==.function&&env.kindOf n==some .cell)=true
    .show List.lookup x ((if _ then _ else _)::_)=_\/List.lookup x ((if _ then _ else _)::_)=_;rw[aq hc,fU,hx];exact ih h
    .show List.lookup x ((if _ then _ else _)::_)=_\/List.lookup x ((if _ then _ else _)::_)=_;rw[ap hc,fU,hx];exact ih h
 exact go scope.names h
theorem m9(h:(relabel scope env).names.lookup x=some k)(hk:k=.cell\/k=.free):(x,NameKind.free)∈scope.names\/(x,NameKind.cell)∈scope.names:=by
 have m:=kd h;obtain⟨⟨n,k'⟩,hm,e⟩:=bO.mp m;by_cases q:(k'==NameKind.free&&env.scope.kind==.function&&env.kindOf n==some .cell)=true
 .have e':(n,NameKind.cell)=(x,k):=by simpa [q] using e
  have k1:k'=NameKind.free:=by
   simp only[cX,gZ] at q;exact q.1.1
  cases e';left;rw[<-k1];exact hm
 .have e':(n,k')=(x,k):=by simpa [q] using e
  cases e';rcases hk with z|z
  .subst z;exact .inr hm
  .subst z;exact .inl hm
theorem oN:∀ (names:List (Str×NameKind)) (h:Heap) (eA:List (Str×Addr)) (x:Str) (c:Addr),(cellsFrom h.objs.size names eA).lookup x=some c->eA.lookup x=some c\/(h.objs.size<=c/\(pushCells h names).IsCell c none)
 |[],_,_,_,_,e=>.inl e
 |(name,kind)::r,h,eA,x,c,e=>by
  unfold cellsFrom at e;unfold pushCells;split at e
  .rename_i hk;rw[aq hk];have hsz:(h.push { cls:=.type "cell",data:=.cell none }).objs.size=h.objs.size+1:=jp ..;rw[<-hsz] at e;rcases oN r _ _ x c e with z|⟨z1,z2⟩
   .rw[fU] at z;cases hx:x==name with
    |true=>
     rw[hx] at z;cases z;exact .inr ⟨bf _,_,pushCells_keeps r _ _ _ (dC _ rfl),rfl⟩
    |false=>rw[hx] at z;exact .inl z
   .exact .inr ⟨by lia,z2⟩
  .rename_i hk;rw[ap hk];exact oN r h eA x c e
theorem ug:∀ (names:List (Str×NameKind)) (n:Nat) (eA:List (Str×Addr)) (x:Str),(x,NameKind.cell)∈names->∃c,n<=c/\(cellsFrom n names eA).lookup x=some c:=by
 have up:∀ (names:List (Str×NameKind)) (n m:Nat) (eA:List (Str×Addr)) (x:Str) (c:Addr),eA.lookup x=some c->m<=c->m<=n->∃c',m<=c'/\(cellsFrom n names eA).lookup x=some c':=by
  intro names;induction names with
  |nil=>intro n m eA x c e h _;exact⟨c,h,e⟩
  |cons y r ih=>
   intro n m eA x c e h hm;obtain⟨name,kind⟩:=y;unfold cellsFrom;split
   .cases hx:x==name with
    |true=>exact ih (n+1) m _ x n (by rw[fU,hx]) hm (by lia)
    |false=>exact ih (n+1) m _ x c (by rw[fU,hx];exact e) h (by lia)
   .exact ih n m eA x c e h hm
 intro names;induction names with
 |nil=>intro n eA x h;cases h
 |cons y r ih=>
  intro n eA x h;obtain⟨name,kind⟩:=y;unfold cellsFrom;rcases bZ.mp h with z|z
  .cases z;rw[aq (by decide)];exact up r (n+1) n _ x n (by rw[fU];simp) (bf _) (by lia)
  .split
   .obtain⟨c,h1,h2⟩:=ih (n+1) ((name,n)::eA) x z;exact⟨c,by lia,h2⟩
   .exact ih n eA x z
theorem lj:∀ (names:List (Str×NameKind)) (n:Nat) (eA:List (Str×Addr)) (x:Str) (c:Addr),eA.lookup x=some c->(x,NameKind.cell)∉names->(cellsFrom n names eA).lookup x=some c
 |[],_,_,_,_,e,_=>e
 |(name,kind)::r,n,eA,x,c,e,h=>by
  have hr:(x,NameKind.cell)∉r:=fun z=>h (cN _ z);unfold cellsFrom;split
  .rename_i hk;have ji:(x==name)=false:=by
    cases hx:x==name with
    |false=>rfl
    |true=>
     have e1:x=name:=by simpa using hx
     have e2:kind=.cell:=by simpa using hk
     exact absurd (by rw[e1,e2];exact cA) h
   exact lj r (n+1) _ x c (by rw[fU,ji];exact e) hr
  .exact lj r n eA x c e hr
theorem oO:∀ (names:List (Str×NameKind)) (n:Nat) (eA:List (Str×Addr)),(∀x y c,eA.lookup x=some c->eA.lookup y=some c->x=y)->(∀x c,eA.lookup x=some c->c<n)->∀x y c,(cellsFrom n names eA).lookup x=some c->(cellsFrom n names eA).lookup y=some c->x=y
 |[],_,_,hi,_=>hi
 |(name,kind)::r,n,eA,hi,hl=>by
  unfold cellsFrom;split
  .refine oO r (n+1) _ (fun x y c h1 h2=>?_) (fun x c h=>?_)
   .rw[fU] at h1 h2;cases hx:x==name <;> cases hy:y==name <;> rw[hx] at h1 <;> rw[hy] at h2
    .exact hi x y c h1 h2
    .cases h2;exact absurd (hl x _ h1) (jU _)
    .cases h1;exact absurd (hl y _ h2) (jU _)
    .have e1:x=name:=by simpa using hx
     have e2:y=name:=by simpa using hy
     rw[e1,e2]
   .rw[fU] at h;cases hx:x==name <;> rw[hx] at h
    .exact fH (hl x c h)
    .cases h;exact kl _
  .exact oO r n eA hi hl
section
variable {X:Cx} {ae:List (Addr×Obj)} {σ:St} {H:Hp} {s:Shared} {NB:List Str} {src:List (Option Nat)} {scope:Scope} {cl:List (Str×Addr)} {fp:List Addr} {h₁:Heap} {t₁:Nat}
theorem IJ(I:aQ X ae σ H s)(S:io NB src scope X)(c1:∀x c,cl.lookup x=some c->X.env.cells.lookup x=some c)(c2:∀x,(x,NameKind.free)∈scope.names->∃c,cl.lookup x=some c)(hf:∀b∈fp,lF X ae H b)(MU:∀b∈fp,b<s.heap.objs.size){m:Str->Option Value}(hn:h₁.Ns s.heap.objs.size m)(hk:∀b o,s.heap.get? b=some o->h₁.get? b=some o)(oM:∀x c,(cellsFrom (s.heap.objs.size+1) scope.names cl).lookup x=some c->cl.lookup x=some c\/(s.heap.objs.size<c/\h₁.IsCell c none)):
  aQ (Bq X NB scope (cellsFrom (s.heap.objs.size+1) scope.names cl) s.heap.objs.size s H fp) [] (Lg src σ) H { s with heap:=h₁,toks:=t₁ }:=by
 have Pz:∀b∈CJ X.stack,b∈X.env.locals::X.fs:=I.rc;have rB:∀x c,cl.lookup x=some c->∃v,s.heap.IsCell c v:=fun x c e=>I.cell x c (c1 x c e);have V1:∀x c,cl.lookup x=some c->c<s.heap.objs.size:=fun x c e=>by obtain⟨v,o,ho,_⟩:=rB x c e;exact bn ho
 refine⟨⟨I.ok.mod,S.kind,I.ok.glob,I.ok.blt,bf _,oO _ _ _ (fun x y c e1 e2=>I.ok.inj x y c (c1 x c e1) (c1 y c e2)) (fun x c e=>fH (V1 x c e)),fun x hx=>?_,fun x c z e=>?_,I.ok.hd,I.ok.frames,.inl rfl,fun b hb=>⟨?_,fun x c e=>?_⟩,I.bs,bj I.ok.DS I.sz,fun b o e hb=>?_,fun b hb=>?_,I.stack,I.qk⟩,
  rfl,I.bare,Un.kept hk,⟨m,hn,fun i x v e1 e2 e3=>?_⟩,fun x c e=>?_,I.bS.fresh (bf _),fun x c e=>?_,fun p hp=>absurd (show p∈([]:List (Addr×Obj)) from hp) (by simp),I.bS.kept hk,?_⟩
 .have V2:(x,NameKind.free)∈scope.names\/(x,NameKind.cell)∈scope.names:=by
   rcases hx with hx|hx
   .exact m9 hx (.inl rfl)
   .exact m9 hx (.inr rfl)
  by_cases hc:(x,NameKind.cell)∈scope.names
  .obtain⟨c,_,e⟩:=ug scope.names (s.heap.objs.size+1) cl x hc;exact⟨c,e⟩
  .rcases V2 with z|z
   .obtain⟨c,e⟩:=c2 x z;exact⟨c,lj _ _ _ _ _ e hc⟩
   .exact absurd z hc
 .have hm:=kd (xC.mp z);obtain⟨c',h1,h2⟩:=ug scope.names (s.heap.objs.size+1) cl x hm;have e':(cellsFrom (s.heap.objs.size+1) scope.names cl).lookup x=some c:=e;rw[h2] at e';cases e';exact Nat.le_of_succ_le h1
 .exact bg (MU b hb)
 .rcases oM x c e with z|⟨z,_⟩
  .exact(hf b hb).2.2.2.2.1 x c (c1 x c z)
  .exact kA (q0 (MU b hb) z)
 .rcases(hf b hb).2.2.2.1 with z|z
  .exact I.ok.Ep b o e z
  .exact absurd (bT (bn e) (bj I.ok.DS z)) (jU _)
 .intro z;rcases bZ.mp (Pz b z) with e|e
  .exact(hf b hb).2.1 e
  .exact(hf b hb).2.2.1 e
 .obtain⟨j,hj,hv⟩:=II e2;obtain⟨hN,hF⟩:=S.src i x j e1 hj;obtain⟨m0,hn0,hl0⟩:=I.loc;have IK:=kd hF;have kx:=S.free _ IK rfl;have VF:Qb X.env.scope x:=by
   rcases kx with z|z
   .exact .inr (.inl z)
   .exact .inr (.inr z)
  obtain⟨u,r,l⟩:=hl0 j x v hN hv VF;refine⟨u,r,.inr ⟨vU hF,?_⟩⟩;obtain⟨c,hc⟩:=c2 x IK;have hnc:(x,NameKind.cell)∉scope.names:=fun z=>by
   have:=S.cells _ z rfl;rw[hF] at this;cases this
  refine⟨c,lj _ _ _ _ _ hc hnc,?_⟩;rcases l with ⟨hk',_⟩|⟨_,c',e,z⟩
  .have QG:X.env.scope.names.lookup x=some .local:=hk';rcases kx with z|z <;> (rw[z] at QG;cases QG)
  .rw[c1 x c hc] at e;cases e;obtain⟨o,ho,hd⟩:=z;exact⟨o,hk _ _ ho,hd⟩
 .rcases oM x c e with z|⟨_,z⟩
  .obtain⟨v,o,ho,hd⟩:=rB x c z;exact⟨v,o,hk _ _ ho,hd⟩
  .exact⟨none,z⟩
 .rcases oM x c e with z|⟨z,_⟩
  .exact I.kD x c (c1 x c z)
  .exact I.bS.fresh (eC z)
 .show (Lg src σ).length=NB.length;unfold Lg;rw[aF];exact S.len
theorem aQ.QH(I:aQ X ae σ H s)(J:aQ (Bq X NB scope cl C s H fp) [] σB H' s')(hf:∀b∈fp,lF X ae H b):aQ X ae σ H' s':=by
 refine I.K_ (ch:=fp) J.os J.base J.bS J.bare fun b hb=>?_;obtain⟨_,f1,_,f3,f4,f5⟩:=hf b hb;exact⟨f3,f1,f4,f5⟩
end
def PF(X:Cx)(Br:List Expr)(t:TT):Prop:=
 ∀ (ae:List (Addr×Obj)) (s:Shared) (σ:St) (H:Hp) (Q:Bool->Hp->Prop),aQ X ae σ H s->t σ H Q->
  wpAny (model X.prog X.w) X.A (forIn Br true fun c r=>if r=true then do let ok <- isTrue c X.env (eval c X.env);pure (ForInStep.yield ok) else pure (ForInStep.yield r)) (TP X ae σ Q) X.xe s
def V3:TT:=fun _ H Q=>Q true H
theorem eQ:PF X [] V3:=fun _ _ _ H _ I h=>wpAny_tests_nil ⟨H,I,h⟩
theorem eR(h:PT X c t):PF X [c] t:=fun ae s σ H Q I q=>wpAny_tests_one (h ae s σ H Q I q)
def iG(J:It)(g:TG)(tt:TT)(te:TE)(D:Addr)(fin:Hp->Prop)(σB:St)(H1:Hp):Prop:=
 ∃W:Nat->Nat->St->Hp->Prop,(∃m,W 0 m σB H1)/\∀i m σ H,W i m σ H->(J.stop i H/\fin H)\/(J.go i H/\∀x H',J.Lc i H x H'->g x σ H' fun σ2 H2=>tt σ2 H2 fun b H3=>
  if b=true then te σ2 H3 fun v H4=>∃ys,H4 D=some (.lst ys)/\ys.length<sizeLine/\∃m',m'<m/\W (i+1) m' σ2 (upd H4 D (.lst (ys++[v]))) else ∃m',m'<m/\W (i+1) m' σ2 H3)
def Am(G:Hp->Prop)(J:It)(g:TG)(tt:TT)(te:TE)(D:Addr)(fin:Hp->Prop)(σB:St)(H1:Hp):Prop:=
 ∃W:Nat->Nat->St->Hp->Prop,(∃m,W 0 m σB H1)/\∀i m σ H,W i m σ H->G H/\((J.stop i H/\fin H)\/(J.go i H/\∀x H',J.Lc i H x H'->g x σ H' fun σ2 H2=>tt σ2 H2 fun b H3=>
  if b=true then te σ2 H3 fun v H4=>∃ys,H4 D=some (.lst ys)/\ys.length<sizeLine/\∃m',m'<m/\W (i+1) m' σ2 (upd H4 D (.lst (ys++[v]))) else ∃m',m'<m/\W (i+1) m' σ2 H3))
theorem iG.g{J:It}{g:TG}{tt:TT}{te:TE}{D:Addr}{fin:Hp->Prop}{σB:St}{H1:Hp}(h:iG J g tt te D fin σB H1):Am (fun _=>True) J g tt te D fin σB H1:=let ⟨W,a,b⟩:=h;⟨W,a,fun i m σ H w=>⟨trivial,b i m σ H w⟩⟩
theorem CZ(hx:B.xe=fun _ _=>False)(hc:∀H,G H->B.calm=true\/J.Ul B.A H)(T:vD B.prog B.w B.K tg J fp it tn)(hg:PG B tg g)(ht:PF B Br tt)(he:PE B DT te)(I:aQ B [] σB H1 s)(st:tn 0 s.heap)(hf:∀b∈fp,lF B [] H1 b)(hw:Am G J g tt te D fin σB H1)(hR:∀σ' H' s',aQ B [] σ' H' s'->fin H'->R (.ok .next) s'):
  codeAny (model B.prog B.w) B.A (.compLoop (.ListComp DT [⟨tg,j5,Br,0⟩] scope pos) 0 (.ref it) (.ref D) B.env) R s:=by
 obtain⟨W,⟨m0,w0⟩,Ez⟩:=hw;have Ab:∀ {H':Hp},(∀b∈fp,H' b=none)->∀b∈fp,lF B [] H' b:=fun hn b hb=>⟨hn b hb,(hf b hb).2⟩
 refine codeAny_loop rfl (fun n s'=>∃i σ' H',aQ B [] σ' H' s'/\tn i s'.heap/\(∀b∈fp,H' b=none)/\W i n σ' H') ?_ m0 ⟨0,σB,H1,I,st,fun b hb=>(hf b hb).1,w0⟩;rintro n s3 ⟨i,σ3,H3,I3,vF,Mz,w3⟩;show wpAny _ B.A ((compTurn (.ListComp DT [⟨tg,j5,Br,0⟩] scope pos) 0 (.ref it) (.ref D) B.env).onRaise (fun x=>do noteFrame x B.env;theTreesLotGoes x)) _ _ s3;refine wpAny_noted ?_;rw[compTurn_list];have nx:∀ {α:Type} {t:Sem α} {Q:α->Shared->Prop} {E':Value->Shared->Prop} {s:Shared},wpAny (model B.prog B.w) B.A t Q B.xe s->wpAny (model B.prog B.w) B.A t Q E' s:=fun h=>
  iQ h (fun _ _ q=>q) fun _ _ z=>by rw[hx] at z;exact z.elim
 obtain⟨hG,QI⟩:=Ez i n σ3 H3 w3;rcases QI with ⟨stop,qn⟩|⟨go,step⟩
 .refine aN (q9 (aN (cJ (T.done B rfl rfl rfl i [] s3 σ3 H3 _ (hc _ hG) I3 (Ab Mz) vF stop) fun r s4 ⟨hr,I4⟩=>?_)));subst hr;exact wpAny_pure (hR σ3 H3 s4 I4 qn)
 .refine aN (q9 (aN (cJ (T.item B rfl rfl rfl i [] s3 σ3 H3 _ (hc _ hG) I3 (Ab Mz) vF go) fun r s4 ⟨u,hr,h4⟩=>?_)));subst hr;refine aN (cJ h4 fun _ s5 ⟨x,H5,I5,r5,y5,Bi,VJ⟩=>?_);have VL:=I5.pinned (Ab VJ) (T.obj _ _ Bi);refine aN (nx (cJ (hg _ s5 σ3 H5 x u _ VL r5 (step x H5 y5)) fun _ s6 ⟨σ6,H6,I6,q6⟩=>?_));have back:∀ {σ7:St} {H7:Hp} {s7:Shared} {m':Nat},aQ B ([]++rp fp s5.heap) σ7 H7 s7->m'<n->W (i+1) m' σ7 H7->∃m,m<n/\∃i σ' H',aQ B [] σ' H' s7/\tn i s7.heap/\(∀b∈fp,H' b=none)/\W i m σ' H':=fun {σ7 H7 s7 m'} I7 hm w7=>by
   refine⟨m',hm,i+1,σ7,H7,I7.mZ,T.keep _ _ _ Bi fun b hb o e=>(I7.pin (b,o) (iW _ (iW _ (jz hb e)))).1,fun b hb=>?_,w7⟩;obtain⟨o,e,d⟩:=T.obj _ _ Bi b hb;exact(I7.pin (b,o) (iW _ (iW _ (jz hb e)))).2.1
  refine aN (nx (cJ (ht _ s6 σ6 H6 _ I6 q6) fun ok s7 ⟨H7,I7,q7⟩=>?_));cases ok with
  |false=>
   rw[ap cP] at q7;obtain⟨m',hm,w7⟩:=q7;exact wpAny_pure ⟨rfl,back I7 hm w7⟩
  |true=>
   rw[aq rfl] at q7;refine aN (aN (nx (cJ (he _ s7 σ6 H7 _ I7 q7) fun v s8 ⟨y,H8,I8,r8,ys,hD,hl,m',hm,w8⟩=>?_)));refine aN (nx (cJ (dg _ s8 σ6 H8 (.ref D) [y] (.ref D) [v] (fun _ H9=>H9=upd H8 D (.lst (ys++[y]))) I8 rfl (.cons r8 .nil) ⟨D,ys,y,rfl,rfl,hD,hl,rfl⟩) fun _ s9 ⟨_,H9,I9,_,e9⟩=>?_));subst e9;exact wpAny_pure (wpAny_pure ⟨rfl,back I9 hm w8⟩)
theorem vV(hQ:Q { scope:=scope,locals:=s.heap.objs.size,globals:=globals,cells:=cellsFrom (s.heap.objs.size+1) scope.names cl,qual:=qual,func:=none,code:=outer.code,frame:=outer.frame,builtins:=outer.builtins }
   { s with heap:=pushCells (s.heap.push { cls:=.type "dict",data:=.dict #[] }) scope.names }):
  wpAny M A (newFunctionEnv scope globals cl [] qual none .none (some outer)) Q E s:=by
 simp only[newFunctionEnv,Option.isSome_some,jw];refine aN (wpAny_alloc ?_);refine aN (wpAny_layCells _ (fun name kind cells=>by cases hkc:kind==NameKind.cell <;> simp[hkc]) _ _ _ _ ?_);rw[show ({ s with heap:=s.heap.push { cls:=.type "dict",data:=.dict #[] } }:Shared).heap.objs.size=s.heap.objs.size+1 from jp ..];refine aN ?_;rw[List.forIn_nil];exact wpAny_pure (wpAny_pure hQ)
section
variable {X:Cx} {DT tg j5:Expr} {Br:List Expr} {scope:Scope} {pos:Pos} {wi:TI} {g:TG} {tt:TT} {te:TE} {NB:List Str} {src:List (Option Nat)}
def Li(src:List (Option Nat))(wi:TI)(g:TG)(tt:TT)(te:TE):TE:=fun σ H Q=>wi σ H fun J H1=>∀D,H1 D=none->iG J g tt te D (fun H'=>Q (.ref D) H') (Lg src σ) (upd H1 D (.lst []))
theorem rC{ae:List (Addr×Obj)}{σ:St}{H2:Hp}{s2:Shared}{J:It}{fp:List Addr}{it:Addr}{tn:Nat->Heap->Prop}{cl:List (Str×Addr)}{fin:Addr->Hp->Prop}{E':Value->Shared->Prop}{RR:Value->Addr->Result->Shared->Prop}{G:Hp->Prop}(S:io NB src scope X)(hc:∀H,G H->X.calm=true\/J.Ul X.A H)(c1:∀x c,cl.lookup x=some c->X.env.cells.lookup x=some c)(c2:∀x,(x,NameKind.free)∈scope.names->∃c,cl.lookup x=some c)(hg:∀cl C s₃ H₃ fp,PG (Bq X NB scope cl C s₃ H₃ fp) tg g)(ht:∀cl C s₃ H₃ fp,PF (Bq X NB scope cl C s₃ H₃ fp) Br tt)(he:∀cl C s₃ H₃ fp,PE (Bq X NB scope cl C s₃ H₃ fp) DT te)(I2:aQ X ae σ H2 s2)(T:vD X.prog X.w X.K tg J fp it tn)(i6:tn 0 s2.heap)(f2:∀b∈fp,lF X ae H2 b)(hw:∀D,H2 D=none->Am G J g tt te D (fin D) (Lg src σ) (upd H2 D (.lst [])))(hR:∀D C H' s',lF X ae H' C->aQ X ae σ H' s'->(∃m,s'.heap.Ns C m)->fin D H'->RR (.ref D) C (.ok .next) s'):
  wpAny (model X.prog X.w) X.A (newList []) (fun eA s₃=>wpAny (model X.prog X.w) X.A (newFunctionEnv scope X.env.globals cl [] X.env.qual none .none (some X.env)) (fun QJ s₄=>
   codeAny (model X.prog X.w) X.A (.compStart (.ListComp DT [⟨tg,j5,Br,0⟩] scope pos) 0 (.ref it) eA { QJ with scope:=relabel scope X.env }) (RR eA QJ.locals) s₄) E' s₃) E' s2:=by
 refine qW (vV ?_);have I3:=I2.QD (ys:=[]) (its:=[]) (t':=s2.toks) .nil (dG _);have hD:H2 s2.heap.objs.size=none:=I2.fresh;have fo:∀b∈fp,b<s2.heap.objs.size:=fun b hb=>by obtain⟨o,e,_⟩:=T.obj _ _ i6 b hb;exact bn e
 have up:∀ {b:Addr},b∈fp->upd H2 s2.heap.objs.size (.lst []) b=H2 b:=fun {b} hb=>ak (bg (fo b hb));have f3:∀b∈fp,lF X ae (upd H2 s2.heap.objs.size (.lst [])) b:=fun b hb=>⟨by rw[up hb];exact(f2 b hb).1,(f2 b hb).2⟩
 have hsz:(s2.heap.push { cls:=.type "list",data:=.seq ([]:List Value).toArray }).objs.size=s2.heap.objs.size+1:=by rw[jp]
 generalize hs3:({ s2 with heap:=s2.heap.push { cls:=.type "list",data:=.seq ([]:List Value).toArray } }:Shared)=s3 at I3 |-;have Z1:s3.heap=s2.heap.push { cls:=.type "list",data:=.seq ([]:List Value).toArray }:=by rw[<-hs3]
 have Z2:∀b∈fp,b<s3.heap.objs.size:=fun b hb=>by rw[Z1,hsz];exact fH (fo b hb)
 have QK:(s3.heap.push { cls:=.type "dict",data:=.dict #[] }).objs.size=s3.heap.objs.size+1:=jp ..;have oM:∀x c,(cellsFrom (s3.heap.objs.size+1) scope.names cl).lookup x=some c->cl.lookup x=some c\/(s3.heap.objs.size<c/\(pushCells (s3.heap.push { cls:=.type "dict",data:=.dict #[] }) scope.names).IsCell c none):=fun x c e=>by
  rw[<-QK] at e;rcases oN _ _ _ _ _ e with z|⟨z1,z2⟩
  .exact .inl z
  .exact .inr ⟨by rw[QK] at z1;exact z1,z2⟩
 have QL:=(Heap.Ns.new s3.heap (.type "dict")).keeps (pushCells_keeps scope.names _);have keep:∀b o,s3.heap.get? b=some o->(pushCells (s3.heap.push { cls:=.type "dict",data:=.dict #[] }) scope.names).get? b=some o:=fun b o e=>pushCells_keeps _ _ b o (cR _ e);generalize hh1:pushCells (s3.heap.push { cls:=.type "dict",data:=.dict #[] }) scope.names=h₁ at oM QL keep |-;have IB:aQ (Bq X NB scope (cellsFrom (s3.heap.objs.size+1) scope.names cl) s3.heap.objs.size s3 (upd H2 s2.heap.objs.size (.lst [])) fp) [] (Lg src σ) (upd H2 s2.heap.objs.size (.lst [])) { s3 with heap:=h₁,toks:=s3.toks }:=
  IJ I3 S c1 c2 f3 Z2 QL keep oM
 have Z3:tn 0 h₁:=T.keep 0 s2.heap h₁ i6 fun b hb o e=>keep b o (by rw[Z1];exact cR _ e);have fB:∀b∈fp,lF (Bq X NB scope (cellsFrom (s3.heap.objs.size+1) scope.names cl) s3.heap.objs.size s3 (upd H2 s2.heap.objs.size (.lst [])) fp) [] (upd H2 s2.heap.objs.size (.lst [])) b:=fun b hb=>by
  refine⟨(f3 b hb).1,bg (Z2 b hb),fun z=>?_,.inl hb,fun x c e=>(IB.ok.Vs b hb).2 x c e,fun p hp=>absurd (show p∈([]:List (Addr×Obj)) from hp) (by simp)⟩;rcases bZ.mp (I3.rc b z) with e|e
  .exact(f3 b hb).2.1 e
  .exact(f3 b hb).2.2.1 e
 have loop:codeAny (model X.prog X.w) X.A (.compLoop (.ListComp DT [⟨tg,j5,Br,0⟩] scope pos) 0 (.ref it) (.ref s2.heap.objs.size) (compEnvC scope (cellsFrom (s3.heap.objs.size+1) scope.names cl) s3.heap.objs.size X.env)) (RR (.ref s2.heap.objs.size) s3.heap.objs.size)
   { s3 with heap:=h₁,toks:=s3.toks }:=by
  refine CZ (B:=Bq X NB scope (cellsFrom (s3.heap.objs.size+1) scope.names cl) s3.heap.objs.size s3 (upd H2 s2.heap.objs.size (.lst [])) fp) rfl hc T (hg _ _ _ _ _) (ht _ _ _ _ _) (he _ _ _ _ _) IB Z3 fB (hw _ hD) fun σ' H' s' J' q=>?_;obtain⟨m,hm,_⟩:=J'.loc;exact hR _ _ H' s' (I3.xk (bf _) J'.free) (I3.QH J' f3) ⟨m,hm⟩ q
 exact codeAny_compStart_list loop (T.self _ 0 _ _ _ Z3 loop)
theorem cm(S:io NB src scope X)(hc:X.calm=true)(hi:PI X tg j5 wi)(hg:∀cl C s₃ H₃ fp,PG (Bq X NB scope cl C s₃ H₃ fp) tg g)(ht:∀cl C s₃ H₃ fp,PF (Bq X NB scope cl C s₃ H₃ fp) Br tt)(he:∀cl C s₃ H₃ fp,PE (Bq X NB scope cl C s₃ H₃ fp) DT te)(hs:∀x,foldedSetIterable j5 X.env x=pure x:=by intro _;rfl):PE X (.ListComp DT [⟨tg,j5,Br,0⟩] scope pos) (Li src wi g tt te):=by
 intro ae s σ H Q I h;obtain⟨cl,Lj,c1,c2⟩:=mE I.ok S;rw[eval_ListComp];refine wpAny_comprehension_free (use:=none) (cl:=cl) rfl hs Lj S.kind S.names (cJ (hi ae s σ H _ I h) fun v s1 h1=>cJ h1 fun Um s2 h2=>?_);obtain⟨it,fp,tn,J,H2,e,I2,T,i6,f2,hw⟩:=h2;subst e;refine rC (RR:=fun eA C=>compPost (model X.prog X.w) X.A X.xe none (EP X ae σ Q) eA C) S (G:=fun _=>True) (fun _ _=>.inl hc) c1 c2 hg ht he I2 T i6 f2 (fun D hD=>(hw D hD).g) fun D C H' s' fC I' hm q=>?_;obtain⟨m,hm⟩:=hm;refine⟨m,hm,fun h' sb=>⟨.ref D,H',?_,rfl,q⟩⟩;obtain⟨g0,g1,_,g3,g4,g5⟩:=fC;exact I'.turned (t':=s'.toks) (fun b o hb e=>(sb.2 b hb).trans e) g0 g1 g3 g4 g5
theorem gc{i:Nat}{y:Str}{py QM:Pos}(S:io NB src scope X)(hc:X.calm=true)(hi:PI X tg j5 wi)(hg:∀cl C s₃ H₃ fp,PG (Bq X NB scope cl C s₃ H₃ fp) tg g)(ht:∀cl C s₃ H₃ fp,PF (Bq X NB scope cl C s₃ H₃ fp) Br tt)(he:∀cl C s₃ H₃ fp,PE (Bq X NB scope cl C s₃ H₃ fp) DT te)(hN:X.N.Nodup)(hix:X.N[i]?=some y)(hy:X.env.scope.names.lookup y=some .local)(hsw:swapsWith (.ListComp DT [⟨tg,j5,Br,0⟩] scope pos) (some (.Name y py)) QM.line X.env=pure true)(hs:∀x,foldedSetIterable j5 X.env x=pure x:=by intro _;rfl):
  PS X (.Assign [.Name y py] (.ListComp DT [⟨tg,j5,Br,0⟩] scope pos) QM) (CK (Li src wi g tt te) (bo i)):=by
 intro ae s σ H D0 I h;obtain⟨cl,Lj,c1,c2⟩:=mE I.ok S;rw[exec_Assign_Name_used _ _ _ _ hsw];refine aN (q9 (aN ?_));show wpAny _ X.A (do let _ <- comprehension (.ListComp DT [⟨tg,j5,Br,0⟩] scope pos) scope X.env _ (newList []) false (eval j5 X.env) (some (assign (.Name y py) X.env))) _ _ s;refine aN (iQ (wpAny_comprehension_free (use:=some (assign (.Name y py) X.env)) (Q:=fun _ s'=>SP X ae D0 .next s') (cl:=cl) rfl hs Lj S.kind S.names
  (cJ (hi ae s σ H _ I h) fun v s1 h1=>cJ h1 fun Um s2 h2=>?_)) (fun _ s' hq=>wpAny_pure (wpAny_pure hq)) fun _ _ e=>e)
 obtain⟨it,fp,tn,J,H2,e,I2,T,i6,f2,hw⟩:=h2;subst e;refine rC (RR:=fun eA C=>compPost (model X.prog X.w) X.A X.xe (some (assign (.Name y py) X.env)) (fun _ s'=>SP X ae D0 .next s') eA C) S (G:=fun _=>True) (fun _ _=>.inl hc) c1 c2 hg ht he I2 T i6 f2 (fun D hD=>(hw D hD).g) fun D C H' s' fC I' hm q=>?_;obtain⟨m,hm⟩:=hm;obtain⟨g0,g1,_,g3,g4,g5⟩:=fC;show wpAny _ X.A (assign (.Name y py) X.env (.ref D)) _ _ _;refine wpAny_assign_Name (tV I' hN hix (.inl hy) (v:=.ref D) rfl (fun Qv I'' sb=>?_) (.inr hy));obtain⟨a,sb,ha⟩:=sb;have ji:C≠a:=by
  rcases ha with z|z
  .rw[z];exact g1
  .exact fun z'=>g4 y a z z'.symm
 refine⟨m,hm.sameBut sb ji,fun h' sb'=>⟨_,H',I''.turned (t':=Qv.toks) (fun b o hb e=>(sb'.2 b hb).trans e) g0 g1 g3 g4 g5,q⟩⟩
end
section
variable {P:Program} {w:World} {K:PySem.W.Frag} {mg:Str->Option Value} {base:Heap} {N:List Str} {qual:Str} {scope:Scope} {f:Addr} {cd:Value} {A:Around} {outer:List Env} {s:Shared} {H:Hp} {E:XK}
end
open PySem PySem.Spec PyProof.Rows PySem.W
abbrev bmV:List Value:=[.type "ValueError",.type "Exception",.type "BaseException",.type "object"]
structure C0(K:PySem.W.Frag)(C:Addr):Prop where
 ex:PySem.W.excIn K C bmV "ValueError.__new__"=true
 kp:PySem.W.keepIn K (.ref C)=true
 ga:PySem.W.findIn K (.ref C) "__getattribute__"=some (some (.builtin "BaseException.__getattribute__"))
 gt:PySem.W.findIn K (.ref C) "__getattr__"=some none
 cl:PySem.W.findIn K (.ref C) "__class__"=some (some (.builtin "object.__class__"))
 mo:PySem.W.mroIn K C (.type "object")=some true
 mb:PySem.W.mroIn K C (.type "BaseException")=some true
 ty:(PySem.W.clsIn K C).isSome=true
def V4(p:Addr)(C:Value)(h:Heap):Prop:=∃o,h.get? p=some o/\o.cls=C/\∃vs,o.data=.fields vs/\vs[2]?=some .none
abbrev V5(p:Addr)(C:Value):HO:=.ext (V4 p C)
theorem cp.get(x:cp P w H h a o):∃u,h.get? a=some u:=by
 cases o with
 |lst xs=>obtain⟨_,_,_,_,e⟩:=x;exact⟨_,e⟩
 |tup xs=>obtain⟨_,_,_,ob,e,_⟩:=x;exact⟨_,e⟩
 |dK kvs=>obtain⟨_,_,_,_,o,_,_,e,_⟩:=x;exact⟨_,e⟩
 |dT kvs=>obtain⟨_,_,_,_,o,_,_,e,_⟩:=x;exact⟨_,e⟩
 |set S n=>obtain⟨o,_,_,_,e,_⟩:=x;exact⟨_,e⟩
 |ins C dx fs=>obtain⟨_,_,_,e,_⟩:=x;exact⟨_,e⟩
 |own y=>exact x
 |xd fs=>obtain⟨_,⟨_,_,_,e,_⟩,_⟩:=x;exact⟨_,e⟩
 |Ii lo hi=>obtain⟨_,_,_,e⟩:=x;exact⟨_,e⟩
 |jh ob u=>obtain⟨e,_⟩:=x;exact⟨_,e⟩
 |oq ps=>exact⟨_,(show h.get? a=some _ from x)⟩
 |met f y=>exact⟨_,(show h.get? a=some _ from x)⟩
 |ext φ=>exact x.2.1
theorem jx.vW(x:jx P w H h)(e:h.get? a=none):H a=none:=by
 cases q:H a with
 |none=>rfl
 |some u=>obtain⟨o,z⟩:=(x a u q).get;rw[e] at z;cases z
theorem aQ.Bs(I:aQ X ae σ H s)(k:∀b u,s.heap.get? b=some u->h'.get? b=some u)(hp:s.heap.get? a=none)(new:cp X.prog X.w (upd H a o) h' a o):
  aQ X ae σ (upd H a o) { s with heap:=h',toks:=t' }:=by
 have hn:=I.bS.vW hp;have ne:∀b u,s.heap.get? b=some u->b≠a:=fun b u e z=>by rw[z,hp] at e;cases e
 refine I.un ⟨fun b u e _ _ _=>k b u e,fun b u e _ _ _=>⟨u.slots,k b u e⟩,fun b u e n _=>by rw[ak (ne b u e)];exact n,fun b u e _=>⟨u,k b u e⟩,fun b xs e=>by rw[ak (ai e hn)];exact e,fun b u v e=>by rw[ak (ai e hn)];exact e,fun b ps e=>⟨#[],by rw[ak (ai e hn),e];simp⟩⟩ fun b u e=>?_;by_cases hb:b=a
 .subst hb;rw[af] at e;cases e;exact new
 .rw[ak hb] at e;exact(I.bS b u e).pT (fun c v _ q=>k c v q) (fun c q=>by rw[ak (ai q hn)];exact q) fun c xs q=>by rw[ak (ai q hn)];exact q
section
variable {prog:Program} {w:World} {A:Around} {E:Value->Shared->Prop} {s:Shared} {K:PySem.W.Frag} {x C:Addr} {ox:Obj}
theorem Bt(hx:h.get? x=some ox)(hc:ox.cls=.ref C):PySem.W.Looks M h (typeOf (.ref x)) (.ref C):=hc ▸ (PySem.W.Looks.ld hx).andThen .now
open Builtin Builtin.ObjectAttr Builtin.Getset_descriptor in
theorem An(X:K.In s.heap)(hx:s.heap.get? x=some ox)(hc:ox.cls=.ref C)(hm:PySem.W.mroIn K C (.type "object")=some true)(h:R (.ok (.ret (.ref C))) s):codeAny (model prog w) A (.call (.builtin "getset_descriptor.__get__") ⟨[.builtin "object.__class__",.ref x,tp],[]⟩) R s:=by
 obtain⟨hh,g,dr,t,os⟩:=s;have L0:=Bt (M:=model prog w) hx hc;have L1:=looks_mroIn (M:=model prog w) X hm;refine zM KF.slot_gs.plain KF.entry_gs (KF.slot_gs.check _ _ _ _ _ _ _ _ KF.type_class (KF.args_gs _ _ _) ?_);unfold Builtin.«getset_descriptor.__get__» descrGet;rw[dga_obj];refine aN (wpAny_pure ?_);unfold descrGetter descrCheckInstance descrNameAndClass isInstance;simp only[KF.owner_class];repeat lk
 refine⟨Code.quiet_builtin _ (by decide +kernel),mh KF.entry_class ?_⟩;unfold Builtin.«object.__class__» shownTypeOf;repeat lk
 exact h
theorem C1{g d t os}(T:C0 K C)(X:K.In h)(hx:h.get? x=some ox)(hc:ox.cls=.ref C)(hq:Q (.done (.ret (.ref C))) ⟨h,g,d,t,os⟩):
  wpAny (model prog w) A (Builtin.«object.__getattribute__» ⟨[.ref x,.str "__class__" tk],[]⟩) Q E ⟨h,g,d,t,os⟩:=by
 have f5:=F.typeOf_bexc_args;have hT5:(⟨h,g,d,t,os⟩:Shared).TypeIs (.builtin "object.__class__") "getset_descriptor":=Ed;have f5':=Ed;have f6:=F.slot_gs_get.lookup;have f7:=F.slot_gs_set.lookup;have L1:=looks_findIn (M:=model prog w) X T.cl;repeat (any_goals (first|assumption|(with_reducible refine zZ hx ?_;rw[hc])|with_reducible refine L1.at ?_|wp_step))
 refine An (s:=⟨h,g,d,t,os⟩) X hx hc T.mo ?_;repeat (any_goals (first|assumption|wp_step))
theorem C2{g d t os}(T:C0 K C)(X:K.In h)(hx:h.get? x=some ox)(hc:ox.cls=.ref C)(hq:Q () ⟨h,g,d,t,os⟩):
  wpAny M A (checkBuiltinCall "BaseException.__getattribute__" ⟨[.ref x,QN],[]⟩) Q E ⟨h,g,d,t,os⟩:=by
 have hk:builtinKind "BaseException.__getattribute__"=some .slot:=by decide +kernel
 have MV:splitId "BaseException.__getattribute__"=some ("BaseException","__getattribute__"):=by decide +kernel
 have ha:=F.args_bexc_ga (.ref x) QN;have L1:=looks_mroIn (M:=M) X T.mb;simp only[checkBuiltinCall,hk,MV];refine aN ?_
 .unfold isInstance;repeat (first|(with_reducible refine zZ hx ?_;rw[hc])|with_reducible refine L1.at ?_|wp_step)
  exact hq
theorem MW{tk:Tok}{fill Ip:Bool}{Q:Value->Shared->Prop}{h:Heap}{g d t os}(T:C0 K C)(X:K.In h)(hx:h.get? x=some ox)(hc:ox.cls=.ref C)(hq:Q (.ref C) ⟨h,g,d,t,os⟩):
  wpAny (model prog w) A (getAttrBy (.ref x) (.str "__class__" tk) fill Ip) Q E ⟨h,g,d,t,os⟩:=by
 have f3:=F.attr_ValueError.ga.bind (.ref x);have hx0:(Ip&&onTheHeap (Value.builtin "BaseException.__getattribute__"))=false:=by cases Ip <;> rfl
 have Lk:(Value.builtin "BaseException.__getattribute__"==Value.builtin "object.__getattribute__")=false:=by decide +kernel
 have hx1:(onTheHeap (Value.ref C)&&Value.builtin "BaseException.__getattribute__"==Value.builtin "object.__getattribute__")=false:=by rw[Lk];rfl
 have L1:=looks_findIn (M:=model prog w) X T.ga;have L2:=looks_findIn (M:=model prog w) X T.gt;repeat (any_goals (first|assumption|(with_reducible refine zZ hx ?_;rw[hc])|with_reducible refine L1.at ?_|with_reducible refine L2.at ?_|wp_step))
 refine zM F.attr_ValueError.ga.plain F.entry_bexc_ga (C2 T X hx hc (C1 T X hx hc ?_));repeat (any_goals (first|assumption|wp_step))
theorem ES{Q:Option Value->Shared->Prop}{h:Heap}{g d t os}(T:C0 K C)(X:K.In h)(hx:h.get? x=some ox)(hc:ox.cls=.ref C)(hq:Q (some (.ref C)) ⟨h,g,d,t+1,os⟩):
  wpAny (model prog w) A (getAttr? (.ref x) "__class__") Q E ⟨h,g,d,t,os⟩:=by
 unfold getAttr?;repeat (any_goals (first|assumption|with_reducible apply MW T X hx hc|wp_step))
theorem ET(T:C0 K C):PySem.W.KitX K (.ref x) (.ref C) (V4 x (.ref C)) where
 ty:=fun _ _ _ ⟨o,e,c,_⟩=>Bt e c
 it:=fun _ _ X _=>by
  obtain⟨cdD,Ir⟩:=nY.mp T.ty;unfold clsIn at Ir;split at Ir
  .rename_i c' d' cd' Vv ho;intro A' Q' E' s' k q;unfold isType loadHead;exact aN (wpAny_loadPart (k _ _ (X _ _ ho)) (wpAny_pure q))
  .cases Ir
 ne:=fun h tp dd its n sl X htp=>by
  obtain⟨cdD,Ir⟩:=nY.mp T.ty;refine qS.mpr fun q=>?_;have e:C=tp:=Value.ref.inj (gZ.mp q);subst e;unfold clsIn at Ir;split at Ir
  .rename_i c' d' cd' Vv ho;have z:=(X _ _ ho).symm.trans htp;cases z
  .cases Ir
 ca:=fun {_ _ _ _ _ s} X ⟨o,e,c,_⟩ k=>by
  obtain⟨h,g,d,t,os⟩:=s;exact ES T X e c k
end
section
variable {X:Cx}
inductive QO (K:PySem.W.Frag) (H:Hp):V->Value->Prop where
 |of {v:V} {t:Value} (h:oJ K H v t):QO K H v t
 |exc {p C:Addr} (T:C0 K C) (e:H p=some (V5 p (.ref C))):QO K H (.ref p) (.ref C)
def MX(K:PySem.W.Frag):List V->Hp->VK->Prop:=fun xs H Q=>∃x c cv t b,xs=[x,c]/\(c=.ty cv/\PySem.W.kitOne K t (.type cv)=some b)/\QO K H x t/\Q (.bl b) H
theorem eX:fA X (.builtin "isinstance") (MX X.K):=by
 intro ae s σ H xs us Q I r h;obtain⟨x,c,cv,t,b,rfl,⟨rfl,e⟩,ty,q⟩:=h;obtain⟨u1,u2,rfl,r1,r2⟩:=r.two;obtain rfl:u2=Value.type cv:=r2;cases ty with
 |of ty=>exact CP I r1 ty e fun tk=>⟨.bl b,H,I.tok tk,rfl,q⟩
 |@exc p C T ea=>
  obtain rfl:u1=Value.ref p:=r1;have p1:V4 p (.ref C) s.heap:=(I.bS p _ ea).1;exact jS (ET T) I.oC p1 e (fun z=>nomatch z) fun tk=>⟨.bl b,H,I.tok tk,rfl,q⟩
end
section
variable {X:Cx} {x:Str} {C:Addr} {np vR pos:Pos} {e:Expr} {es:List Expr} {t:TA}
end
section
variable {X:Cx} {CX:xr} {k:Nat} {f C:Addr} {fd:FuncData} {ps:List Str} {sp:Sp} {sX:List V} {ds:List Value} {E:St->XK} {x m:Str} {p pos vK:Pos} {e o:Expr} {es:List Expr} {ta:TE} {t:TA}
end
section
variable {X:Cx} {CX:xr} {k:Nat} {f:Addr} {fd:FuncData} {ps:List Str} {sp:Sp} {sX:List V} {ds:List Value} {E:XK} {x:Str} {p pos:Pos} {e:Expr} {es:List Expr} {t:TA}
end
section
variable {P:Program} {w:World} {K:PySem.W.Frag} {mg:Str->Option Value} {base:Heap}
end
section
variable {X:Cx} {ae:List (Addr×Obj)} {σ:St} {H:Hp} {s:Shared}
end
section
variable {X:Cx} {CX:xr} {k:Nat} {f:Addr} {fd:FuncData} {ps:List Str} {sp:Sp} {sX:List V} {ds:List Value} {E:XK} {x:Str} {p pos:Pos} {e:Expr} {es:List Expr} {t:TA}
end
section
variable {P:Program} {w:World} {K:PySem.W.Frag} {mg:Str->Option Value} {base:Heap}
end
theorem IM{h:Heap}{a:Addr}{m m':Str->Option Value}(x:h.Ns a m)(y:h.Ns a m'):m=m':=by
 obtain⟨o,es,ep,e,d,_,q⟩:=x;obtain⟨o',w9,Ms,e',d',_,q'⟩:=y;rw[e] at e';cases e';rw[d] at d';cases d';funext z;rw[<-q z,q' z]
theorem aQ.QP{X:Cx}{ae:List (Addr×Obj)}{σ:St}{H:Hp}{s:Shared}{h':Heap}{m:Str->Option Value}{D:Addr}{o:HO}{t':Nat}(I:aQ X ae σ H s)(F:Fr X.base X.env.locals s.heap m)(F':Fr X.base X.env.locals h' m)(N':News X.base X.env.locals h' (jy X.base s.heap X.env.locals))(hD:s.heap.get? D=none)(new:cp X.prog X.w (upd H D o) h' D o):aQ X ae σ (upd H D o) { s with heap:=h',toks:=t' }:=by
 have hn:=I.bS.vW hD;have ne:∀b u,s.heap.get? b=some u->b≠D:=fun b u e z=>by rw[z,hD] at e;cases e
 have keep:∀b u,b≠X.env.locals->s.heap.get? b=some u->h'.get? b=some u:=fun b u hb e=>by
  cases q:X.base.get? b with
  |some v=>
   have:=I.bk b v q;rw[e] at this;cases this;exact F'.keep b _ q
  |none=>exact(N' (b,u) (kC hb q e)).1
 refine I.step (g':=s.gens) (d':=s.drawn) (ch:=[]) (fun _ z=>absurd z (by simp)) (fun b u hb _ _ e _=>keep b u hb e) (fun b u hb _ _ e _=>⟨u.slots,keep b u hb e⟩) (fun b u _ e n=>by rw[ak (ne b u e)];exact n) (fun b u _ e=>?_)
  (fun b xs e=>by rw[ak (ai e hn)];exact e) (fun b u v e=>by rw[ak (ai e hn)];exact e) (fun b ps e=>⟨#[],by rw[ak (ai e hn),e];simp⟩) (fun m1 hm=>by rw[IM hm F.ns];exact F'.ns) (fun b u e=>?_) I.bare
 .by_cases hb:b=X.env.locals
  .obtain⟨o',_,_,q,_⟩:=F'.ns;exact⟨o',by rw[hb];exact q⟩
  .exact⟨u,keep b u hb e⟩
 .by_cases hb:b=D
  .subst hb;rw[af] at e;cases e;exact new
  .rw[ak hb] at e;refine(I.bS b u e).pT (fun c v hc q=>keep c v ?_ q) (fun c q=>by rw[ak (ai q hn)];exact q) fun c xs q=>by rw[ak (ai q hn)];exact q
   rintro rfl;rcases hc with z|hc
   .have f:=I.free;rw[z,e] at f;cases f
   .rw[I.free] at hc;cases hc
theorem tJ(I:aQ X ae σ H s)(N:News X.base X.env.locals h' ((D,o)::jy X.base s.heap X.env.locals))(dL:∀q∈jy X.base s.heap X.env.locals,q.1<D):s.heap.get? D=none:=by
 cases e:s.heap.get? D with
 |none=>rfl
 |some u=>
  obtain⟨_,n1,n2⟩:=N (D,o) cA;exact absurd (dL (D,u) (kC n1 n2 e)) (jU _)
def EU(K:PySem.W.Frag)(H:Hp)(a:Addr)(y:Int×Int):Prop:=cK K H a [.int y.1,.int y.2]
section
variable {X:Cx}
theorem Ao(I:aQ X ae σ H s)(h:EU X.K H a y):∃o n t u,s.heap.get? a=some o/\o.cls=.type "tuple"/\o.data=.seq #[.int y.1 t,.int y.2 u] n:=by
 obtain⟨its,r,p,_⟩:=I.tuple h;obtain⟨u1,u2,rfl,r1,r2⟩:=r.two;obtain⟨t,rfl⟩:=r1;obtain⟨t',rfl⟩:=r2;obtain⟨o,e,c,n,d⟩:=p;exact⟨o,n,t,t',e,c,d⟩
end
def MY(hs:Array Int)(i:Nat):Int:=(hs[i]?).getD 0
def gp(hs:Array Int)(t:SetTable)(h:Int):Option (Array Int×SetTable):=
 if t.gaveWay then none else
 match t.probe (MY hs) h (t.probeStart h) with
 |some (.empty j none)=>
  let q:=t.put j
  let Ll:=SetTable.insertAt hs q.2 h
  if q.1.fits Ll.size&&decide (Ll.size<=4096) then
   if q.1.tooFull then
    (match q.1.relaid Ll (SetTable.grown (hs.size+1)) with
    |some (t2,jX)=>
     let rm:=jX.filterMap (Ll[·]?)
     if rm.size==Ll.size&&t2.fits rm.size&&decide (SetTable.sizeAbove (SetTable.grown (hs.size+1))<=4096) then some (rm,t2) else none
    |none=>none)
   else some (Ll,q.1)
  else none
 |_=>none
def vX(led:Bool):List Int->Option (Array Int×SetTable):=fun l=>l.foldlM (fun q h=>gp q.1 q.2 h) (#[],SetTable.fresh 0 0 led)
def kK(h:Heap)(S:Addr)(hs:Array Int)(t:SetTable):Prop:=∃o es ep,h.get? S=some o/\o.cls=.type "set"/\(o.dict=none/\o.slots=#[])/\o.data=.set es ep t/\es.map (·.1)=hs/\t.fits es.size=true
section
variable {prog:Program} {w:World} {A:Around} {E:Value->Shared->Prop} {s:Shared} {S:Addr}
theorem MZ(es:Array (Int×Value)):(fun i=>(es[i]?.map (·.1)).getD 0)=MY (es.map (·.1)):=by
 funext i;unfold MY;rw[Array.getElem?_map]
theorem m_(es:Array (Int×Value))(p:Nat)(x:Int×Value):(SetTable.insertAt es p x).map (·.1)=SetTable.insertAt (es.map (·.1)) p x.1:=by
 unfold SetTable.insertAt;simp
theorem oP(es:Array (Int×Value))(jX:Array Nat):(jX.filterMap (es[·]?)).map (·.1)=jX.filterMap ((es.map (·.1))[·]?):=by
 apply Array.ext';rw[qU,u0,u0,List.map_filterMap];congr 1;funext i;rw[Array.getElem?_map]
theorem Ap(hS:kK s.heap S hs t)(hg:t.gaveWay=false)(hp:t.probe (MY hs) h (t.probeStart h)=some (.empty j none))(q:Q (.free j false) s):
  wpAny (model prog w) A (setSearch S x h true) Q E s:=by
 obtain⟨o,es,ep,ho,hc,Z4,hd,hm,hf⟩:=hS;unfold setSearch setSearchFrom;refine aN (vh ho hd hf ?_);dsimp only;rw[hg,ap cP];have HF:t.probe (fun i=>(es[i]?.map (·.1)).getD 0) h (t.probeStart h)=some (.empty j none):=by rw[MZ,hm];exact hp
 refine aN (wpAny_pure ?_);erw[HF];exact wpAny_pure q
theorem C3(ho:s.heap.get? a=some o)(hc:o.cls=.type "tuple")(hd:o.data=.seq #[.int x t,.int y u] n)(q:Q true s):
  wpAny (model prog w) A (hashByValue 8 (.ref a)) Q E s:=by
 have hT:s.TypeIs (.ref a) "tuple":=⟨_,ho,hc⟩
 unfold hashByValue;refine aN (wpAny_specialOf hT PySem.F.slot_tuple_hash.lookup ?_);refine aN (vt ho hd ?_);refine aN ?_;show wpAny _ _ (forIn #[Value.int x t,Value.int y u] _ _) _ _ s;rw[<-Array.forIn_toList];refine wpAny_forIn_list _ (fun pV r s'=>r.1=none/\s'=s/\∀v∈pV,∃z k,v=Value.int z k) _ ?_ ?_ _ _ ⟨rfl,rfl,fun v hv=>?_⟩
 .rintro v pV r s' ⟨hr,rfl,tI⟩;obtain⟨z,k,rfl⟩:=tI v cA;refine aN (wpAny_pure ?_);exact wpAny_pure ⟨rfl,rfl,fun u' xD=>tI u' (cN _ xD)⟩
 .rintro⟨r1,r2⟩ s' ⟨hr,rfl,_⟩;have vY:r1=none:=hr;subst vY;exact wpAny_pure q
 .rcases bZ.mp hv with z|z
  .exact⟨_,_,z⟩
  .rcases bZ.mp z with z|z
   .exact⟨_,_,z⟩
   .cases z
theorem Bu(hS:kK s.heap S hs t)(hf:t'.fits w9.size=true)(hz:w9.size<=4096)(q:∀h',Heap.SameBut S s.heap h'->kK h' S (w9.map (·.1)) t'->Q () { s with heap:=h' }):wpAny (model prog w) A (storeSet S w9 t') Q E s:=by
 obtain⟨o,es,ep,ho,hc,Z4,hd,hm,_⟩:=hS;refine wpAny_storeSet_of ho hd (q _ (Heap.SameBut.update s.heap S (Obj.putSet w9 t')) ?_) (bj hz (by decide));have g:=vd (Obj.putSet w9 t') ho (by rw[putSet_of w9 t' hd];rfl);rw[putSet_of w9 t' hd] at g;exact⟨_,w9,ep+1,g,hc,Z4,rfl,rfl,hf⟩
theorem IP(hu:A.units<cLine)(hS:kK s.heap S hs t)(ho:s.heap.get? a=some o)(hc:o.cls=.type "tuple")(hd:o.data=.seq #[.int x tx,.int y ty] n)(ji:a≠S)(oE:gp hs t (tupleKeyHash (intKind prog w) [x,y])=some (hs',t'))(q:∀h' tk,Heap.SameBut S s.heap h'->kK h' S hs' t'->Q true { s with heap:=h',toks:=tk }):wpAny (model prog w) A (setAdd S (.ref a)) Q E s:=by
 have hk:IsTupleKey (intKind prog w) s.heap [x,y] a:=⟨o,_,n,ho,hc,hd,.cons (intKind_is _ _ _ _) (.cons (intKind_is _ _ _ _) .nil)⟩
 unfold setAdd;refine ig (aN (wpAny_pyHash_tuple hu hk ?_));generalize VQ:s.toks+([x,y].length+1)=tk;generalize hh:tupleKeyHash (intKind prog w) [x,y]=h at oE |-;have Z5:=hS;obtain⟨ob,es,ep,hb,V6,hbd,HB,hm,hf⟩:=hS;unfold setAddHashed setAddHashedIn;refine ig (aN (vh (s:={ s with toks:=tk }) hb HB hf ?_));dsimp only;have PJ:byScan (.ref a) es=false:=by unfold byScan;rfl
 rw[PJ,ap cP];unfold gp at oE;cases hg:t.gaveWay with
 |true=>rw[hg,aq rfl] at oE;cases oE
 |false=>
  rw[hg,ap cP] at oE;split at oE
  .rename_i j hp;dsimp only at oE;split at oE
   .rename_i Ut;rw[cX,l7] at Ut;refine aN (Ap (s:={ s with toks:=tk }) Z5 hg hp ?_);dsimp only;refine aN (vh (s:={ s with toks:=tk }) hb HB hf ?_);dsimp only;have byv:∀ {kk:Bool->Sem Bool},wpAny (model prog w) A (kk true) Q E { s with toks:=tk }->wpAny (model prog w) A (if (t.put j).1.plain=true then hashByValue 8 (.ref a) >>= kk else pure true >>= kk) Q E { s with toks:=tk }:=fun {kk} hP=>by
     split
     .exact aN (C3 (s:={ s with toks:=tk }) ho hc hd hP)
     .exact aN (wpAny_pure hP)
    refine byv ?_;simp only[jw];have hsz:(SetTable.insertAt es (t.put j).2 (h,Value.ref a)).size=(SetTable.insertAt hs (t.put j).2 h).size:=by
     rw[<-hm,<-m_ es (t.put j).2 (h,Value.ref a),jo]
    refine aN (Bu (s:={ s with toks:=tk }) Z5 (by rw[hsz];exact Ut.1) (by rw[hsz];exact Ut.2) fun h1 Bv S1=>?_);rw[m_,hm] at S1;split at oE
    .rename_i V7;rw[show (!false&&(t.put j).1.tooFull)=true by rw[V7];rfl,aq rfl];split at oE
     .rename_i t2 jX hr;split at oE
      .rename_i hq;rw[cX,cX,l7,gZ] at hq;obtain⟨⟨Lm,Uu⟩,Z6⟩:=hq;cases oE;have hes:es.size=hs.size:=by rw[<-hm,jo]
       refine aN ?_;unfold setRelay;obtain⟨o1,IQ,ep1,g1,g2,g3,g4,g5,g6⟩:=id S1;refine aN (vh (s:={ s with heap:=h1,toks:=tk }) g1 g4 g6 ?_);dsimp only;rw[hes];rw[ap (by (have h4:(4096:Nat)<=sizeLine:=by decide);lia)];refine aN ?_;rw[g5,hr];have Aq:(jX.filterMap (IQ[·]?)).size=IQ.size:=by
        have e1:=congrArg Array.size (oP IQ jX);rw[jo,g5] at e1;rw[e1,Lm,<-g5,jo]
       refine wpAny_of_eq (show _=(pure (jX.filterMap (IQ[·]?),t'):Sem (Array (Int×Value)×SetTable)) from ?_) ?_
       .show (do
         let w9:=jX.filterMap (IQ[·]?)
         if w9.size != IQ.size then unsupported "internal:set-table-lost-an-element"
         pure (w9,t'):Sem (Array (Int×Value)×SetTable))=_
        simp[Aq]
       dsimp only;have V8:IQ.size<=4096:=by
        have e1:=congrArg Array.size g5;rw[jo] at e1;rw[e1];exact Ut.2
       have hfm:(jX.filterMap (IQ[·]?)).size=(jX.filterMap ((SetTable.insertAt hs (t.put j).2 h)[·]?)).size:=by
        have e1:=congrArg Array.size (oP IQ jX);rw[jo,g5] at e1;exact e1
       refine Bu (s:={ s with heap:=h1,toks:=tk }) S1 (by rw[hfm];exact Uu) (by rw[Aq];exact V8) fun h2 EV S2=>?_;rw[oP,g5] at S2;exact wpAny_pure (q h2 tk (Bv.trans EV) S2)
      .cases oE
     .cases oE
    .rename_i V7;cases oE;have V9:(t.put j).1.tooFull=false:=by simpa using V7
     rw[show (!false&&(t.put j).1.tooFull)=false by rw[V9];rfl,ap cP];exact wpAny_pure (q h1 tk Bv S1)
   .cases oE
  .cases oE
end
section
variable {prog:Program} {w:World} {A:Around} {E:Value->Shared->Prop} {s:Shared} {S Ia l:Addr} {R:Result->Shared->Prop}
def jC(h:Heap)(vs:List Value)(ys:List (Int×Int)):Prop:=vs.length=ys.length/\∀i v,vs[i]?=some v->∃a o n t u,v=.ref a/\h.get? a=some o/\o.cls=.type "tuple"/\o.data=.seq #[.int (ys.getD i (0,0)).1 t,.int (ys.getD i (0,0)).2 u] n
theorem jC.keeps(p:jC h vs ys)(k:∀b o,(∃xs n,o.data=.seq xs n)->h.get? b=some o->h'.get? b=some o):jC h' vs ys:=
 ⟨p.1,fun i v e=>let ⟨a,o,n,t,u,e1,e2,c,d⟩:=p.2 i v e;⟨a,o,n,t,u,e1,k a o ⟨_,_,d⟩ e2,c,d⟩⟩
def fL(prog:Program)(w:World)(y:Int×Int):Int:=tupleKeyHash (intKind prog w) [y.1,y.2]
theorem EW(hh:A.handled=none)(hu:A.units+1<cLine)(hlS:l≠S)(V_:l≠Ia)(Wa:S≠Ia):
  ∀ (k i:Nat) (s:Shared) (hs:Array Int) (t:SetTable),vs.length-i=k->i<=vs.length->s.heap.IsListIter Ia l i->s.heap.IsList l vs.toArray->jC s.heap vs ys->kK s.heap S hs t->
   ((ys.drop i).map (fL prog w)).foldlM (fun q h=>gp q.1 q.2 h) (hs,t)=some (hsN,tN)->
   (∀h' tk,(∀b o,b≠S->b≠Ia->s.heap.get? b=some o->h'.get? b=some o)->kK h' S hsN tN->R (.ok (.ret .none)) { s with heap:=h',toks:=tk })->
   codeAny (model prog w) A (.builtin "set.update.loop" ⟨[.ref S,.ref Ia],[]⟩) R s:=by
 intro k;induction k with
 |zero=>
  intro i s hs t hk hi sW hl hp hS hf hR;have e:i=vs.length:=by lia
  refine mh D9 ?_;rw[qO y8 _];show wpAny _ A.in1 (pyNext (.ref Ia) >>= _) _ _ s;refine aN (zH (show A.in1.handled=none from hh) sW hl (by simp;lia) fun h' eb=>?_);show wpAny _ A.in1 (ret Value.none) _ _ _;have hd:ys.drop i=[]:=by rw[List.drop_eq_nil_iff];have:=hp.1;lia
  rw[hd] at hf;cases hf;obtain⟨o,es,ep,q1,q2⟩:=hS;exact wpAny_pure (hR h' s.toks (fun b o hb IR e=>eb b o IR e) ⟨o,es,ep,eb S o Wa q1,q2⟩)
 |succ k ih=>
  intro i s hs t hk hi sW hl hp hS hf hR;have dL:i<vs.length:=by lia
  refine mh D9 ?_;rw[qO y8 _];show wpAny _ A.in1 (pyNext (.ref Ia) >>= _) _ _ s;have hv:vs[i]?=some vs[i]:=b9 dL;refine aN (zA sW hl (x:=vs[i]) (by simpa using hv) fun h1 M0 Bv=>?_);obtain⟨a,o,n,tx,ty,ea,eo,ec,ed⟩:=hp.2 i _ hv;rw[ea];have QQ:∀b ob,(∃xs n,ob.data=.seq xs n)->s.heap.get? b=some ob->b≠Ia:=fun b ob ⟨xs,m,z⟩ e z'=>by
   obtain⟨oi,e1,_,d1⟩:=sW;rw[z',e1] at e;cases e;rw[d1] at z;cases z
  have Wb:jC h1 vs ys:=hp.keeps fun b ob hb e=>(Bv.2 b (QQ b ob hb e)).trans e;have Z7:kK h1 S hs t:=by
   obtain⟨oS,es,ep,q1,q2⟩:=hS;exact⟨oS,es,ep,(Bv.2 S Wa).trans q1,q2⟩
  have IT:h1.IsList l vs.toArray:=by
   obtain⟨ol,q1,q2⟩:=hl;exact⟨ol,(Bv.2 l V_).trans q1,q2⟩
  have QR:h1.get? a=some o:=(Bv.2 a (QQ a o ⟨_,_,ed⟩ eo)).trans eo;have Z8:∀b ob,(∃xs n,ob.data=.seq xs n)->h1.get? b=some ob->b≠S:=fun b ob ⟨xs,m,z⟩ e z'=>by
   obtain⟨oS,es,ep,q1,_,_,q4,_⟩:=Z7;rw[z',q1] at e;cases e;rw[q4] at z;cases z
  have C4:i<ys.length:=by have:=hp.1;lia
  have Wc:ys.drop i=ys[i]::ys.drop (i+1):=uV C4;have hgy:ys.getD i (0,0)=ys[i]:=by rw[bH,b9 C4];rfl
  rw[Wc,cM,List.foldlM_cons] at hf;cases oE:gp hs t (fL prog w ys[i]) with
  |none=>rw[oE] at hf;cases hf
  |some q=>
   obtain⟨rm,t2⟩:=q;rw[oE] at hf;have Z9:((ys.drop (i+1)).map (fL prog w)).foldlM (fun q h=>gp q.1 q.2 h) (rm,t2)=some (hsN,tN):=hf;show wpAny _ A.in1 (holding [Value.ref a] (setAdd S (.ref a)) >>= _) _ _ _;refine aN (ig (IP (s:={ s with heap:=h1 }) (by show A.units+1<cLine;exact hu) Z7 QR ec ed (Z8 a o ⟨_,_,ed⟩ QR) (hs':=rm) (t':=t2) (by rw[hgy];exact oE) fun h2 tk EV S2=>?_));refine wpAny_pure ⟨plainId_quiet y8 _,?_⟩;refine ih (i+1) { s with heap:=h2,toks:=tk } rm t2 (by lia) dL ?_ ?_ (Wb.keeps fun b ob hb e=>(EV.2 b (Z8 b ob hb e)).trans e) S2 Z9 fun h3 Wd k3 S3=>?_
   .obtain⟨oi,q1,q2⟩:=M0;exact⟨oi,(EV.2 Ia (Ne.symm Wa)).trans q1,q2⟩
   .obtain⟨ol,q1,q2⟩:=IT;exact⟨ol,(EV.2 l hlS).trans q1,q2⟩
   .exact hR h3 Wd (fun b ob hb IR e=>k3 b ob hb IR ((EV.2 b hb).trans ((Bv.2 b IR).trans e))) S3
theorem EX{vs:List Value}{ys:List (Int×Int)}{hsN:Bool->Array Int}{tN:Bool->SetTable}{Q:Value->Shared->Prop}(hh:A.handled=none)(hu:A.units+8<cLine)(hl:s.heap.IsList l vs.toArray)(hp:jC s.heap vs ys)(C5:∀led,vX led (ys.map (fL prog w))=some (hsN led,tN led))(h:∀ (led:Bool) (h':Heap) (tk:Nat),kK h' s.heap.objs.size (hsN led) (tN led)->(∀b o,b<s.heap.objs.size->s.heap.get? b=some o->h'.get? b=some o)->Q (.ref s.heap.objs.size) { s with heap:=h',toks:=tk }):
  wpAny (model prog w) A (call (.type "set") [.ref l]) Q E s:=by
 obtain⟨c,tl,aae⟩:=km.mro;have c1:=km.made;have c2:=km.sub;refine oh (codeAny_of_tree ?_);show wpAny _ _ (callAny (.type "set") _) _ _ _;refine wpAny_pure ⟨Code.quiet_builtin _ (by decide +kernel),mh PySem.F.entry_type_call ?_⟩;rw[Around.under_plain (weight_type_call_type "set" [.ref l] []) rfl];have c3:=km.notType;have c4:=km.canCreate;have c5:=PySem.F.typeCall_set_1 (.ref l);repeat (any_goals (first|assumption|wp_step))
 refine mn (code_set_new_1 (.ref l) (E:=E) (Q₁:=fun obj s₁=>∃led:Bool,obj=.ref s.heap.objs.size/\s₁={ s with heap:=s.heap.push { cls:=.type "set",dict:=none,data:=.set #[] 0 (.fresh 0 0 led) } }) fun led=>⟨led,rfl,rfl⟩) fun r s₁ hr=>?_;cases r with
 |error e=>exact hr
 |ok fl=>
  cases fl with
  |next=>exact hr.elim
  |brk=>exact hr.elim
  |cont=>exact hr.elim
  |ret obj=>
   obtain⟨led,rfl,rfl⟩:=hr;generalize We:s.heap.push { cls:=.type "set",dict:=none,data:=.set #[] 0 (.fresh 0 0 led) }=hS;have hsz:hS.objs.size=s.heap.objs.size+1:=by rw[<-We,jp]
   have gS:hS.get? s.heap.objs.size=some { cls:=.type "set",dict:=none,data:=.set #[] 0 (.fresh 0 0 led) }:=by rw[<-We];exact dC _ rfl
   have up:∀b o,s.heap.get? b=some o->hS.get? b=some o:=fun b o e=>by rw[<-We];exact cR _ e
   have hT:Shared.TypeIs { s with heap:=hS } (.ref s.heap.objs.size) "set":=⟨_,gS,rfl⟩
   have c6:=km.init.lookup;have c7:=km.init.bind (.ref s.heap.objs.size);repeat (any_goals (first|assumption|wp_step))
   refine mn (zM (R:=wants (fun r s₂=>r=.none/\∃h' tk,s₂={ s with heap:=h',toks:=tk }/\kK h' s.heap.objs.size (hsN led) (tN led)/\
     (∀b o,b<s.heap.objs.size->s.heap.get? b=some o->h'.get? b=some o)) E) km.init.plain PySem.F.entry_set_init (check_set_init_1 hT ?_)) fun r₂ s₂ QS=>?_
   .obtain⟨ol,Ln,Lj,nl,C6⟩:=hl;obtain⟨aaf,Z_,aaa,Wf⟩:=ol;simp only at Lj C6;subst Lj;subst C6;have Wg:=up _ _ Ln;have c8:=PySem.F.sub_list_set;have c9:=PySem.F.sub_list_frozenset;have c10:(Value.type "list"==Value.type "dict")=false:=by decide
    have IT:hS.IsList l vs.toArray:=⟨_,Wg,rfl,nl,rfl⟩
    unfold Builtin.«set.__init__» noKeywords Builtin.Frozenset.updateFrom;generalize hPI:pyIter=PI
    wp_walk
    subst hPI;refine qV IT ?_;refine aN (wpAny_runValue ?_);have dL:l<s.heap.objs.size:=bn Ln;refine EW (l:=l) (vs:=vs) (ys:=ys) (hsN:=hsN led) (tN:=tN led) (by simp[hh]) (by simp;lia) (bg dL) (by rw[hsz];exact bg (fH dL)) (by rw[hsz];exact bg (kl _))
     (vs.length-0) 0 _ #[] (.fresh 0 0 led) rfl (dG _) ⟨_,dC _ rfl,rfl,rfl⟩ (IT.push _) (hp.keeps fun b o _ e=>cR _ (up b o e)) ⟨_,#[],0,cR _ gS,rfl,⟨rfl,rfl⟩,rfl,by simp,rfl⟩ (C5 led) fun h' tk k S'=>?_
    show wpAny _ _ _ _ _ _;refine wpAny_pure ?_;show wpAny _ _ (ret Value.none) _ _ _;refine wpAny_pure ⟨rfl,h',tk,rfl,S',fun b o hb e=>?_⟩;exact k b o (bg hb) (by rw[hsz];exact bg (fH hb)) (cR _ (up b o e))
   .cases r₂ with
    |error e=>exact QS
    |ok fl₂=>
     cases fl₂ with
     |next=>exact QS.elim
     |brk=>exact QS.elim
     |cont=>exact QS.elim
     |ret r=>
      obtain⟨rfl,h',tk,rfl,S',k⟩:=QS;repeat (any_goals (first|assumption|wp_step))
      exact h led h' tk S' k
end
open PySem
def EY(l:List Nat):Nat:=l.foldl (fun a x=>a ||| (1 <<< x)) 0
theorem C7(l:List Nat)(a j:Nat):(l.foldl (fun a x=>a ||| (1 <<< x)) a).testBit j=(a.testBit j||l.contains j):=by
 induction l generalizing a with
 |nil=>simp
 |cons x xs ih=>
  rw[jk,ih,Nat.testBit_or,List.contains_cons];have:(1 <<< x).testBit j=(j==x):=by
   rw[Nat.one_shiftLeft,Nat.testBit_two_pow];by_cases h:x=j
   .simp[h]
   .have h':¬ j=x:=fun e=>h e.symm;simp[h,h']
  rw[this,Bool.or_assoc]
theorem pE(h:EY l=2 ^ n-1)(hj:j<n):j∈l:=by
 have e:=C7 l 0 j;have h':l.foldl (fun a x=>a ||| (1 <<< x)) 0=2 ^ n-1:=h;rw[h',Nat.testBit_two_pow_sub_one] at e;simp[hj] at e;exact e
def EZ(M:Nat):Nat->Nat->Nat
 |0,i=>i
 |n+1,i=>EZ M n ((i*5+1) % M)
theorem qu(M a:Nat):∀b i,EZ M (b+a) i=EZ M a (EZ M b i)
 |0,i=>by rw[oe];rfl
 |b+1,i=>by
  rw[show b+1+a=(b+a)+1 by lia];show EZ M (b+a) _=EZ M a (EZ M b _);exact qu M a b _
def M2(M:Nat):Nat->Nat->List Nat
 |0,_=>[]
 |n+1,i=>i::M2 M n ((i*5+1) % M)
theorem rD:∀ {n i},j∈M2 M n i->∃k,k<n/\EZ M k i=j
 |0,_,h=>by cases h
 |n+1,i,h=>by
  rcases bZ.mp h with z|z
  .exact⟨0,by lia,z.symm⟩
  .obtain⟨k,a,b⟩:=rD z;exact⟨k+1,by lia,b⟩
structure uh(M:Nat):Prop where
 all:EY (M2 M M 0)=2 ^ M-1
 back:EZ M M 0=0
theorem Wi:uh 8:=⟨by decide +kernel,by decide +kernel⟩
theorem Lo:uh 32:=⟨by decide +kernel,by decide +kernel⟩
theorem E2:uh 128:=⟨by decide +kernel,by decide +kernel⟩
theorem E3:uh 512:=⟨by decide +kernel,by decide +kernel⟩
theorem uh.cover(R:uh M)(hi:i<M)(hj:j<M):∃n,n<M/\EZ M n i=j:=by
 obtain⟨a,ha,ea⟩:=rD (pE R.all hi);obtain⟨b,hb,eb⟩:=rD (pE R.all hj);by_cases h:a<=b
 .refine⟨b-a,by lia,?_⟩;rw[<-ea,<-qu,show a+(b-a)=b by lia,eb]
 .refine⟨M+b-a,by lia,?_⟩;rw[<-ea,<-qu,show a+(M+b-a)=M+b by lia,qu,R.back,eb]
def g9(mask:Nat):Nat->Nat×Nat->Nat×Nat
 |0,q=>q
 |n+1,q=>g9 mask n (SetTable.leap mask q.1 q.2)
theorem ui(m a:Nat):∀b q,g9 m (b+a) q=g9 m a (g9 m b q)
 |0,q=>by rw[oe];rfl
 |b+1,q=>by
  rw[show b+1+a=(b+a)+1 by lia];exact ui m a b _
theorem xE:∀ {n:Nat} {q:Nat×Nat},q.1<m+1->(g9 m n q).1<m+1
 |0,_,h=>h
 |n+1,q,h=>xE (n:=n) (vy _ (Nat.succ_pos _))
theorem Bw:∀ {n:Nat} {q:Nat×Nat},(g9 m n q).2=q.2 / 32 ^ n
 |0,_=>by simp[g9]
 |n+1,q=>by
  show (g9 m n _).2=_;rw[Bw];show q.2 / 32 / 32 ^ n=_;rw[Nat.div_div_eq_div_mul,Nat.pow_succ,Nat.mul_comm]
theorem uj:∀ {n i:Nat},g9 m n (i,0)=(EZ (m+1) n i,0)
 |0,_=>rfl
 |n+1,i=>by
  show g9 m n (SetTable.leap m i 0)=_;unfold SetTable.leap;simp only[Nat.zero_div,jr];exact uj
theorem pF(R:uh (m+1))(hi:i<m+1)(hp:p<2 ^ 64)(hj:j<m+1):∃n,n<m+14/\(g9 m n (i,p)).1=j:=by
 have h1:=xE (m:=m) (n:=13) (q:=(i,p)) hi;have h2:(g9 m 13 (i,p)).2=0:=by
  rw[Bw];exact Nat.div_eq_of_lt (bT hp (by decide))
 obtain⟨n,hn,e⟩:=R.cover h1 hj;refine⟨13+n,by lia,?_⟩;rw[ui];have:g9 m 13 (i,p)=((g9 m 13 (i,p)).1,0):=Prod.ext rfl h2;rw[this,uj];exact e
theorem Bx(h:Int):SetTable.bits h<2 ^ 64:=by
 unfold SetTable.bits;have a:=jm h (show (2 ^ 64:Int)≠0 by decide);have b:=mX h (show (0:Int)<2 ^ 64 by decide);lia
theorem QT{M:Nat}{l:List Nat}(h:l.length<M):∃j,j<M/\j∉l:=by
 have key:∀ (a b:List Nat),a.Nodup->(∀x∈a,x∈b)->a.length<=b.length:=by
  intro a;induction a with
  |nil=>intro b _ _;exact dG _
  |cons x xs ih=>
   intro b hn hs;obtain⟨h1,h2⟩:=dQ.mp hn;have hx:x∈b:=hs x cA;have:=ih (b.erase x) h2 fun y hy=>(zu (fun (e:y=x)=>h1 (e ▸ hy))).mpr (hs y (cN _ hy));rw[zf hx] at this;have:0<b.length:=qM hx;rw[cx];lia
 apply uW;intro M3;have:=key (List.range M) l l_ fun x hx=>uW fun yY=>M3 ⟨x,bu.mp hx,yY⟩;rw[dD] at this;lia
def Ar(mask i p:Nat):SetTable.Probe:={ j:=i,more:=SetTable.runEnd mask i-i,i:=i,perturb:=p,dummy:=none }
theorem M4(mask i:Nat):SetTable.runEnd mask i-i<=9:=by unfold SetTable.runEnd;split <;> lia
theorem vZ{t:SetTable}(hd:t.dummies=#[])(j:Nat):t.slot j=.empty\/∃i,t.slot j=.live i/\t.place[i]?=some j:=by
 unfold SetTable.slot;dsimp only;split
 .rename_i h;exact .inr ⟨_,rfl,by simpa using h⟩
 .left;rw[hd];rfl
theorem As{t:SetTable}(hd:t.dummies=#[]){j:Nat}(h:j∉t.place.toList):t.slot j=.empty:=by
 rcases vZ hd j with e|⟨i,_,e2⟩
 .exact e
 .exact absurd (by rw[<-lK] at e2;exact eB e2) h
section
variable {t:SetTable} {hashAt:Nat->Int} {h:Int}
theorem E4(hd:t.dummies=#[])(hh:∀i,i<t.place.size->hashAt i≠h)(i p:Nat):∀ (r:Nat) (j gy:Nat),
  (∃j',SetTable.probe.go t hashAt h (gy+r+1) { j:=j,more:=r,i:=i,perturb:=p,dummy:=none }=some (.empty j' none))\/
  SetTable.probe.go t hashAt h (gy+r+1) { j:=j,more:=r,i:=i,perturb:=p,dummy:=none }=SetTable.probe.go t hashAt h gy (Ar t.mask (SetTable.leap t.mask i p).1 (SetTable.leap t.mask i p).2)
 |0,j,gy=>by
  rcases vZ hd j with e|⟨k,e,e2⟩
  .exact .inl ⟨j,by unfold SetTable.probe.go;rw[e]⟩
  .right;have hk:k<t.place.size:=(Eg.mp e2).1;conv=>lhs;unfold SetTable.probe.go
   rw[e];simp only[gZ,hh k hk,fZ];rfl
 |r+1,j,gy=>by
  rcases vZ hd j with e|⟨k,e,e2⟩
  .exact .inl ⟨j,by rw[show gy+(r+1)+1=(gy+r+1)+1 by lia];unfold SetTable.probe.go;rw[e]⟩
  .have hk:k<t.place.size:=(Eg.mp e2).1;have st:SetTable.probe.go t hashAt h (gy+(r+1)+1) { j:=j,more:=r+1,i:=i,perturb:=p,dummy:=none }=SetTable.probe.go t hashAt h (gy+r+1) { j:=j+1,more:=r,i:=i,perturb:=p,dummy:=none }:=by
    rw[show gy+(r+1)+1=(gy+r+1)+1 by lia];conv=>lhs;unfold SetTable.probe.go
    rw[e];simp only[gZ,hh k hk,fZ];rfl
   rw[st];exact E4 hd hh i p r (j+1) gy
theorem By(hd:t.dummies=#[])(hh:∀i,i<t.place.size->hashAt i≠h):∀ (m:Nat) (i p gy:Nat),10*(m+1)<=gy->t.slot (g9 t.mask m (i,p)).1=.empty->
  ∃j',SetTable.probe.go t hashAt h gy (Ar t.mask i p)=some (.empty j' none)
 |0,i,p,gy,hf,e=>by
  obtain⟨f,rfl⟩:∃f,gy=f+1:=⟨gy-1,by lia⟩
  refine⟨i,?_⟩;have e':t.slot i=.empty:=e;unfold SetTable.probe.go Ar;dsimp only;rw[e']
 |m+1,i,p,gy,hf,e=>by
  have hr:=M4 t.mask i;obtain⟨f,C8⟩:∃f,gy=f+(SetTable.runEnd t.mask i-i)+1:=⟨gy-(SetTable.runEnd t.mask i-i)-1,by lia⟩
  rcases E4 (hashAt:=hashAt) (h:=h) hd hh i p (SetTable.runEnd t.mask i-i) i f with z|z
  .rw[C8];exact z
  .rw[C8];show ∃j',SetTable.probe.go t hashAt h _ { j:=i,more:=_,i:=i,perturb:=p,dummy:=none }=_;rw[z];exact By hd hh m _ _ f (by lia) e
theorem At(R:uh (t.mask+1))(hd:t.dummies=#[])(hs:t.place.size<=t.mask)(hh:∀i,i<t.place.size->hashAt i≠h):∃j,t.probe hashAt h (t.probeStart h)=some (.empty j none):=by
 obtain⟨j,hj,hn⟩:=QT (M:=t.mask+1) (l:=t.place.toList) (by simpa using Nat.lt_succ_of_le hs);obtain⟨m,hm,e⟩:=pF R (vy (SetTable.bits h) (Nat.succ_pos t.mask)) (Bx h) hj;refine By hd hh m _ _ _ ?_ (by rw[e];exact As hd hn);unfold SetTable.turns;lia
end
theorem E5{α β:Type}{f:α->Option β}:∀ {l:List α},(∀q∈l,(f q).isSome=true)->(l.filterMap f).length=l.length
 |[],_=>rfl
 |q::l,h=>by
  have hq:=h q cA;cases e:f q with
  |none=>rw[e] at hq;cases hq
  |some b=>rw[El e,cx,cx,E5 fun x hx=>h x (cN _ hx)]
theorem lm:∀ (m gy i p:Nat),m<gy->owner.getD (g9 mask m (i,p)).1 (some 0)=none->∃j,SetTable.layClean.free mask owner gy i p=some j/\owner.getD j (some 0)=none
 |m,0,_,_,h,_=>by lia
 |m,gy+1,i,p,h,e=>by
  unfold SetTable.layClean.free;cases hf:(List.range (SetTable.runEnd mask i+1-i)).find? fun k=>(owner.getD (i+k) (some 0)).isNone with
  |some k=>
   refine⟨i+k,rfl,?_⟩;have:=List.find?_some hf;simpa using this
  |none=>
   cases m with
   |zero=>
    have h0:(0:Nat)∈List.range (SetTable.runEnd mask i+1-i):=bu.mpr (by unfold SetTable.runEnd;split <;> lia);have:=List.find?_eq_none.mp hf 0 h0;have e':owner.getD i (some 0)=none:=e;rw[jr,e'] at this;exact absurd rfl this
   |succ m=>
    exact lm m gy _ _ (by lia) e
structure xF(M:Nat)(owner:Array (Option Nat))(k:Nat):Prop where
 size:owner.size=M
 cnt:owner.toList.countP Option.isSome=k
 lt:∀x,some x∈owner.toList->x<k
theorem Au{l:List (Option Nat)}{j:Nat}{x:Nat}(hj:l[j]?=some none):(l.set j (some x)).countP Option.isSome=l.countP Option.isSome+1:=by
 induction l generalizing j with
 |nil=>cases hj
 |cons a l ih=>
  cases j with
  |zero=>
   obtain rfl:a=none:=by simpa using hj
   simp
  |succ j=>
   rw[List.set_cons_succ,n9,n9,ih (by simpa using hj)];lia
theorem xF.one{mask:Nat}{owner:Array (Option Nat)}{k:Nat}(L:xF (mask+1) owner k)(R:uh (mask+1))(hk:k<mask+1)(h:Int):
  ∃j,SetTable.layClean.free mask owner (SetTable.turns mask) (SetTable.bits h % (mask+1)) (SetTable.bits h)=some j/\xF (mask+1) (owner.setIfInBounds j (some k)) (k+1):=by
 have M3:∃j,j<mask+1/\owner.toList[j]?=some none:=by
  apply uW;intro M3;have tI:∀x∈owner.toList,x.isSome=true:=by
   intro x hx;obtain⟨j,hj,e⟩:=lL.mp hx;cases x with
   |some _=>rfl
   |none=>
    refine absurd ⟨j,?_,?_⟩ M3
    .rw[<-L.size];simpa using hj
    .rw[b9 hj,e]
  have:=List.countP_eq_length.mpr tI;rw[L.cnt,iX,L.size] at this;lia
 obtain⟨j0,hj0,e0⟩:=M3;obtain⟨m,hm,em⟩:=pF R (vy (SetTable.bits h) (Nat.succ_pos mask)) (Bx h) hj0;obtain⟨j,ej,en⟩:=lm (mask:=mask) (owner:=owner) m (SetTable.turns mask) (SetTable.bits h % (mask+1)) (SetTable.bits h) (by unfold SetTable.turns;lia)
  (by rw[em,uT,<-lK,e0];rfl)
 refine⟨j,ej,?_⟩;have hjn:owner.toList[j]?=some none:=by
  rw[uT,<-lK] at en;cases hq:owner.toList[j]? with
  |none=>rw[hq] at en;cases en
  |some v=>rw[hq] at en;rw[show v=none from en]
 have QU:(owner.setIfInBounds j (some k)).toList=owner.toList.set j (some k):=by simp
 refine⟨by simp[L.size],by rw[QU,Au hjn,L.cnt],fun x hx=>?_⟩;rw[QU] at hx;rcases List.mem_or_eq_of_mem_set hx with z|z
 .exact fH (L.lt x z)
 .cases z;exact kl _
theorem Bz(R:uh (mask+1)):∀ (l:List Int) (owner:Array (Option Nat)) (k:Nat),xF (mask+1) owner k->k+l.length<=mask->
  ∃E6,l.foldl (fun eA h=>do
   let (owner,k) <- eA
   let j <- SetTable.layClean.free mask owner (SetTable.turns mask) (SetTable.bits h % (mask+1)) (SetTable.bits h)
   pure (owner.setIfInBounds j (some k),k+1)) (some (owner,k))=some (E6,k+l.length)/\xF (mask+1) E6 (k+l.length)
 |[],owner,k,L,_=>⟨owner,rfl,L⟩
 |h::l,owner,k,L,hl=>by
  rw[cx] at hl;obtain⟨j,ej,L'⟩:=L.one R (by lia) h;obtain⟨o',e,L2⟩:=Bz R l _ _ L' (by lia);refine⟨o',?_,by rw[cx,show k+(l.length+1)=k+1+l.length by lia];exact L2⟩;rw[jk];have:(do
   let (owner,k) <- some (owner,k)
   let j <- SetTable.layClean.free mask owner (SetTable.turns mask) (SetTable.bits h % (mask+1)) (SetTable.bits h)
   pure (owner.setIfInBounds j (some k),k+1):Option (Array (Option Nat)×Nat))=some (owner.setIfInBounds j (some k),k+1):=by
   show (SetTable.layClean.free mask owner (SetTable.turns mask) (SetTable.bits h % (mask+1)) (SetTable.bits h)).bind _=_;rw[ej];rfl
  rw[this,e,cx,show k+(l.length+1)=k+1+l.length by lia]
theorem xG(R:uh (mask+1))(hs:Array Int)(h:hs.size<=mask):∃owner,SetTable.layClean mask hs=some owner/\xF (mask+1) owner hs.size:=by
 have L0:xF (mask+1) (Array.replicate (mask+1) none) 0:=⟨by simp,by simp[List.countP_replicate],fun x hx=>by simp at hx⟩
 obtain⟨o,e,L⟩:=Bz R hs.toList _ 0 L0 (by simpa using h);refine⟨o,?_,by simpa using L⟩;unfold SetTable.layClean;rw[<-Array.foldl_toList];have e':=congrArg (Option.map (·.1)) e;exact e'
theorem Av(L:xF M owner n):
  ((List.range M).filterMap fun j=>(owner.getD j none).map (j,·)).length=n/\∀q∈(List.range M).filterMap (fun j=>(owner.getD j none).map (j,·)),q.2<n:=by
 constructor
 .rw[<-L.cnt];have e:owner.toList=(List.range M).map fun j=>owner.getD j none:=by
   apply List.ext_getElem
   .simp[L.size]
   .intro i h1 h2;simp only[List.getElem_map,List.getElem_range,zz];rw[uT,zc (by simpa using h1)];rfl
  conv=>rhs;rw[e]
  rw[List.countP_map];generalize List.range M=l;induction l with
  |nil=>rfl
  |cons a l ih=>
   rw[n9,<-ih];cases hq:owner.getD a none with
   |none=>rw[List.filterMap_cons_none (by rw[hq];rfl),show (Option.isSome ∘ fun j=>owner.getD j none) a=false by show (owner.getD a none).isSome=false;rw[hq];rfl];simp
   |some x=>rw[El (b:=(a,x)) (by rw[hq];rfl),show (Option.isSome ∘ fun j=>owner.getD j none) a=true by show (owner.getD a none).isSome=true;rw[hq];rfl];simp
 .intro q hq;obtain⟨j,_,e⟩:=n8.mp hq;cases hx:owner.getD j none with
  |none=>rw[hx] at e;cases e
  |some x=>
   rw[hx] at e;cases e;refine L.lt x ?_;rw[uT,<-lK] at hx;cases hy:owner.toList[j]? with
   |none=>rw[hy] at hx;cases hx
   |some v=>rw[hy] at hx;obtain rfl:v=some x:=hx;exact eB hy
structure xH(hs:Array Int)(t:SetTable):Prop where
 dm:t.dummies=#[]
 sz:t.place.size=hs.size
 ms:(t.mask=7/\hs.size<=4)\/(t.mask=31/\hs.size<=18)\/(t.mask=127/\hs.size<=76)\/(t.mask=511/\hs.size<=306)
theorem xH.rnd(T:xH hs t):uh (t.mask+1):=by
 rcases T.ms with ⟨e,_⟩|⟨e,_⟩|⟨e,_⟩|⟨e,_⟩ <;> rw[e]
 .exact Wi
 .exact Lo
 .exact E2
 .exact E3
theorem lQ(xs:Array α)(p:Nat)(x:α):(SetTable.insertAt xs p x).size=xs.size+1:=by
 unfold SetTable.insertAt;simp;lia
theorem ng(h:y∈(SetTable.insertAt xs p x).toList):y=x\/y∈xs.toList:=by
 unfold SetTable.insertAt at h;rw[pA,jQ,zy,zy] at h;rcases bV.mp h with z|z
 .rcases bV.mp z with z|z
  .right;rw[List.extract_eq_drop_take] at z;exact u6 (pr z)
  .left;simpa using z
 .right;rw[List.extract_eq_drop_take] at z;exact u6 (pr z)
theorem Aw{hs:Array Int}{t:SetTable}{h:Int}(T:xH hs t)(hn:h∉hs.toList)(hl:hs.size<300):∃hs' t',gp hs t h=some (hs',t')/\xH hs' t'/\hs'.size=hs.size+1/\∀x∈hs'.toList,x=h\/x∈hs.toList:=by
 have V8:t.place.size<=t.mask:=by rw[T.sz];rcases T.ms with ⟨e,z⟩|⟨e,z⟩|⟨e,z⟩|⟨e,z⟩ <;> lia
 have hh:∀i,i<t.place.size->MY hs i≠h:=by
  intro i hi e;rw[T.sz] at hi;unfold MY at e;rw[zc hi] at e;exact hn (by rw[<-e];simp)
 obtain⟨j,hp⟩:=At (hashAt:=MY hs) (h:=h) T.rnd T.dm V8 hh;have hg:t.gaveWay=false:=by
  unfold SetTable.gaveWay;rcases T.ms with ⟨e,_⟩|⟨e,_⟩|⟨e,_⟩|⟨e,_⟩ <;> rw[e] <;> rfl
 have q1:(t.put j).1.place=SetTable.insertAt t.place (SetTable.below t.place j) j:=rfl;have q2:(t.put j).1.dummies=#[]:=by
  show (if SetTable.has t.dummies j=true then _ else t.dummies)=_;rw[T.dm];rfl
 have q3:(t.put j).1.mask=t.mask:=rfl;have s1:(SetTable.insertAt hs (t.put j).2 h).size=hs.size+1:=lQ _ _ _;have s2:(t.put j).1.place.size=hs.size+1:=by rw[q1,lQ,T.sz]
 have fl:(t.put j).1.fill=hs.size+1:=by unfold SetTable.fill;rw[s2,q2];rfl
 have fit:(t.put j).1.fits (SetTable.insertAt hs (t.put j).2 h).size=true:=by
  unfold SetTable.fits;rw[s1,s2,fl,q3];simp;rcases T.ms with ⟨e,z⟩|⟨e,z⟩|⟨e,z⟩|⟨e,z⟩ <;> lia
 unfold gp;rw[hg,ap cP,hp];dsimp only;rw[aq (by rw[fit,s1];simp;lia)];by_cases hf:(t.put j).1.tooFull=true
 .rw[aq hf];have C8:=hf;unfold SetTable.tooFull at C8;rw[fl,q3] at C8;have Z9:(hs.size+1)*5>=t.mask*3:=by simpa using C8
  have gr:SetTable.grown (hs.size+1)=(hs.size+1)*4:=by unfold SetTable.grown;rw[ap (by lia)]
  obtain⟨m2,em2,QV,R2⟩:∃m2,SetTable.sizeAbove (SetTable.grown (hs.size+1))=m2+1/\((m2=31/\hs.size+1<=18)\/(m2=127/\hs.size+1<=76)\/(m2=511/\hs.size+1<=306))/\uh (m2+1):=by
   rw[gr];rcases T.ms with ⟨e,z⟩|⟨e,z⟩|⟨e,z⟩|⟨e,z⟩
   .have:hs.size=4:=by lia
    exact⟨31,by rw[this];rfl,.inl ⟨rfl,by lia⟩,Lo⟩
   .have:hs.size=18:=by lia
    exact⟨127,by rw[this];rfl,.inr (.inl ⟨rfl,by lia⟩),E2⟩
   .have:hs.size=76:=by lia
    exact⟨511,by rw[this];rfl,.inr (.inr ⟨rfl,by lia⟩),E3⟩
   .lia
  have hm3:(SetTable.insertAt hs (t.put j).2 h).size<=m2:=by rw[s1];rcases QV with ⟨e,z⟩|⟨e,z⟩|⟨e,z⟩ <;> lia
  obtain⟨owner,eo,L⟩:=xG R2 (SetTable.insertAt hs (t.put j).2 h) hm3;obtain⟨QW,Wj⟩:=Av L;rw[s1] at QW Wj;generalize QX:(List.range (m2+1)).filterMap (fun j=>(owner.getD j none).map (j,·))=live at QW Wj;have er:(t.put j).1.relaid (SetTable.insertAt hs (t.put j).2 h) (SetTable.grown (hs.size+1))=some ({ mask:=m2,place:=(live.map (·.1)).toArray,dummies:=#[],finger:=(t.put j).1.finger,led:=(t.put j).1.led,moves:=(t.put j).1.movedTo m2,plain:=(t.put j).1.plain },(live.map (·.2)).toArray):=by
   unfold SetTable.relaid SetTable.laid;rw[em2];simp only[Nat.add_sub_cancel];rw[eo];show some _=some _;rw[<-QX]
  rw[er];dsimp only;have Aq:((live.map (·.2)).toArray.filterMap ((SetTable.insertAt hs (t.put j).2 h)[·]?)).size=hs.size+1:=by
   rw[<-iX,u0];show ((live.map (·.2)).filterMap _).length=_;rw[<-QW,List.filterMap_map];refine E5 fun q hq=>?_;show ((SetTable.insertAt hs (t.put j).2 h)[q.2]?).isSome=true;rw[zc (by rw[s1];exact Wj q hq)];rfl
  have emf:∀x,({ mask:=m2,place:=(live.map (·.1)).toArray,dummies:=#[],finger:=(t.put j).1.finger,led:=(t.put j).1.led,moves:=(t.put j).1.movedTo m2,plain:=(t.put j).1.plain }:SetTable).fits x=(decide (hs.size+1=x)&&decide (hs.size+1<=m2)):=by
   intro x;unfold SetTable.fits SetTable.fill;simp[QW];rw[jn];simp
  rw[aq (by
   rw[Aq,s1,emf,em2];have:hs.size+1<=m2:=by rw[<-s1];exact hm3
   simp[this];rcases QV with ⟨e,z⟩|⟨e,z⟩|⟨e,z⟩ <;> lia)]
  refine⟨_,_,rfl,⟨rfl,?_,?_⟩,Aq,fun x hx=>?_⟩
  .rw[Aq];simp[QW]
  .rw[Aq];exact .inr QV
  .rw[u0] at hx;obtain⟨k,_,ek⟩:=n8.mp hx;refine ng (p:=(t.put j).2) ?_;rw[<-lK] at ek;exact eB ek
 .rw[ap hf];refine⟨_,_,rfl,⟨q2,by rw[s2,s1],?_⟩,s1,fun x hx=>ng hx⟩;have C8:¬ (hs.size+1)*5>=t.mask*3:=by
   intro z;refine hf ?_;unfold SetTable.tooFull;rw[fl,q3];simpa using z
  rw[s1,q3];rcases T.ms with ⟨e,z⟩|⟨e,z⟩|⟨e,z⟩|⟨e,z⟩ <;> lia
theorem pG:∀ (l:List Int) (hs:Array Int) (t:SetTable),xH hs t->(∀x∈l,x∉hs.toList)->l.Nodup->hs.size+l.length<=300->∃hs' t',l.foldlM (fun q h=>gp q.1 q.2 h) (hs,t)=some (hs',t')/\hs'.size=hs.size+l.length
 |[],hs,t,_,_,_,_=>⟨hs,t,rfl,rfl⟩
 |h::l,hs,t,T,hn,nd,hl=>by
  rw[cx] at hl;obtain⟨n1,n2⟩:=dQ.mp nd;obtain⟨Ll,t1,e1,T1,z1,m1⟩:=Aw T (hn h cA) (by lia);obtain⟨rm,t2,e2,z2⟩:=pG l Ll t1 T1 (fun x hx hy=>by
   rcases m1 x hy with e|e
   .exact n1 (e ▸ hx)
   .exact hn x (cN _ hx) e) n2 (by lia)
  refine⟨rm,t2,?_,by rw[z2,z1,cx];lia⟩;rw[List.foldlM_cons];show (gp hs t h).bind _=_;rw[e1];exact e2
theorem C9(led:Bool)(nd:l.Nodup)(hl:l.length<=300):∃hs t,vX led l=some (hs,t)/\hs.size=l.length:=by
 obtain⟨hs,t,e,z⟩:=pG l #[] (SetTable.fresh 0 0 led) ⟨rfl,rfl,.inl ⟨rfl,by decide⟩⟩ (fun x _ h=>by simp at h) nd (by simpa using hl);exact⟨hs,t,e,by simpa using z⟩
def BA:List Nat->Nat->Bool
 |[],_=>true
 |x::xs,eA=>bif Nat.testBit eA x then false else BA xs (eA ||| (1 <<< x))
theorem xI:∀ (l:List Nat) (eA:Nat),BA l eA=true->l.Nodup/\∀x∈l,eA.testBit x=false
 |[],_,_=>⟨jT,fun x h=>(nomatch h)⟩
 |x::xs,eA,h=>by
  unfold BA at h;cases hb:eA.testBit x with
  |true=>rw[hb] at h;cases h
  |false=>
   rw[hb] at h;obtain⟨nd,hx⟩:=xI xs _ h;have hor:∀y∈xs,eA.testBit y=false/\y≠x:=by
    intro y hy;have:=hx y hy;rw[Nat.testBit_or,Nat.one_shiftLeft,Nat.testBit_two_pow] at this;rw[Bool.or_eq_false_iff] at this;exact⟨this.1,fun e=>by have:=this.2;simp[e] at this⟩
   refine⟨dQ.mpr ⟨fun hm=>(hor x hm).2 rfl,nd⟩,fun y hy=>?_⟩;rcases bZ.mp hy with z|z
   .rw[z];exact hb
   .exact(hor y z).1
def rE:List (Int×Int):=(List.range 32).flatMap fun a=>(List.range 32).map fun b=>(Int.ofNat a,Int.ofNat b)
def Lq(h:Int):Nat:=(h % 6554).toNat
theorem C_(P:Program)(w:World):BA (rE.map fun y=>Lq (fL P w y)) 0=true:=by kernel_rfl
theorem BB(h1:0<=y.1/\y.1<32)(h2:0<=y.2/\y.2<32):y∈rE:=by
 unfold rE;refine List.mem_flatMap.mpr ⟨y.1.toNat,bu.mpr (by lia),bO.mpr ⟨y.2.toNat,bu.mpr (by lia),Prod.ext ?_ ?_⟩⟩
 .show ((y.1.toNat:Nat):Int)=y.1;lia
 .show ((y.2.toNat:Nat):Int)=y.2;lia
theorem lR:∀ {l:List α},(l.map f).Nodup->∀x∈l,∀y∈l,f x=f y->x=y
 |[],_,_,h,_,_,_=>by cases h
 |a::l,h,x,hx,y,hy,e=>by
  rw[cM] at h;obtain⟨h1,h2⟩:=dQ.mp h;rcases bZ.mp hx with z|z <;> rcases bZ.mp hy with z'|z'
  .rw[z,z']
  .exact absurd (bO.mpr ⟨y,z',by rw[<-e,z]⟩) h1
  .exact absurd (bO.mpr ⟨x,z,by rw[e,z']⟩) h1
  .exact lR h2 x z y z' e
theorem v_(hx:(0<=x.1/\x.1<32)/\(0<=x.2/\x.2<32))(hy:(0<=y.1/\y.1<32)/\(0<=y.2/\y.2<32))(e:fL P w x=fL P w y):x=y:=
 lR (xI _ _ (C_ P w)).1 x (BB hx.1 hx.2) y (BB hy.1 hy.2) (congrArg Lq e)
theorem oQ:∀ {l:List α},l.Nodup->(∀x∈l,∀y∈l,f x=f y->x=y)->(l.map f).Nodup
 |[],_,_=>jT
 |a::l,h,hf=>by
  obtain⟨h1,h2⟩:=dQ.mp h;rw[cM];refine dQ.mpr ⟨fun z=>?_,oQ h2 fun x hx y hy=>hf x (cN _ hx) y (cN _ hy)⟩;obtain⟨y,hy,e⟩:=bO.mp z;have:=hf y (cN _ hy) a cA e;exact h1 (this ▸ hy)
theorem xJ{P:Program}{w:World}(led:Bool){ys:List (Int×Int)}(nd:ys.Nodup)(hr:∀y∈ys,(0<=y.1/\y.1<32)/\(0<=y.2/\y.2<32))(hl:ys.length<=300):
  ∃hs t,vX led (ys.map (fL P w))=some (hs,t)/\hs.size=ys.length:=by
 obtain⟨hs,t,e,z⟩:=C9 led (oQ nd fun x hx y hy e=>v_ (P:=P) (w:=w) (hr x hx) (hr y hy) e) (by rw[aF];exact hl);exact⟨hs,t,e,by rw[z,aF]⟩
theorem wa:∀ {as:List Addr} {its:List Value},aY (as.map V.ref) its->its=as.map Value.ref
 |[],_,r=>by cases r;rfl
 |a::as,_,r=>by
  cases r with
  |cons r rr=>
   obtain rfl:=(show _=Value.ref a from r)
   rw[wa rr];rfl
def IU(D:Addr)(n:Nat):HO:=.ext fun h=>∃hs t,kK h D hs t/\hs.size=n
section
variable {X:Cx}
def QY(K:PySem.W.Frag):List V->Hp->VK->Prop:=fun xs H Q=>∃ (l:Addr) (as:List Addr) (ys:List (Int×Int)),xs=[.ref l]/\aU K H l (as.map V.ref)/\as.length=ys.length/\
 (∀i,i<ys.length->EU K H (as.getD i 0) (ys.getD i (0,0)))/\ys.Nodup/\(∀y∈ys,(0<=y.1/\y.1<32)/\(0<=y.2/\y.2<32))/\ys.length<=300/\∀D,H D=none->Q (.ref D) (upd H D (IU D ys.length))
theorem Da(hc:X.calm=true)(hu:X.A.units+8<cLine):fA X (.type "set") (QY X.K):=by
 intro ae s σ H xs us Q I r h;obtain⟨l,as,ys,rfl,hl,eW,hp,nd,rg,h3,q⟩:=h;obtain⟨u1,rfl,r1⟩:=r.one;obtain rfl:u1=Value.ref l:=r1;obtain⟨its,rv,pl,hz⟩:=I.list hl;have e:=wa rv;subst e;have hpi:jC s.heap (as.map Value.ref) ys:=⟨by rw[aF,eW],fun i v hv=>by
  rw[bp] at hv;cases ea:as[i]? with
  |none=>rw[ea] at hv;cases hv
  |some a=>
   rw[ea] at hv;obtain rfl:Value.ref a=v:=ba hv;have hi:i<as.length:=(cI.mp ea).1;obtain⟨o,n,t,u,e1,c,d⟩:=Ao I (hp i (by lia));have eg:as.getD i 0=a:=by rw[bH,ea];rfl
   rw[eg] at e1;exact⟨a,o,n,t,u,rfl,e1,c,d⟩⟩
 have C5:∀led,∃q:Array Int×SetTable,vX led (ys.map (fL X.prog X.w))=some q/\q.1.size=ys.length:=fun led=>
  let ⟨hs,t,e,z⟩:=xJ (P:=X.prog) (w:=X.w) led nd rg h3;⟨(hs,t),e,z⟩
 refine EX (I.ok.hd hc) hu pl.isList hpi (hsN:=fun led=>(C5 led).choose.1) (tN:=fun led=>(C5 led).choose.2) (fun led=>(C5 led).choose_spec.1) fun led h' tk S' k=>?_;refine⟨.ref s.heap.objs.size,_,I.Bs (t':=tk) (o:=IU s.heap.objs.size ys.length) (fun b u e=>k b u (bn e) e) (n6 (bf _)) ⟨⟨_,_,S',(C5 led).choose_spec.2⟩,?_,fun h1 h2 ⟨hs,t,⟨o,es,ep,q1,q2⟩,z⟩ kk=>⟨hs,t,⟨o,es,ep,kk o q1,q2⟩,z⟩⟩,rfl,q _ I.fresh⟩;obtain⟨o,_,_,q1,_⟩:=S';exact⟨o,q1⟩
theorem xK:fA X (.builtin "len") (fun xs H Q=>∃D n,xs=[.ref D]/\H D=some (IU D n)/\n<=4096/\Q (.int n) H):=by
 intro ae s σ H xs us Q I r h;obtain⟨D,n,rfl,e,hn,q⟩:=h;obtain⟨u1,rfl,r1⟩:=r.one;obtain rfl:u1=Value.ref D:=r1;obtain⟨⟨hs,t,⟨o,es,ep,q1,q2,q3,q4,q5,q6⟩,z⟩,_⟩:=(show cp X.prog X.w H s.heap D (IU D n) from I.bS D _ e)
 have hsz:es.size=n:=by rw[<-z,<-q5,jo]
 exact call_len_set q1 ⟨q2,q3.1,q3.2⟩ q4 q6 (by rw[hsz];lia) ⟨.int n,H,I.tok _,⟨_,by rw[hsz]⟩,q⟩
theorem xL:fA X (.type "range") (fun xs H Q=>∃n,xs=[.int n]/\∀p,H p=none->Q (.ref p) (upd H p (.Ii 0 n))):=by
 intro ae s σ H xs us Q I r h;obtain⟨n,rfl,q⟩:=h;obtain⟨u1,rfl,t,rfl⟩:=r.one;refine call_range_1 ⟨.ref s.heap.objs.size,_,I.laid (o:=.Ii 0 n) (fun b u e=>cR _ e) (bf _) ⟨_,_,_,dC _ rfl⟩,rfl,q _ I.fresh⟩
theorem Ax(hc:X.calm=true):fA X (.type "list") (fun xs H Q=>∃ (p:Addr) (n:Nat),xs=[.ref p]/\H p=some (.Ii 0 n)/\n<=1000/\∀l,H l=none->Q (.ref l) (upd H l (.lst ((List.range n).map fun (i:Nat)=>V.int i)))):=by
 intro ae s σ H xs us Q I r h;obtain⟨p,n,rfl,e,hn,q⟩:=h;obtain⟨u1,rfl,r1⟩:=r.one;obtain rfl:u1=Value.ref p:=r1;obtain⟨t,u,v,hp⟩:=(show cp X.prog X.w H s.heap p (.Ii 0 n) from I.bS p _ e)
 refine call_list_range (n:=n) (I.ok.hd hc) (show IsRange s.heap p 0 n 1 t u v from hp) (small_one (by lia) (by lia) (by lia) (by lia)) (by rw[rangeSize_one];split <;> lia) (by lia) fun h' tk eA c k g it=>?_;obtain⟨i1,i2⟩:=it;refine⟨.ref s.heap.objs.size,_,I.Bs (t':=tk) (o:=.lst ((List.range n).map fun (i:Nat)=>V.int i)) (fun b u e=>k b u e) (n6 (bf _)) ⟨?_,eA.toList,c,?_,by simpa using g⟩,rfl,q _ I.fresh⟩
 .rw[aF,dD];exact bj hn (by decide)
 .have go:∀ (m:Nat) (l:List Value),l.length=m->(∀ (j:Nat) v,l[j]?=some v->∃t,v=Value.int (0+(j:Int)*1) t)->aY ((List.range m).map fun (i:Nat)=>V.int i) l:=by
   intro m;induction m with
   |zero=>intro l hl _;cases l with
    |nil=>exact .nil
    |cons _ _=>cases hl
   |succ m ih=>
    intro l hl hv;have ji:l≠[]:=by intro z;rw[z] at hl;cases hl
    have el:l=l.dropLast++[l.getLast ji]:=(List.dropLast_concat_getLast ji).symm;rw[fJ,bK,el];have C6:l.dropLast.length=m:=by rw[List.length_dropLast,hl];rfl
    refine aY.append (ih _ C6 fun j v hj=>hv j v ?_) (.cons ?_ .nil)
    .rw[el];have hj':j<l.dropLast.length:=(cI.mp hj).1;rw[iC hj'];exact hj
    .obtain⟨t,ht⟩:=hv m (l.getLast ji) (by
      rw[List.getLast_eq_getElem,b9 (by lia:m<l.length)];simp[hl])
     exact⟨t,by rw[ht];simp⟩
  exact go n eA.toList (by simpa using i1) fun j v hj=>i2 j v (by simpa using hj)
end
def pH(e:V->V->Bool):List V->List V->Bool
 |[],[]=>true
 |x::xs,y::ys=>e x y&&pH e xs ys
 |_,_=>false
theorem pI:∀ {xs ys:List V},xs.length=ys.length->pH e xs ys=(List.range xs.length).all fun i=>e (xs.getD i .bR) (ys.getD i .bR)
 |[],[],_=>rfl
 |x::xs,y::ys,h=>by
  have h':xs.length=ys.length:=by simpa using h
  rw[pH,pI h',cx,uZ,ku,List.all_map];rfl
 |[],_::_,h=>by simp at h
 |_::_,[],h=>by simp at h
theorem uk:∀ {xs ys:List V},xs.length≠ys.length->pH e xs ys=false
 |[],[],h=>absurd rfl h
 |x::xs,y::ys,h=>by
  have h':xs.length≠ys.length:=fun z=>h (by simp[z]);rw[pH,uk h',vm]
 |[],_::_,_=>rfl
 |_::_,[],_=>rfl
section
variable {X:Cx}
def QZ(X:Cx)(H:Hp)(e:V->V->Bool)(x y:V):Prop:=∀ (ae:List (Addr×Obj)) (s:Shared) (σ:St) (A:Around) (u v:Value),aQ X ae σ H s->A.units+1<cLine->bq x u->bq y v->SeqAt.EqAt A s u v (e x y)
def Wk(X:Cx)(QA:Bool)(e:V->V->Bool):R2:=fun x y H Q=>∃p q xs ys,x=.ref p/\y=.ref q/\aU X.K H p xs/\aU X.K H q ys/\(∀i,i<xs.length->i<ys.length->QZ X H e (xs.getD i .bR) (ys.getD i .bR))/\Q (.bl (if QA then !pH e xs ys else pH e xs ys)) H
theorem E7(I:aQ X ae σ H s)(hu:A.units+1<cLine)(rx:aY xs us)(ry:aY ys vs)(he:∀i,i<xs.length->i<ys.length->QZ X H e (xs.getD i .bR) (ys.getD i .bR)):∀j (h1:j<us.toArray.size) (h2:j<vs.toArray.size),SeqAt.EqAt A s us.toArray[j] vs.toArray[j] (e (xs.getD j .bR) (ys.getD j .bR)):=by
 intro j h1 h2;have j1:j<xs.length:=by rw[rx.length];simpa using h1
 have j2:j<ys.length:=by rw[ry.length];simpa using h2
 have e1:xs[j]?=some (xs.getD j .bR):=by rw[bH,b9 j1];rfl
 have e2:ys[j]?=some (ys.getD j .bR):=by rw[bH,b9 j2];rfl
 obtain⟨u,oR,ru⟩:=rx.get e1;obtain⟨v,Wl,rv⟩:=ry.get e2;have eu:us.toArray[j]=u:=by
  have:us[j]?=some us.toArray[j]:=by simp at h1 |-
  rw[oR] at this;exact(ba this).symm
 have ev:vs.toArray[j]=v:=by
  have:vs[j]?=some vs.toArray[j]:=by simp at h2 |-
  rw[Wl] at this;exact(ba this).symm
 rw[eu,ev];exact he j j1 j2 ae s σ A u v I hu ru rv
theorem E8{e:V->V->Bool}(hu:X.A.units+2<cLine):m3 X (compareOp .NotEq) (Wk X true e):=by
 intro ae s σ H x y v u Q I rx ry h;obtain⟨p,q,xs,ys,rfl,rfl,hp,hq,he,k⟩:=h;obtain rfl:v=Value.ref p:=rx;obtain rfl:u=Value.ref q:=ry;obtain⟨us,r1,p1,_⟩:=I.list hp;obtain⟨vs,r2,p2,_⟩:=I.list hq;by_cases hl:xs.length=ys.length
 .refine SeqAt.RcNeAt.lists (e:=fun i=>e (xs.getD i .bR) (ys.getD i .bR)) p1.isList p2.isList (by simp only[dj];rw[<-r1.length,<-r2.length];exact hl) (by lia) (E7 I (by show X.A.units+1+1<cLine;lia) r1 r2 he) _ _ _ _ ⟨.bl _,H,I,rfl,?_⟩;rw[show us.toArray.size=xs.length by rw[dj,r1.length],<-pI hl];exact k
 .refine SeqAt.RcNeAt.lists_lengths p1.isList p2.isList (by simp only[dj];rw[<-r1.length,<-r2.length];simpa using hl) (by lia) _ _ _ _ ⟨.bl _,H,I,rfl,?_⟩;have k':=k;rw[uk hl] at k';exact k'
theorem Db(hc:X.calm=true):fA X (.builtin "any") (fun xs H Q=>∃ (p:Addr) (bs:List Bool),xs=[.ref p]/\aU X.K H p (bs.map V.bl)/\Q (.bl (bs.any id)) H):=by
 intro ae s σ H xs us Q I r h;obtain⟨p,bs,rfl,hp,q⟩:=h;obtain⟨u1,rfl,r1⟩:=r.one;obtain rfl:u1=Value.ref p:=r1;obtain⟨its,rv,pl,hz⟩:=I.list hp;have Ay:its=bs.map Value.bool:=by
  have go:∀ (bs:List Bool) (its:List Value),aY (bs.map V.bl) its->its=bs.map Value.bool:=by
   intro bs;induction bs with
   |nil=>intro its r;cases r;rfl
   |cons b bs ih=>
    intro its r;cases r with
    |cons r rr=>
     obtain rfl:=(show _=Value.bool b from r)
     rw[ih _ rr];rfl
  exact go bs its rv
 subst Ay;obtain⟨ob,Wm,_⟩:=id pl.isList;have dL:p<s.heap.objs.size:=bn Wm;refine call_any_walk (qV pl.isList ⟨s.heap.objs.size,_,_,_,_,_,fun i=>bs.getD i false,rfl,Walks.list (show X.A.in1.handled=none from I.ok.hd hc) _ p (bg dL) _,⟨⟨_,dC _ rfl,rfl,rfl⟩,pl.isList.push _⟩,fun i v s1 Q' E' hv hq=>?_,fun h' tk k=>?_⟩)
 .have Ad:(bs.map Value.bool)[i]?=some v:=by simpa using hv
  rw[bp] at Ad;cases eb:bs[i]? with
  |none=>rw[eb] at Ad;cases Ad
  |some b=>
   rw[eb] at Ad;obtain rfl:Value.bool b=v:=ba Ad;have:bs.getD i false=b:=by rw[bH,eb];rfl
   have Iw:Q' b s1:=by rw[<-this];exact hq
   exact wpAny_pure Iw
 .have keep:∀b o,s.heap.get? b=some o->h'.get? b=some o:=fun b o e=>k b o (by simpa using bg (bn e)) (cR _ e);refine⟨.bl (bs.any id),H,I.kept (t':=tk) keep,?_,q⟩;show Value.bool _=Value.bool _;congr 1;have go:∀ (bs:List Bool),((List.range bs.length).any fun i=>bs.getD i false)=bs.any id:=by
   intro bs;induction bs with
   |nil=>rfl
   |cons b bs ih=>
    rw[cx,uZ,kq,List.any_map,kq,<-ih];rfl
  rw[<-go bs];simp
end
def pJ(c:Addr)(qual:Str):HO:=.ext fun h=>h.CodeRec (.ref c) qual
theorem E9(x:h.CodeRec (.ref c) qual):cp P w H h c (pJ c qual):=by
 refine⟨x,?_,?_⟩
 .obtain⟨c',o,vs,t,e,ho,_⟩:=x;cases e;exact⟨o,ho⟩
 .rintro h1 h2 ⟨c',o,vs,t,e,ho,r⟩ k;cases e;exact⟨c,o,vs,t,rfl,k o ho,r⟩
def Lr(f:Addr)(qual:Str)(params:Arguments)(body:Expr)(scope:Scope)(cells:List (Str×Addr))(c:Addr)(h:Heap):Prop:=
 ∃ (dM:List (Str×Addr)) (pm wb:Value),(∀x a,dM.lookup x=some a->cells.lookup x=some a)/\(∀x,(x,NameKind.free)∈scope.names->∃a,dM.lookup x=some a)/\
  h.get? f=some (PySem.W.kla_obj "<lambda>" qual params body scope dM pm c wb)
def rF(f:Addr)(qual:Str)(params:Arguments)(body:Expr)(scope:Scope)(cells:List (Str×Addr))(c:Addr):HO:=.ext (Lr f qual params body scope cells c)
theorem BC(x:Lr f qual params body scope cells c h):
  cp P w H h f (rF f qual params body scope cells c):=by
 refine⟨x,?_,?_⟩
 .obtain⟨_,_,_,_,_,e⟩:=x;exact⟨_,e⟩
 .rintro h1 h2 ⟨dM,pm,wb,a,b,e⟩ k;exact⟨dM,pm,wb,a,b,k _ e⟩
def kM(lp:Pos)(qual:Str)(P:Addr)(H:Hp):Prop:=H P=some (.oq #[])\/∃c,H P=some (.oq #[rawInt lp.line,rawInt lp.col,.ref c])/\H c=some (pJ c qual)
structure IW(X:Cx)(c P:Addr):Prop where
 code:X.env.code=.ref c
 hd:PySem.W.CodeHd X.base c P
 bm:∃bm o,X.mg "__builtins__"=some (.ref bm)/\bm≠builtinsNs/\bm≠mainGlobals/\X.base.get? bm=some o/\o.cls=.type "module"/\o.dict=some builtinsNs/\o.data=.plain
def Wn(lp:Pos)(qual:Str)(P:Addr)(params:Arguments)(body:Expr)(scope:Scope)(cells:List (Str×Addr)):TE:=fun _ H Q=>kM lp qual P H/\
 ∀ (f c:Addr) (H2:Hp),kM lp qual P H2->(∀b o,H b=some o->b≠P->H2 b=some o)->H2 c=some (pJ c qual)->H2 f=some (rF f qual params body scope cells c)->Q (.ref f) H2
theorem xM{lp:Pos}{c:Addr}:TriplesOk (#[rawInt lp.line,rawInt lp.col,.ref c]:Array Value).toList:=trivial
theorem Dc:codeAmong lp (#[rawInt lp.line,rawInt lp.col,.ref c]:Array Value).toList=some (.ref c):=by
 show (if ((lp.line:Int)==(lp.line:Int)&&(lp.col:Int)==(lp.col:Int))=true then some (Value.ref c) else _)=_;simp
section
variable {X:Cx} {c P:Addr} {params:Arguments} {body:Expr} {scope:Scope} {lp:Pos} {NB:List Str} {src:List (Option Nat)}
theorem IW.at(C:IW X c P)(I:aQ X ae σ H s)(hP:H P=some (.oq ps)):s.heap.BuiltinsAt X.mg P:=by
 obtain⟨bm,o,b1,b2,b3,b4,b5,b6,b7⟩:=C.bm;refine⟨bm,o,b1,b2,b3,fun z=>?_,I.bk _ _ b4,b5,b6,b7⟩;have:=(I.bs _ _ b4).2;rw[z,hP] at this;cases this
theorem aQ.Lu(I:aQ X ae σ H s):s.heap.Ns mainGlobals X.mg:=I.mod.glob.keeps I.bk
theorem E_(C:IW X c P)(S:io NB src scope X)(Wo:defaultsOf params X.env=([],[]):=by rfl):PE X (.Lambda params body scope lp) (Wn lp (X.env.qual++"<lambda>") P params body scope X.env.cells):=by
 intro ae s σ H Q I h;obtain⟨tab,h⟩:=h;obtain⟨dM,ecl,c1,c2⟩:=mE I.ok S;refine PySem.W.kla_eval Wo ?_;have hsz:∀b o,s.heap.get? b=some o->b<s.heap.objs.size:=fun b o e=>bn e;rcases tab with hP|⟨c',hP,Es⟩
 .-- the first time
  have Q0:s.heap.get? P=some (PySem.W.tabObj #[]):=I.bS P _ hP;have hPL:X.env.locals≠P:=fun z=>by have f:=I.free;rw[z,hP] at f;cases f
  have hPg:mainGlobals≠P:=fun z=>by
   obtain⟨o,es,ep,e,d,_⟩:=I.mod.glob;have:=(I.bs _ _ e).2;rw[z,hP] at this;cases this
  refine PySem.W.kla_makeFunction (mg:=X.mg) ecl I.ok.glob I.Lu C.code (C.hd.keeps I.bk) Q0 (by trivial) rfl hPg (C.at I hP) fun c' wb h' tk hx IX dL Wp htb=>?_;have IY:∀b o,b≠P->s.heap.get? b=some o->(h'.push (PySem.W.kla_obj "<lambda>" (X.env.qual++"<lambda>") params body scope dM ((X.mg "__name__").getD .none) c' wb)).get? b=some o:=fun b o hb e=>cR _ (hx b o hb e);have hcP:c'≠P:=kA (bT (hsz _ _ Q0) IX);have hfP:h'.objs.size≠P:=kA (bT (hsz _ _ Q0) (bj IX (eC dL)));have hfc:h'.objs.size≠c':=kA dL;have nf:H h'.objs.size=none:=I.bS.fresh (by lia);have nc:H c'=none:=I.bS.fresh IX
  let H2:Hp:=upd (upd (upd H P (.oq #[rawInt lp.line,rawInt lp.col,.ref c'])) c' (pJ c' (X.env.qual++"<lambda>"))) h'.objs.size (rF h'.objs.size (X.env.qual++"<lambda>") params body scope X.env.cells c')
  have eP:H2 P=some (.oq #[rawInt lp.line,rawInt lp.col,.ref c']):=by
   show upd _ _ _ _=_;rw[ak hfP.symm,ak hcP.symm,af]
  have ec:H2 c'=some (pJ c' (X.env.qual++"<lambda>")):=by
   show upd _ _ _ _=_;rw[ak hfc.symm,af]
  have ef:H2 h'.objs.size=some (rF h'.objs.size (X.env.qual++"<lambda>") params body scope X.env.cells c'):=af;have eo:∀b,b≠P->b≠c'->b≠h'.objs.size->H2 b=H b:=fun b h1 h2 h3=>by
   show upd _ _ _ _=_;rw[ak h3,ak h2,ak h1]
  have old:∀b o,H b=some o->b≠P->H2 b=some o:=fun b o e hb=>by
   rw[eo b hb (ai e nc) (ai e nf)];exact e
  have I2:aQ X ae σ H2 { s with heap:=h'.push (PySem.W.kla_obj "<lambda>" (X.env.qual++"<lambda>") params body scope dM ((X.mg "__name__").getD .none) c' wb),toks:=tk }:=by
   refine I.step (g':=s.gens) (d':=s.drawn) (ch:=[]) (fun _ z=>absurd z (by simp)) (fun b o _ _ _ e n=>IY b o (fun z=>by rw[z,hP] at n;cases n) e) (fun b o _ _ _ e n=>⟨o.slots,IY b o (fun z=>by rw[z,hP] at n;cases n) e⟩)
    (fun b o _ e n=>?_) (fun b o _ e=>?_) (fun b xs e=>old b _ e fun z=>by rw[z,hP] at e;cases e) (fun b o u e=>old b _ e fun z=>by rw[z,hP] at e;cases e) (fun b ps e=>?_) (fun m hm=>?_) (fun b o e=>?_) I.bare
   .rw[eo b (fun z=>by rw[z,hP] at n;cases n) (bg (bT (hsz b o e) IX)) (bg (bT (hsz b o e) (bj IX (eC dL))))];exact n
   .by_cases hb:b=P
    .exact⟨_,by rw[hb];exact cR _ htb⟩
    .exact⟨o,IY b o hb e⟩
   .by_cases hb:b=P
    .rw[hb] at e |-;rw[hP] at e;cases e;exact⟨#[rawInt lp.line,rawInt lp.col,.ref c'],by rw[eP];simp⟩
    .exact⟨#[],by rw[old b _ e hb];simp⟩
   .exact(hm.extBut hx hPL).push _
   .by_cases hbf:b=h'.objs.size
    .subst hbf;rw[ef] at e;cases e;exact BC ⟨dM,_,wb,c1,c2,dC _ rfl⟩
    .by_cases V6:b=c'
     .subst V6;rw[ec] at e;cases e;refine E9 ?_;obtain⟨c₂,oc,vs,t,e2,Ui,r⟩:=Wp;exact⟨c₂,oc,vs,t,e2,cR _ Ui,r⟩
     .by_cases Wq:b=P
      .subst Wq;rw[eP] at e;cases e;exact cR _ htb
      .rw[eo b Wq V6 hbf] at e;refine(I.bS b o e).pT (fun d u hd q=>IY d u ?_ q) (fun d q=>old d _ q fun z=>by rw[z,hP] at q;cases q) fun d xs q=>old d _ q fun z=>by rw[z,hP] at q;cases q
       rintro rfl;rcases hd with z|z
       .exact Wq z.symm
       .rw[hP] at z;cases z
  exact⟨.ref h'.objs.size,H2,I2,rfl,h _ c' H2 (.inr ⟨c',eP,ec⟩) old ec ef⟩
 .-- again
  have Q0:s.heap.get? P=some (PySem.W.tabObj #[rawInt lp.line,rawInt lp.col,.ref c']):=I.bS P _ hP;refine PySem.W.kla_makeFunctionHit (mg:=X.mg) ecl I.ok.glob I.Lu C.code (C.hd.keeps I.bk) Q0 xM Dc (C.at I hP) fun wb h' tk hk IX=>?_;have nf:H h'.objs.size=none:=I.bS.fresh IX
  let H2:Hp:=upd H h'.objs.size (rF h'.objs.size (X.env.qual++"<lambda>") params body scope X.env.cells c')
  have ef:H2 h'.objs.size=some (rF h'.objs.size (X.env.qual++"<lambda>") params body scope X.env.cells c'):=af;have old:∀b o,H b=some o->H2 b=some o:=fun b o e=>by
   show upd _ _ _ _=_;rw[ak (ai e nf)];exact e
  have IY:∀b o,s.heap.get? b=some o->(h'.push (PySem.W.kla_obj "<lambda>" (X.env.qual++"<lambda>") params body scope dM ((X.mg "__name__").getD .none) c' wb)).get? b=some o:=fun b o e=>cR _ (hk b o e);have I2:aQ X ae σ H2 { s with heap:=h'.push (PySem.W.kla_obj "<lambda>" (X.env.qual++"<lambda>") params body scope dM ((X.mg "__name__").getD .none) c' wb),toks:=tk }:=by
   refine I.step (g':=s.gens) (d':=s.drawn) (ch:=[]) (fun _ z=>absurd z (by simp)) (fun b o _ _ _ e n=>IY b o e) (fun b o _ _ _ e n=>⟨o.slots,IY b o e⟩)
    (fun b o _ e n=>?_) (fun b o _ e=>⟨o,IY b o e⟩) (fun b xs e=>old b _ e) (fun b o u e=>old b _ e) (fun b ps e=>⟨#[],by rw[old b _ e];simp⟩) (fun m hm=>(hm.keeps hk).push _) (I.bS.laid IY IX (BC ⟨dM,_,wb,c1,c2,dC _ rfl⟩)) I.bare
   .show upd _ _ _ _=_;rw[ak (bg (bT (hsz b o e) IX))];exact n
  exact⟨.ref h'.objs.size,H2,I2,rfl,h _ c' H2 (.inr ⟨c',old _ _ hP,old _ _ Es⟩) (fun b o e _=>old b o e) (old _ _ Es) ef⟩
end
def Fa(X:Cx)(id:String)(ks:List Str)(r:St->List V->List V->Hp->VK->Prop):Prop:=
 ∀ (ae:List (Addr×Obj)) (s:Shared) (σ:St) (H:Hp) (vs zs:List V) (us ws:List Value) (Q:VK),aQ X ae σ H s->aY vs us->aY zs ws->r σ vs zs H Q->
  wpAny (model X.prog X.w) X.A (call (.builtin id) us (ks.zip ws)) (EP X ae σ Q) X.xe s
def Wr(r:St->List V->List V->Hp->VK->Prop)(t tk:TA):TE:=fun σ H Q=>t σ H fun vs H1=>tk σ H1 fun zs H2=>r σ vs zs H2 Q
section
variable {X:Cx} {x:Str} {p pos:Pos} {e:Expr} {es:List Expr} {EK:List Keyword} {t tk:TA} {id:String} {ks:List Str} {r:St->List V->List V->Hp->VK->Prop}
theorem Dd(hc:Fa X id ks r)(hg:Gl X x)(hm:X.mg x=none)(hv:bootBuiltins x=some (.builtin id))(ha:PA X (e::es) t)(hkw:PK X EK tk)(hn:x≠"__name__":=by decide)(CQ:(x==("__debug__":Str))=false:=by decide)(hks:(backToKw pos (keywordEach EK X.env)).filterMap (·.1)=ks:=by rfl)(he:backTo pos (starEach (e::es) X.env)=(false,eval e X.env)::backTo pos (starEach es X.env):=by rfl)(Al:(backTo pos (starEach (e::es) X.env)).any (·.1)=false:=by rfl)(tI:(backToKw pos (keywordEach EK X.env)).all (·.1.isSome)=true:=by rfl)(M3:(backToKw pos (keywordEach EK X.env)).any (·.1.isNone)=false:=by rfl):PE X (.Call (.Name x p) (e::es) EK pos) (Wr r t tk):=by
 intro ae s σ H Q I h;refine l6 (kE I hg hm hv ?_ hn CQ);refine PyProof.Rows.callWith_kw (cJ (ha pos ae s σ H _ I h) fun us s1 ⟨vs,H1,I1,r1,q1⟩=>?_) he Al tI M3;refine cJ (hkw pos ae s1 σ H1 _ I1 q1) fun ws s2 ⟨zs,H2,I2,rz,q2⟩=>?_;rw[hks];exact hc ae s2 σ H2 vs zs us ws Q I2 r1 rz q2
end
def M5(za zb:Int)(ns out:List Int):Prop:=∃ps:List (Int×Int),ps.Perm (ns.map fun z=>((z-za) % zb,z))/\out=ps.map (·.2)/\ps.Pairwise fun p q=>p.1<=q.1
def M6(X:Cx)(qual:Str)(params:Arguments)(body:Expr)(scope:Scope)(ia ib:Nat):St->List V->List V->Hp->VK->Prop:=fun σ vs zs H Q=>
 ∃ (l f c:Addr) (ns:List Int) (za zb:Int),vs=[.ref l]/\zs=[.ref f]/\aU X.K H l (ns.map V.int)/\ns.length<64/\H f=some (rF f qual params body scope X.env.cells c)/\H c=some (pJ c qual)/\
  σ[ia]?=some (some (.int za))/\σ[ib]?=some (some (.int zb))/\0<zb/\∀ (r:Addr) (out:List Int),H r=none->M5 za zb ns out->Q (.ref r) (upd H r (.lst (out.map V.int)))
theorem uo:∀ {ns:List Int} {vs:List Value},aY (ns.map V.int) vs->IntsAre vs ns
 |[],_,.nil=>.nil
 |_::_,_,.cons ⟨t,e⟩ r=>by subst e;exact .cons _ t (uo r)
structure Q3(X:Cx)(qual:Str)(params:Arguments)(body:Expr)(scope:Scope)(y a b:Str)(ia ib:Nat):Prop where
 bd:∃p1 p2 p3 p4 p5,body=.BinOp (.BinOp (.Name y p1) .Sub (.Name a p2) p3) .Mod (.Name b p4) p5
 bind:∀dM pm c wb v,bindArgs (PySem.W.kla_fn "<lambda>" qual params body scope dM pm (.ref c) wb) ⟨[v],[]⟩=pure [(y,v)]
 na:X.N[ia]?=some a
 nb:X.N[ib]?=some b
 ca:X.env.scope.names.lookup a=some .cell
 cb:X.env.scope.names.lookup b=some .cell
 ly:scope.names.lookup y=some .local
 fa:scope.names.lookup a=some .free
 fb:scope.names.lookup b=some .free
 ma:(a,NameKind.free)∈scope.names
 mb:(b,NameKind.free)∈scope.names
 wc:∀z∈scope.names,z.2≠.cell
 kind:scope.kind=.function
 co:scope.isCoroutine=false
 gen:scope.isGenerator=false
 dy:(y==("__debug__":Str))=false
 da:(a==("__debug__":Str))=false/\(a==("__classdict__":Str))=false
 db:(b==("__debug__":Str))=false/\(b==("__classdict__":Str))=false
theorem Az(S:Q3 X qual params body scope y a b ia ib)(hr:cD k X.A):
  Fa X "sorted" ["key"] (M6 X qual params body scope ia ib):=by
 intro ae s σ H vs zs us ws Q I r rz h;obtain⟨l,f,c,ns,za,zb,rfl,rfl,hl,h64,hf,hc,sa,sb,hb0,q⟩:=h;obtain⟨u1,rfl,r1⟩:=r.one;obtain rfl:u1=Value.ref l:=r1;obtain⟨w1,rfl,rw1⟩:=rz.one;obtain rfl:w1=Value.ref f:=rw1;obtain⟨its,rv,pl,hz⟩:=I.list hl;have hI:=uo rv;obtain⟨m,F⟩:=I.fr;obtain⟨p1,p2,p3,p4,p5,rfl⟩:=S.bd;obtain⟨dM,pm,wb,c1,c2,MU⟩:=(I.bS f _ hf).1;have Ws:s.heap.CodeRec (.ref c) qual:=(I.bS c _ hc).1;obtain⟨m',ZP,hlk⟩:=I.loc;have Q4:∃ca ta,dM.lookup a=some ca/\s.heap.IsCell ca (some (.int za ta)):=by
  obtain⟨u,⟨ta,rfl⟩,lk⟩:=hlk ia a (.int za) S.na sa (.inr (.inl S.ca));obtain⟨ca,e1⟩:=c2 a S.ma;rcases lk with ⟨z,_⟩|⟨_,ca',e2,e3⟩
  .have z':X.env.scope.names.lookup a=some .local:=z;rw[S.ca] at z';cases z'
  .have e4:=c1 a ca e1;rw[e2] at e4;cases e4;exact⟨ca,ta,e1,e3⟩
 have Q5:∃cb tb,dM.lookup b=some cb/\s.heap.IsCell cb (some (.int zb tb)):=by
  obtain⟨u,⟨tb,rfl⟩,lk⟩:=hlk ib b (.int zb) S.nb sb (.inr (.inl S.cb));obtain⟨cb,e1⟩:=c2 b S.mb;rcases lk with ⟨z,_⟩|⟨_,cb',e2,e3⟩
  .have z':X.env.scope.names.lookup b=some .local:=z;rw[S.cb] at z';cases z'
  .have e4:=c1 b cb e1;rw[e2] at e4;cases e4;exact⟨cb,tb,e1,e3⟩
 obtain⟨ca,ta,ea,ha⟩:=Q4;obtain⟨cb,tb,eb,hb⟩:=Q5;have Uv:∀b' (o:Obj),s.heap.get? b'=some o->(∀es ep,o.data≠.dict es ep)->b'≠X.env.locals:=fun b' o e d z=>by
  obtain⟨o',es,ep,e',d',_⟩:=F.ns;rw[z,e'] at e;cases e;exact d _ _ d'
 have len:(ns.map fun z=>(z-za) % zb).length=its.length:=by rw[aF,hI.length]
 refine ksk_sorted (b:=false) (f:=.ref f) (kz:=ns.map fun z=>(z-za) % zb) F Eo pl.isList len (by rw[hI.length];exact h64) (ksk_s1 _ _) (fun x=>ksk_l1 _ _) (fun x=>ksk_t1 _ _) ?_ ?_
 .-- one key
  intro i v k hv hk h tk own F' N';have at_:∀b' u,b'≠X.env.locals->s.heap.get? b'=some u->h.get? b'=some u:=fun b' u ji e=>by
   cases z:X.base.get? b' with
   |some o=>
    have:=I.bk b' o z;rw[e] at this;cases this;exact F'.keep b' _ z
   |none=>exact(N' (b',u) (iE _ (kC ji z e))).1
  have Wt:=at_ f _ (Uv f _ MU (by intro es ep z;cases z)) MU;have Wu:h.CodeRec (.ref c) qual:=by
   obtain⟨c0,o,vs0,t0,e0,ho,hd,hv0⟩:=Ws;refine⟨c0,o,vs0,t0,e0,at_ _ _ (Uv _ _ ho (by rw[hd];intro es ep z;cases z)) ho,hd,hv0⟩
  have V0:h.IsCell ca (some (.int za ta)):=by
   obtain⟨o,ho,hd⟩:=ha;exact⟨o,at_ _ _ (Uv _ _ ho (by rw[hd];intro es ep z;cases z)) ho,hd⟩
  have pK:h.IsCell cb (some (.int zb tb)):=by
   obtain⟨o,ho,hd⟩:=hb;exact⟨o,at_ _ _ (Uv _ _ ho (by rw[hd];intro es ep z;cases z)) ho,hd⟩
  obtain⟨z,tz,rfl,rfl⟩:∃z tz,v=.int z tz/\k=(z-za) % zb:=by
   obtain⟨n,t,e⟩:=hI.all v (eB hv);refine⟨n,t,e,?_⟩;rw[bp] at hk;have hn:=hI.nums;have e1:(its.map numOf)[i]?=some n:=by rw[bp,hv,e];rfl
   rw[hn] at e1;rw[e1] at hk;exact(ba hk).symm
  have Fb:X.A.in1.in1.depth<recursionLimit:=by
   have:=hr.dp;show X.A.depth<_;lia
  refine oh (PySem.W.kla_callFunE Fb Wt rfl S.co S.gen rfl Wu ?_);rw[S.bind];refine wpAny_pure (wpAny_newFunctionEnv S.wc (fun x hx=>by rw[cH.mp hx];exact S.ly) (fun h₁ M7 Q6=>⟨((I.ok.mod.nolimit).keeps F'.keep).fresh _ Q6,?_⟩) S.kind);have M8:∀b o,h.get? b=some o->h₁.get? b=some o:=fun b o e=>Q6.extBut b o (bg (bn e)) (cR _ e);have ha₁:=V0.keeps M8;have hb₁:=pK.keeps M8;refine PySem.W.kla_codeExpr ?_;refine wpAny_BinOp (wpAny_BinOp ?_);refine om (zK S.kind S.ly M7 (v:=.int z tz) (by simp) ?_) S.dy;refine om (zP S.kind S.fa ea ha₁ ?_ S.da.2) S.da.1;refine sub_int ?_;refine om (zP S.kind S.fb eb hb₁ ?_ S.db.2) S.db.1;refine mod_int' (by lia) ?_;rw[Ef _ (by lia)];refine KskEnd.intro (news':=jy X.base s.heap X.env.locals++own) ⟨F'.ns.keeps M8,fun b o e=>M8 b o (F'.keep b o e),F'.above⟩ (fun p hp=>⟨M8 _ _ (N' p hp).1,(N' p hp).2⟩) fun p hp=>hp
 .-- the list
  intro D h' tk out cc F' N' dL Wv;have hD:=tJ I N' dL;obtain⟨ps,hp,ho,hs⟩:=Wv;have IK:∀p∈ps,∃n t,p.2=.int n t:=fun p HF=>by
   have:=hp.mem_iff.mp HF;exact hI.all _ (oa this).2
  have Ww:((ns.map fun z=>(z-za) % zb).zip its).map (fun p=>(p.1,numOf p.2))=ns.map fun z=>((z-za) % zb,z):=by
   have hn:=hI.nums;rw[<-hn];have go:∀ (l:List Value),((((l.map numOf).map fun z=>(z-za) % zb).zip l).map fun p=>(p.1,numOf p.2))=(l.map numOf).map fun z=>((z-za) % zb,z):=by
    intro l;induction l with
    |nil=>rfl
    |cons x l ih=>simp only[cM,List.zip_cons_cons,ih]
   exact go its
  have EQ:aY ((ps.map fun p=>(p.1,numOf p.2)).map (fun p=>V.int p.2)) (ps.map Prod.snd):=by
   have go:∀ (l:List (Int×Value)),(∀p∈l,∃n t,p.2=.int n t)->aY ((l.map fun p=>(p.1,numOf p.2)).map (fun p=>V.int p.2)) (l.map Prod.snd):=by
    intro l;induction l with
    |nil=>intro _;exact .nil
    |cons x l ih=>
     intro hx;refine .cons ?_ (ih fun p hp=>hx p (cN _ hp));obtain⟨n,t,e⟩:=hx x cA;show ∃t,x.2=Value.int (numOf x.2) t;rw[e];exact⟨t,rfl⟩
   exact go ps IK
  have Df:M5 za zb ns ((ps.map fun p=>(p.1,numOf p.2)).map (·.2)):=by
   refine⟨ps.map fun p=>(p.1,numOf p.2),?_,rfl,?_⟩
   .rw[<-Ww];exact hp.map _
   .refine jO.mpr (hs.imp fun {p q} z=>?_);simpa using z
  have Wx:h'.get? D=some (seqObj "list" out cc):=(N' _ cA).1;have I2:aQ X ae σ (upd H D (.lst (((ps.map fun p=>(p.1,numOf p.2)).map (·.2)).map V.int))) { s with heap:=h',toks:=tk }:=by
   refine I.QP F F' (fun p hp=>N' p (cN _ hp)) hD ⟨?_,ps.map Prod.snd,cc,?_,?_⟩
   .have h1:=hp.length_eq;rw[List.length_zip,len,Nat.min_self] at h1;simp only[aF];rw[h1,hI.length];exact bj (eC h64) (by decide)
   .have ev:=EQ;simp only[fV] at ev |-;exact ev
   .rw[Wx,<-ho]
  exact⟨.ref D,_,I2,rfl,q D _ (I.bS.vW hD) Df⟩
def tK(mg:Str->Option Value)(base:Heap):Prop:=∃bm o,mg "__builtins__"=some (.ref bm)/\bm≠builtinsNs/\bm≠mainGlobals/\base.get? bm=some o/\o.cls=.type "module"/\o.dict=some builtinsNs/\o.data=.plain
def BF(ts:List Addr)(H:Hp):Prop:=(∀P∈ts,H P=some (.oq #[]))/\∀b,H b=none\/(b∈ts/\H b=some (.oq #[]))\/∃o xs,H b=some (.jh o (.lst xs))
theorem Dg{P:Program}{w:World}{K:PySem.W.Frag}{mg mb:Str->Option Value}{CX:xr}{k:Nat}{fa a:Addr}{fd:FuncData}{x:Str}{sp:Sp}{s₁:Shared}{vs:List Value}{ns:List Int}{ts:List Addr}(KX:K.In s₁.heap)(M7:s₁.heap.Ns mainGlobals mg)(hb:s₁.heap.Ns builtinsNs mb)(hbb:∀x:Str,x≠"__name__"->mb x=bootBuiltins x)(Wy:s₁.heap.NoLimit)(hg:s₁.gens=#[])(hbm:tK mg s₁.heap)(pL:∀P∈ts,s₁.heap.get? P=some (PySem.W.tabObj #[]))(tW:∀P∈ts,∃c,PySem.W.codeHdIn K c P=true)(Wz:∀P∈ts,K.lookup P=none)(ha:s₁.heap.get? a=some { cls:=.type "list",data:=.seq vs.toArray })(hi:IntsAre vs ns)(hl:ns.length<=sizeLine)(hr:cD k callerA)(F:∀base:Heap,K.In base->base.Ns mainGlobals mg->tK mg base->bC P w K mg base CX k fa fd [x] sp)(Q7:∀ (s:Shared) (u:Value),BindsTo s fd ⟨[u],[]⟩ [(x,u)])(HE:∀H:Hp,BF ts H->aU K H a (ns.map V.int)->sp [.ref a] H (fun v _=>v=.bl true) fun _ _ _=>False)(WA:∀H e s',CX [] H s₁ (fun _ _ _=>False) e s'->False):
  codeAny (model P w) callerA (.call (.ref fa) ⟨[.ref a],[]⟩) (fun r s'=>r=.ok (.ret (.bool true))/\OldK s₁.heap s'.heap/\s'.os=s₁.os/\AllBare s'.gens) s₁:=by
 have rv:=uf hi;have WB:=hi.length;have hat:a∉ts:=fun z=>by
  have:=pL a z;rw[ha] at this;cases this
 have Q8:∀H:Hp,BF ts H->aU K H a (ns.map V.int)->jx P w H s₁.heap->(∀b,H b≠none->b=a\/b∈ts)->(H a≠none->K.lookup a=none)->
   codeAny (model P w) callerA (.call (.ref fa) ⟨[.ref a],[]⟩) (fun r s'=>r=.ok (.ret (.bool true))/\OldK s₁.heap s'.heap/\s'.os=s₁.os/\AllBare s'.gens) s₁:=by
  intro H hO hS bS hA hK;have we:∀ {b:Addr} {o:Obj},s₁.heap.get? b=some o->H b=none->(tu s₁.heap H).get? b=some o:=fun e n=>En e n;have PB:∀ {b:Addr} {o:Obj},s₁.heap.get? b=some o->(∀v n,o.data≠.seq v n)->(∀v,o.data≠.fields v)->H b=none:=fun {b o} e d1 d2=>by
   cases q:H b with
   |none=>rfl
   |some u=>
    rcases hA b (by rw[q];simp) with e'|e'
    .subst e';rw[ha] at e;cases e;exact absurd rfl (d1 _ _)
    .rw[pL b e'] at e;cases e;exact absurd rfl (d2 _)
  have Uw:∀ {b:Addr} {m:Str->Option Value},s₁.heap.Ns b m->(tu s₁.heap H).Ns b m:=fun {b m} ⟨o,es,ep,e,d,r⟩=>⟨o,es,ep,we e (PB e (by rw[d];intro v n z;cases z) (by rw[d];intro v z;cases z)),d,r⟩
  have hKb:K.In (tu s₁.heap H):=fun b o e=>we (KX b o e) (by
   cases q:H b with
   |none=>rfl
   |some u=>
    rcases hA b (by rw[q];simp) with e'|e'
    .subst e';rw[hK (by rw[q];simp)] at e;cases e
    .rw[Wz b e'] at e;cases e)
  have hB:tK mg (tu s₁.heap H):=by
   obtain⟨bm,o,b1,b2,b3,b4,b5,b6,b7⟩:=hbm;exact⟨bm,o,b1,b2,b3,we b4 (PB b4 (by rw[b7];intro v n z;cases z) (by rw[b7];intro v z;cases z)),b5,b6,b7⟩
  have hM:Mod K mg (tu s₁.heap H):=⟨hKb,Uw M7,⟨mb,Uw hb,hbb⟩,let ⟨mc,h1,h2⟩:=Wy;⟨mc,Uw h1,h2⟩⟩
  have e0:xt P w K mg (tu s₁.heap H) callerA [] s₁ H:=⟨rfl,hM,fun b o e=>Ij e,vw (CI _ _),trivial,fun b hb=>absurd (show b∈([]:List Addr) from hb) (by simp),bS,.of_eq hg⟩
  refine mn ((F _ hKb (Uw M7) hB).run callerA [] s₁ H ⟨[.ref a],[]⟩ [.ref a] [.ref a] _ _ hr e0 (Q7 s₁ (.ref a)) (.cons rfl .nil) (HE H hO hS)) fun r s' h=>?_;cases r with
  |error e=>exact(WA H e s' h).elim
  |ok fl=>
   cases fl with
   |next=>exact False.elim h
   |brk=>exact False.elim h
   |cont=>exact False.elim h
   |ret u=>
    obtain⟨v,H',os,bare,un,Q9,r',q⟩:=h;have q':v=.bl true:=q;subst q';obtain rfl:u=Value.bool true:=r';refine⟨rfl,⟨fun b o e=>?_,fun b o e=>un.there b o e (by simp)⟩,os,bare⟩;cases q:H b with
    |none=>exact .inl (un.keep b o e q (by intro z;exact absurd (show b∈([]:List Addr) from z) (by simp)) (by simp))
    |some u=>
     rcases hO.2 b with z|⟨zt,z⟩|⟨ob,xs,z⟩
     .rw[q] at z;cases z
     .obtain⟨more,z2⟩:=un.oz b _ z;have e1:=pL b zt;rw[e] at e1;cases e1;have e2:s'.heap.get? b=some { cls:=.none,data:=.fields (#[]++more) }:=Q9 b _ z2;obtain⟨c,hc⟩:=tW b zt;obtain⟨oc,vsc,_,_,_,_,_,_,_,g1,g2,g3,g4,_⟩:=PySem.W.codeHd_of_K KX hc;exact .inr (.inl ⟨⟨c,oc,vsc,g1,g2,g3,g4⟩,rfl,#[],more,rfl,e2⟩)
     .have z2:=un.oy b ob _ z;obtain⟨e1,_⟩:=bS b _ z;obtain⟨e2,_⟩:=Q9 b _ z2;rw[e] at e1;cases e1;exact .inl e2
 have aab:∀ (H:Hp),(∀P∈ts,H P=some (.oq #[]))->True:=fun _ _=>trivial
 classical
 cases hk:K.lookup a with
 |some o=>
  have e:=KX a o hk;rw[ha] at e;cases e;refine Q8 (fun b=>if b∈ts then some (.oq #[]) else none) ⟨fun P hP=>aq hP,fun b=>?_⟩ (.inr ⟨_,vs.toArray,_,hk,rfl,rfl,rfl,by rw[dj,WB];exact hl,by simpa using rv⟩) (fun b u z=>?_) (fun b z=>?_) fun z=>absurd (ap hat) z
  .by_cases hb:b∈ts
   .exact .inr (.inl ⟨hb,aq hb⟩)
   .exact .inl (ap hb)
  .by_cases hb:b∈ts
   .have z':=(aq hb).symm.trans z;cases z';exact pL b hb
   .have z':=(ap hb).symm.trans z;cases z'
  .by_cases hb:b∈ts
   .exact .inr hb
   .exact absurd (ap hb) z
 |none=>
  refine Q8 (fun b=>if b=a then some (.jh { cls:=.type "list",data:=.seq vs.toArray } (.lst (ns.map V.int))) else if b∈ts then some (.oq #[]) else none) ⟨fun P hP=>?_,fun b=>?_⟩ (.inl (.inr ⟨{ cls:=.type "list",data:=.seq vs.toArray },aq rfl⟩)) (fun b u z=>?_) (fun b z=>?_) fun _=>hk
  .have:P≠a:=fun z=>hat (z ▸ hP);show (if P=a then _ else if P∈ts then _ else _)=_;rw[ap this,aq hP]
  .by_cases hb:b=a
   .exact .inr (.inr ⟨_,_,aq hb⟩)
   .by_cases ht:b∈ts
    .exact .inr (.inl ⟨ht,by show (if b=a then _ else if b∈ts then _ else _)=_;rw[ap hb,aq ht]⟩)
    .exact .inl (by show (if b=a then _ else if b∈ts then _ else _)=_;rw[ap hb,ap ht])
  .by_cases hb:b=a
   .have z':=(aq hb).symm.trans z;cases z';subst hb;exact⟨ha,by rw[aF];exact hl,vs,_,rv,ha⟩
   .have z1:(if b∈ts then some (HO.oq #[]) else none)=some u:=(ap hb).symm.trans z;by_cases ht:b∈ts
    .rw[aq ht] at z1;cases z1;exact pL b ht
    .rw[ap ht] at z1;cases z1
  .by_cases hb:b=a
   .exact .inl hb
   .by_cases ht:b∈ts
    .exact .inr ht
    .exact absurd (by show (if b=a then _ else if b∈ts then _ else _)=_;rw[ap hb,ap ht]) z
theorem Fc{l:PySem.W.OpenLaw}{n k:Nat}{q:Program}{ue:List Str}{XP:(Str->Option Value)->Heap->Prop}{YP:World->Heap->Prop}{d:DefRec}{K:Params->PySem.W.Frag}{CX:World->xr}{sp:World->Sp}{x:Str}{ts:List Addr}(hn:l.most=some n)(Uq:n<=sizeLine)(QE:d.params.defaults=[])(hr:cD k callerA)(hY:∀ (w:World) (h:Heap),YP w h->(K w.params).In h)(hT:∀ (w:World) (h:Heap),YP w h->∀P∈ts,h.get? P=some (PySem.W.tabObj #[]))(tW:∀ (w:World),∀P∈ts,∃c,PySem.W.codeHdIn (K w.params) c P=true)(Wz:∀ (w:World),∀P∈ts,(K w.params).lookup P=none)(F:∀ (w:World) (mg:Str->Option Value) (fa:Addr) (h:Heap),(K w.params).In h->h.Ns mainGlobals mg->mg d.name=some (.ref fa)->
   ∃fd:FuncData,(∀ (s:Shared) (u:Value),BindsTo s fd ⟨[u],[]⟩ [(x,u)])/\
    ∀base:Heap,(K w.params).In base->base.Ns mainGlobals mg->tK mg base->bC l.prog w (K w.params) mg base (CX w) k fa fd [x] (sp w))(HE:∀ (w:World) (H:Hp) (a:Addr) (ns:List Int),ns.length<=n->BF ts H->aU (K w.params) H a (ns.map V.int)->sp w [.ref a] H (fun v _=>v=.bl true) fun _ _ _=>False)(WA:∀ (w:World) (H:Hp) (s:Shared) (e:Value) (s':Shared),CX w [] H s (fun _ _ _=>False) e s'->False):
  PySem.W.WalkO q ue XP YP l.row.toRowW d [] (fun f vs=>PySem.call f vs):=by
 refine Z0.xA hn QE fun w s₀ s₁ mg mb fa o pm cd m5 a vs ns G Y ho hd aag QF MT ER eW hg=>?_;have KX:=hY w _ Y;obtain⟨fd,hb,hF⟩:=F w mg fa _ KX G.T.g QF;have hB:tK mg s₁.heap:=by
  obtain⟨bm,ob,b1,b2,b3,b4,b5,b6⟩:=G.T.bmain;refine⟨bm,ob,b1,b2,fun z=>?_,b3,b4,b5,b6⟩;obtain⟨o',es,ep,e,Mr,_⟩:=G.T.g;rw[z,e] at b3;cases b3;rw[Mr] at b6;cases b6
 exact Dg KX G.T.g G.T.b G.T.builtins G.T.nolimit hg hB (hT w _ Y) (tW w) (Wz w) MT ER (bj eW Uq) hr hF hb (fun H hO hS=>HE w H a ns eW hO hS) fun H e s'=>WA w H s₁ e s'
structure xN(K:PySem.W.Frag)(x qual:Str)(st:Stmt)(f:Addr)(fd:FuncData)(c:Addr):Prop where
 ex:∃ (oc:Value) (od:Option Addr) (kV m5 pm:Value) (an:Option Addr) (ct:Value) (yX:Array (Option Value)),
  fd=PySem.W.fnOf x qual (dt st) (cz st) (am st) .none kV m5 pm an (.ref c) ct/\K.lookup f=some ⟨oc,od,.func fd,yX⟩/\PySem.W.codeIn K (.ref c) qual=true
 kp:PySem.W.keepIn K (.ref f)=true
theorem xN.fun{K:PySem.W.Frag}{x qual:Str}{st:Stmt}{f:Addr}{fd:FuncData}{c:Addr}(F:xN K x qual st f fd c):fW K x qual st f fd:=by
 obtain⟨oc,od,kV,m5,pm,an,ct,yX,e,lk,tW⟩:=F.ex;exact⟨⟨oc,od,kV,m5,pm,an,_,ct,yX,e,lk,tW⟩,F.kp⟩
section
variable {P:Program} {w:World} {K:PySem.W.Frag} {mg:Str->Option Value} {base:Heap}
theorem xN.ok{x qual:Str}{st:Stmt}{f:Addr}{fd:FuncData}{c:Addr}{N ps:List Str}{k:Nat}{sp:Sp}(F:xN K x qual st f fd c)(S:aJ N ps (am st))(len:∀vs H Q E,sp vs H Q E->vs.length=ps.length)(xv:∀ (A:Around) (outer:List Env) (s:Shared) (H:Hp) (vs:List V) (Q:VK) (E:XK),cD k (A.deeper (envOfC qual (am st) s.heap.objs.size f (.ref c)))->sp vs H Q E->
   ∃t,z8 (vL bi P w K mg base N qual (am st) f (.ref c) A outer s H E).Lb (cz st) t/\t { nx:=fun _ H'=>Q .bR H',rt:=Q } (start N vs) H):bC P w K mg base bi (k+1) f fd ps sp:=by
 obtain⟨oc,od,kV,m5,pm,an,ct,yX,rfl,lk,tW⟩:=F.ex;refine Lf lk tW S len fun A outer s H vs Q E hr HE=>?_;obtain⟨t,h,q⟩:=xv A outer s H vs Q E hr HE;exact⟨t,h.Lb,q⟩
theorem IZ{x qual:Str}{st:Stmt}{f c:Addr}{oc:Value}{od an:Option Addr}{yX:Array (Option Value)}{kV m5 pm ct:Value}(l:K.lookup f=some ⟨oc,od,.func (PySem.W.fnOf x qual (dt st) (cz st) (am st) .none kV m5 pm an (.ref c) ct),yX⟩)(tW:PySem.W.codeIn K (.ref c) qual=true)(kp:PySem.W.keepIn K (.ref f)=true):xN K x qual st f (PySem.W.fnOf x qual (dt st) (cz st) (am st) .none kV m5 pm an (.ref c) ct) c:=⟨⟨oc,od,kV,m5,pm,an,ct,yX,rfl,l,tW⟩,kp⟩
theorem BG(kb:K.In base)(hb:tK mg base)(hc:PySem.W.codeHdIn K c P'=true):
  IW (vL CX P w K mg base N qual scope f (.ref c) A outer s H E).Lb c P':=⟨rfl,PySem.W.codeHd_of_K kb hc,hb⟩
end
def qw(sc WC:Scope)(y:Str×NameKind):Bool:=match y.2 with
 |.cell=>(match sc.names.lookup y.1 with|some .cell=>true|_=>false)
 |.local=>(match sc.names.lookup y.1 with|some .local=>true|_=>false)
 |.free=>(match WC.names.lookup y.1 with|some .cell=>true|some .free=>true|_=>false)
 |_=>true
def Fd(NB:List Str)(src:List (Option Nat))(sc:Scope)(N:List Str)(i:Nat):Bool:=match NB[i]?,src[i]? with
 |some x,some (some j)=>(N[j]?==some x)&&(match sc.names.lookup x with|some .free=>true|_=>false)
 |_,_=>true
def BI(sc:Scope):Bool:=match sc.kind with|.function=>true|_=>false
def Fe(NB:List Str)(src:List (Option Nat))(sc WC:Scope)(N:List Str):Bool:=
 BI sc&&decide NB.Nodup&&(src.length==NB.length)&&(sc.names.all (qw sc WC))&&(List.range NB.length).all (Fd NB src sc N)
theorem bY(h:Fe NB src sc X.env.scope X.N=true):io NB src sc X:=by
 unfold Fe at h;simp only[cX,l7,gZ,ie] at h;obtain⟨⟨⟨⟨h1,h2⟩,h3⟩,h4⟩,h5⟩:=h;refine⟨?_,h2,h3,fun y hy z=>?_,fun y hy z=>?_,fun y hy z=>?_,fun i x j e1 e2=>?_⟩
 .unfold BI at h1;split at h1
  .assumption
  .cases h1
 .have:=h4 y hy;obtain⟨n,k⟩:=y;obtain rfl:k=.cell:=z;dsimp only[qw] at this |-;split at this
  .assumption
  .cases this
 .have:=h4 y hy;obtain⟨n,k⟩:=y;obtain rfl:k=.local:=z;dsimp only[qw] at this |-;split at this
  .assumption
  .cases this
 .have:=h4 y hy;obtain⟨n,k⟩:=y;obtain rfl:k=.free:=z;dsimp only[qw] at this |-;split at this
  .exact .inl (by assumption)
  .exact .inr (by assumption)
  .cases this
 .have hi:i<NB.length:=(cI.mp e1).1;have:=h5 i (bu.mpr hi);unfold Fd at this;rw[e1,e2] at this;simp only[cX,gZ] at this;refine⟨this.1,?_⟩;have t2:=this.2;split at t2
  .assumption
  .cases t2
theorem eG{K:PySem.W.Frag}{a D:Addr}{xs:List V}{g:TG}{tt:TT}{te:TE}{fin:Hp->Prop}{σB:St}{H0:Hp}(Pv:Nat->List V->St->Hp->Prop)(h0:Pv 0 [] σB H0)(hl:∀i ys σ H,i<=xs.length->Pv i ys σ H->aU K H a xs)(hs:∀i x ys σ H (Kt:V->St->Hp->Prop) (Kf:St->Hp->Prop),xs[i]?=some x->Pv i ys σ H->
   (∀v σ2 H4,H4 D=some (.lst ys)->ys.length<sizeLine->Pv (i+1) (ys++[v]) σ2 (upd H4 D (.lst (ys++[v])))->Kt v σ2 H4)->(∀σ2 H3,Pv (i+1) ys σ2 H3->Kf σ2 H3)->
   g x σ H fun σ2 H2=>tt σ2 H2 fun b H3=>if b=true then te σ2 H3 fun v H4=>Kt v σ2 H4 else Kf σ2 H3)(hd:∀ys σ H,Pv xs.length ys σ H->fin H):iG (EA K a) g tt te D fin σB H0:=by
 refine⟨fun i m σ H=>m=xs.length-i/\i<=xs.length/\∃ys,Pv i ys σ H,⟨xs.length,by simp,dG _,[],h0⟩,?_⟩;rintro i m σ H ⟨rfl,hi,ys,p⟩;have q:=hl i ys σ H hi p;by_cases dL:i<xs.length
 .refine .inr ⟨⟨xs,xs[i],q,by simp[dL]⟩,?_⟩;rintro x H' ⟨rfl,y⟩;exact hs i x ys σ _ (fun v σ2 H4=>∃ys,H4 D=some (.lst ys)/\ys.length<sizeLine/\∃m',m'<xs.length-i/\m'=xs.length-(i+1)/\i+1<=xs.length/\∃pY,Pv (i+1) pY σ2 (upd H4 D (.lst (ys++[v]))))
   (fun σ2 H3=>∃m',m'<xs.length-i/\m'=xs.length-(i+1)/\i+1<=xs.length/\∃pY,Pv (i+1) pY σ2 H3) (y xs q) p
   (fun v σ2 H4 z1 z2 z3=>⟨ys,z1,z2,_,by lia,rfl,dL,_,z3⟩) (fun σ2 H3 z=>⟨_,by lia,rfl,dL,_,z⟩)
 .have e:i=xs.length:=by lia
  subst e;exact .inl ⟨⟨xs,q,bf _⟩,hd ys σ H p⟩
theorem gf{lo:Int}{n:Nat}{D:Addr}{g:TG}{tt:TT}{te:TE}{fin:Hp->Prop}{σB:St}{H0:Hp}(Pv:Nat->List V->St->Hp->Prop)(h0:Pv 0 [] σB H0)(hs:∀i ys σ H (Kt:V->St->Hp->Prop) (Kf:St->Hp->Prop),i<n->Pv i ys σ H->
   (∀v σ2 H4,H4 D=some (.lst ys)->ys.length<sizeLine->Pv (i+1) (ys++[v]) σ2 (upd H4 D (.lst (ys++[v])))->Kt v σ2 H4)->(∀σ2 H3,Pv (i+1) ys σ2 H3->Kf σ2 H3)->
   g (.int (lo+i)) σ H fun σ2 H2=>tt σ2 H2 fun b H3=>if b=true then te σ2 H3 fun v H4=>Kt v σ2 H4 else Kf σ2 H3)(hd:∀ys σ H,Pv n ys σ H->fin H):iG (Ld lo n) g tt te D fin σB H0:=by
 refine⟨fun i m σ H=>m=n-i/\i<=n/\∃ys,Pv i ys σ H,⟨n,by simp,dG _,[],h0⟩,?_⟩;rintro i m σ H ⟨rfl,hi,ys,p⟩;by_cases dL:i<n
 .refine .inr ⟨dL,?_⟩;rintro x H' ⟨rfl,rfl⟩;exact hs i ys σ _ (fun v σ2 H4=>∃ys,H4 D=some (.lst ys)/\ys.length<sizeLine/\∃m',m'<n-i/\m'=n-(i+1)/\i+1<=n/\∃pY,Pv (i+1) pY σ2 (upd H4 D (.lst (ys++[v]))))
   (fun σ2 H3=>∃m',m'<n-i/\m'=n-(i+1)/\i+1<=n/\∃pY,Pv (i+1) pY σ2 H3) dL p
   (fun v σ2 H4 z1 z2 z3=>⟨ys,z1,z2,_,by lia,rfl,dL,_,z3⟩) (fun σ2 H3 z=>⟨_,by lia,rfl,dL,_,z⟩)
 .have e:i=n:=by lia
  subst e;exact .inl ⟨bf _,hd ys σ H p⟩
section
variable {κ:Type} [DecidableEq κ]
def gg(kvs:List (κ×V))(k:κ):Option V:=(kvs.find? fun kv=>decide (kv.1=k)).map (·.2)
def fN(kvs:List (κ×V))(k:κ)(v:V):List (κ×V):=
 if (kvs.any fun kv=>decide (kv.1=k))=true then kvs.map (fun kv=>if kv.1=k then (kv.1,v) else kv) else kvs++[(k,v)]
theorem gA{p:κ×V}{r:List (κ×V)}{k:κ}(e:p.1=k):gg (p::r) k=some p.2:=by simp[gg,me,e]
theorem gB{p:κ×V}{r:List (κ×V)}{k:κ}(e:¬ p.1=k):gg (p::r) k=gg r k:=by simp[gg,me,e]
theorem nq(k:κ):∀kvs:List (κ×V),(kvs.any fun kv=>decide (kv.1=k))=(gg kvs k).isSome
 |[]=>rfl
 |p::r=>by
  rw[kq];by_cases e:p.1=k
  .simp only[gA e,bE e,Bool.true_or,Option.isSome_some]
  .rw[gB e,dk e,Bool.false_or];exact nq k r
theorem oT(k j:κ)(y:V):∀kvs:List (κ×V),gg kvs k=none->gg (kvs++[(k,y)]) j=if j=k then some y else gg kvs j
 |[],_=>by
  by_cases e:k=j
  .rw[aq e.symm];exact gA (p:=(k,y)) e
  .rw[ap (fun z=>e z.symm)];exact gB (p:=(k,y)) e
 |p::r,hn=>by
  rw[List.cons_append];have hk:¬ p.1=k:=fun z=>by rw[gA z] at hn;cases hn
  rw[gB hk] at hn;have ih:=oT k j y r hn;by_cases e:p.1=j
  .rw[gA e,gA e,ap (fun z=>hk (e.trans z))]
  .rw[gB e,gB e,ih]
theorem iH(kvs:List (κ×V))(k:κ)(v:V):(fN kvs k v).length<=kvs.length+1:=by
 unfold fN;split
 .rw[aF];lia
 .rw[cu,cx,qX];lia
theorem nu{kvs:List (κ×V)}{k:κ}(v:V)(h:gg kvs k=none):fN kvs k v=kvs++[(k,v)]:=by
 unfold fN;rw[nq,h];exact ap (by decide)
theorem lE.oU(r:lE o u):o.isSome=u.isSome:=by
 cases o with
 |none=>cases u with
  |none=>rfl
  |some _=>exact(show False from r).elim
 |some _=>cases u with
  |none=>exact(show False from r).elim
  |some _=>rfl
theorem KV.val{kvs:List (κ×V)}{vs:List (κ×Value)}(r:KV kvs vs)(k:κ):lE (gg kvs k) (valueAt vs k):=by
 unfold KV at r;induction r with
 |nil=>exact True.intro
 |@cons p q ps qs h t ih=>
  obtain⟨h1,h2⟩:=h;by_cases e:p.1=k
  .have e':q.1=k:=h1.symm.trans e;have b:valueAt (q::qs) k=some q.2:=by simp[valueAt,me,e']
   rw[gA e,b];exact h2
  .have e':¬ q.1=k:=fun z=>e (h1.trans z);have b:valueAt (q::qs) k=valueAt qs k:=by simp[valueAt,me,e']
   rw[gB e,b];exact ih
theorem KV.any{kvs:List (κ×V)}{vs:List (κ×Value)}(r:KV kvs vs)(k:κ):(kvs.any fun kv=>decide (kv.1=k))=vs.any fun kv=>decide (kv.1=k):=by
 unfold KV at r;induction r with
 |nil=>rfl
 |cons h t ih=>rw[kq,kq,ih,h.1]
theorem KV.M9{kvs:List (κ×V)}{vs:List (κ×Value)}(r:KV kvs vs)(k:κ){y:V}{u:Value}(ry:bq y u):
  KV (kvs.map fun kv=>if kv.1=k then (kv.1,y) else kv) (vs.map fun kv=>if kv.1=k then (kv.1,u) else kv):=by
 unfold KV at r |-;induction r with
 |nil=>exact .nil
 |@cons p q ps qs h t ih=>
  rw[cM,cM];refine .cons ?_ ih;obtain⟨h1,h2⟩:=h;by_cases e:p.1=k
  .rw[aq e,aq (h1.symm.trans e)];exact⟨h1,ry⟩
  .rw[ap e,ap (fun z=>e (h1.trans z))];exact⟨h1,h2⟩
theorem KV.put{kvs:List (κ×V)}{vs:List (κ×Value)}(r:KV kvs vs)(k:κ){y:V}{u:Value}(ry:bq y u):KV (fN kvs k y) (stored vs k u):=by
 unfold fN stored;rw[r.any k];by_cases e:(vs.any fun kv=>decide (kv.1=k))=true
 .rw[aq e,aq e];exact r.M9 k ry
 .rw[ap e,ap e];exact Paired.snoc r ⟨rfl,ry⟩
theorem KV.keys{kvs:List (κ×V)}{vs:List (κ×Value)}(r:KV kvs vs):kvs.map (·.1)=vs.map (·.1):=by
 unfold KV at r;induction r with
 |nil=>rfl
 |cons h t ih=>rw[cM,cM,ih,h.1]
theorem KV.length{kvs:List (κ×V)}{vs:List (κ×Value)}(r:KV kvs vs):kvs.length=vs.length:=Paired.length r
end
theorem uq(r:bq (kV k) u):(bL P w).is k u=true:=by
 cases k with
 |inl i=>obtain⟨t,e⟩:=(show ∃t,u=Value.int i t from r);subst e;exact xb P w i t
 |inr x=>obtain⟨t,e⟩:=(show ∃t,u=Value.str x t from r);subst e;exact xc P w x t
theorem ur:∀ {ks:List dS} {us:List Value},aY (ks.map kV) us->ItemsAre (bL P w) ks us
 |[],_,r=>by rw[ii] at r;cases r;exact .nil
 |k::ks,_,r=>by
  rw[cM] at r;cases r with
  |cons h t=>exact .cons (uq h) (ur t)
abbrev KT(H:Hp):List (List dS×V)->List (List dS×Addr×Value)->Prop:=Paired fun p q=>p.1=q.1/\H q.2.1=some (.tup (p.1.map kV))/\bq p.2 q.2.2
theorem KT.val{H:Hp}{kvs:List (List dS×V)}{xs:List (List dS×Addr×Value)}(r:KT H kvs xs)(k:List dS):lE (gg kvs k) ((atKey xs k).map (·.2)):=by
 induction r with
 |nil=>exact True.intro
 |@cons p q ps qs h t ih=>
  obtain⟨h1,_,h2⟩:=h;by_cases e:p.1=k
  .have e':q.1=k:=h1.symm.trans e;have b:atKey (q::qs) k=some q.2:=by simp[atKey,me,e']
   rw[gA e,b];exact h2
  .have e':¬ q.1=k:=fun z=>e (h1.trans z);have b:atKey (q::qs) k=atKey qs k:=by simp[atKey,me,e']
   rw[gB e,b];exact ih
theorem KT.M9(r:KT H kvs xs)(k:List dS)(ry:bq y u):
  KT H (kvs.map fun kv=>if kv.1=k then (kv.1,y) else kv) (xs.map (putAt k u)):=by
 induction r with
 |nil=>exact .nil
 |@cons p q ps qs h t ih=>
  rw[cM,cM];refine .cons ?_ ih;obtain⟨h1,h2,h3⟩:=h;unfold putAt;by_cases e:p.1=k
  .rw[aq e,aq (h1.symm.trans e)];exact⟨h1,h2,ry⟩
  .rw[ap e,ap (fun z=>e (h1.trans z))];exact⟨h1,h2,h3⟩
theorem KT.put(r:KT H kvs xs)(k:List dS)(hb:H b=some (.tup (k.map kV)))(ry:bq y u):
  KT H (fN kvs k y) (storedH xs k b u):=by
 have e:(kvs.any fun kv=>decide (kv.1=k))=(atKey xs k).isSome:=by
  rw[nq,(r.val k).oU,Option.isSome_map]
 unfold fN storedH;rw[e];by_cases q:(atKey xs k).isSome=true
 .rw[aq q,aq q];exact r.M9 k ry
 .rw[ap q,ap q];exact Paired.snoc r ⟨rfl,hb,ry⟩
theorem KT.keeps(r:KT H kvs xs)(ht:∀b ys,H b=some (.tup ys)->H' b=some (.tup ys)):KT H' kvs xs:=
 Paired.Mp r fun _ _ z=>⟨z.1,ht _ _ z.2.1,z.2.2⟩
section
variable {P:Program} {w:World} {H:Hp} {h:Heap} {a:Addr}
theorem Lv(ok:jx P w H h)(e:Rd H a u):cp P w H h a u:=e.ok ok
theorem xO(ok:jx P w H h)(e:Rd H a (.dK kvs)):kvs.length<=sizeLine/\(a==sysModules)=false/\∃vs,KV kvs vs/\h.DictOf (bL P w) a vs:=
 show cp P w H h a (.dK kvs) from Lv ok e
theorem Ff{kvs:List (dS×V)}(ok:jx P w H h)(e:H a=some (.dK kvs)):kvs.length<=sizeLine/\(a==sysModules)=false/\∃vs,KV kvs vs/\h.DictOf (bL P w) a vs:=xO ok (.inl e)
theorem mH(ok:jx P w H h)(e:H a=some (.tup (ks.map kV))):(tupleKind (bL P w)).is h ks a:=by
 obtain⟨_,its,r,o,h1,h2,n,h3,_⟩:=(show cp P w H h a (.tup (ks.map kV)) from ok a _ e)
 exact⟨o,its.toArray,n,h1,h2,h3,by simpa using ur r⟩
theorem BJ(ok:jx P w H h)(e:Rd H a (.dT kvs)):kvs.length<=sizeLine/\(a==sysModules)=false/\
  ∃xs,KT H kvs xs/\h.DictOfH (tupleKind (bL P w)) a xs:=by
 obtain⟨z,y,xs,r,o,es,ep,h1,h2,h3,h4,h5⟩:=(show cp P w H h a (.dT kvs) from Lv ok e)
 refine⟨z,y,xs,r,o,es,ep,h1,h2,h3,h4,fun x hx=>?_,h5⟩;have all:∀ {l:List (List dS×V)} {m:List (List dS×Addr×Value)},KT H l m->∀x∈m,(tupleKind (bL P w)).is h x.1 x.2.1:=by
  intro l m q;induction q with
  |nil=>intro x hx;exact nomatch hx
  |@cons p q ps qs hq t ih=>
   intro x hx;rcases bZ.mp hx with e|hx
   .subst e;exact mH ok (by rw[<-hq.1];exact hq.2.1)
   .exact ih x hx
 exact all r x hx
theorem Q_{kvs:List (List dS×V)}(ok:jx P w H h)(e:H a=some (.dT kvs)):kvs.length<=sizeLine/\(a==sysModules)=false/\
  ∃xs,KT H kvs xs/\h.DictOfH (tupleKind (bL P w)) a xs:=BJ ok (.inl e)
end
def iT(H:Hp)(a:Addr)(y:V)(r:Option V):Prop:=
 (∃kvs k,Rd H a (.dK kvs)/\y=kV k/\r=gg kvs k)\/∃kvs k b,Rd H a (.dT kvs)/\y=.ref b/\H b=some (.tup (k.map kV))/\r=gg kvs k
def rG(H:Hp)(a:Addr)(y v:V)(H':Hp):Prop:=
 (∃kvs k,H a=some (.dK kvs)/\y=kV k/\kvs.length<sizeLine/\H'=upd H a (.dK (fN kvs k v)))\/
 ∃kvs k b,H a=some (.dT kvs)/\y=.ref b/\H b=some (.tup (k.map kV))/\kvs.length<sizeLine/\H'=upd H a (.dT (fN kvs k v))
theorem iT.k{H:Hp}{a:Addr}{kvs:List (dS×V)}{k:dS}(e:H a=some (.dK kvs)):iT H a (kV k) (gg kvs k):=.inl ⟨kvs,k,.inl e,rfl,rfl⟩
theorem iT.t{H:Hp}{a b:Addr}{kvs:List (List dS×V)}{k:List dS}(e:H a=some (.dT kvs))(eb:H b=some (.tup (k.map kV))):iT H a (.ref b) (gg kvs k):=.inr ⟨kvs,k,b,.inl e,rfl,eb,rfl⟩
theorem rG.k{H:Hp}{a:Addr}{kvs:List (dS×V)}{k:dS}{v:V}(e:H a=some (.dK kvs))(hl:kvs.length<sizeLine):rG H a (kV k) v (upd H a (.dK (fN kvs k v))):=.inl ⟨kvs,k,e,rfl,hl,rfl⟩
theorem rG.t{H:Hp}{a b:Addr}{kvs:List (List dS×V)}{k:List dS}{v:V}(e:H a=some (.dT kvs))(eb:H b=some (.tup (k.map kV)))(hl:kvs.length<sizeLine):
  rG H a (.ref b) v (upd H a (.dT (fN kvs k v))):=.inr ⟨kvs,k,b,e,rfl,eb,hl,rfl⟩
section
variable {X:Cx} {ae:List (Addr×Obj)} {σ:St} {H:Hp} {s:Shared} {a:Addr} {y v:V} {u r:Value} {o:Option V} {A:Around} {E:Value->Shared->Prop}
theorem aQ.big(I:aQ X ae σ H s):sysModules<s.heap.objs.size:=by
 have h:mainGlobals<s.heap.objs.size:=(I.mod.glob.keeps I.bk).lt;exact q0 (by decide) h
theorem Dh{Q:Value->Shared->Prop}(hu:A.units+1<cLine)(I:aQ X ae σ H s)(g:iT H a y (some v))(ry:bq y u)(h:∀w' s',aQ X ae σ H s'->bq v w'->Q w' s'):
  wpAny (model X.prog X.w) A (getItem (.ref a) u) Q E s:=by
 rcases g with ⟨kvs,k,e,ey,l⟩|⟨kvs,k,b,e,ey,eb,l⟩
 .subst ey;obtain⟨z,hd,vs,sY,dd⟩:=xO I.bS e;obtain⟨w',hw,IA⟩:=lE.some_of (v:=v) (o:=valueAt vs k) (by rw[l];exact sY.val k);exact wpAny_getItem_of (uq ry) dd.mapOf hw (h w' _ (I.tok _) IA)
 .subst ey;cases (show u=Value.ref b from ry);obtain⟨z,hd,xs,sY,dd⟩:=BJ I.bS e;obtain⟨w',hw,IA⟩:=lE.some_of (v:=v) (o:=(atKey xs k).map (·.2)) (by rw[l];exact sY.val k);obtain⟨p,hp,WD⟩:=pi.mp hw;refine wpAny_getItem_heap (zV hu) (mH I.bS eb) dd hp ?_;rw[WD];exact h w' _ (I.tok _) IA
theorem I_{Q:Value->Shared->Prop}(hu:A.units+1<cLine)(I:aQ X ae σ H s)(g:iT H a y o)(ry:bq y u)(h:∀s',aQ X ae σ H s'->Q (.bool (!o.isSome)) s'):
  wpAny (model X.prog X.w) A (compareOp .NotIn u (.ref a)) Q E s:=by
 rcases g with ⟨kvs,k,e,ey,l⟩|⟨kvs,k,b,e,ey,eb,l⟩
 .subst ey;obtain⟨z,hd,vs,sY,dd⟩:=xO I.bS e;refine wpAny_notIn_of (uq ry) hd dd.mapOf ?_;rw[<-(sY.val k).oU,<-l];exact h _ (I.tok _)
 .subst ey;cases (show u=Value.ref b from ry);obtain⟨z,hd,xs,sY,dd⟩:=BJ I.bS e;refine wpAny_notIn_heap (zV hu) (mH I.bS eb) hd dd ?_;have q:=(sY.val k).oU;rw[Option.isSome_map] at q;rw[<-q,<-l];exact h _ (I.tok _)
theorem wf{h':Heap}{t':Nat}{ob:HO}(I:aQ X ae σ H s)(mu:P_ (H a))(hs:Heap.SameBut a s.heap h')(he:∃q,h'.get? a=some q)(new:cp X.prog X.w (upd H a ob) h' a ob):
  aQ X ae σ (upd H a ob) { s with heap:=h',toks:=t' }:=
 I.write (x:=a) (e:=a) mu (.inl rfl) (fun b q hb z=>(hs.2 b hb).trans z) he new
theorem Fg{P:Program}{w:World}{H':Hp}{h':Heap}{kvs:List (dS×V)}{vs:List (dS×Value)}(z:kvs.length<=sizeLine)(hd:(a==sysModules)=false)(sY:KV kvs vs)(dd:h'.DictOf (bL P w) a vs):
  cp P w H' h' a (.dK kvs):=⟨z,hd,vs,sY,dd⟩
theorem Di{H':Hp}{Q:Unit->Shared->Prop}(hu:A.units+1<cLine)(I:aQ X ae σ H s)(g:rG H a y v H')(ry:bq y u)(rv:bq v r)(h:∀s',aQ X ae σ H' s'->Q () s'):
  wpAny (model X.prog X.w) A (setItem (.ref a) u r) Q E s:=by
 rcases g with ⟨kvs,k,e,ey,l,eH⟩|⟨kvs,k,b,e,ey,eb,l,eH⟩
 .subst ey eH;obtain⟨z,hd,vs,sY,dd⟩:=Ff I.bS e;have hz:vs.length<=sizeLine:=by rw[<-sY.length];exact z
  have hl:(fN kvs k v).length<=sizeLine:=by have:=iH kvs k v;lia
  refine wpAny_setItem_pairs (hsz:=hz) (uq ry) dd fun h' M_ hs=>h _ ?_;have he:∃q,h'.get? a=some q:=let ⟨q,_,_,hq,_⟩:=M_;⟨q,hq⟩;exact wf I (by rw[e];exact True.intro) hs he (Fg hl hd (sY.put k rv) M_)
 .subst ey eH;cases (show u=Value.ref b from ry);obtain⟨z,hd,xs,sY,dd⟩:=Q_ I.bS e;have hz:xs.length<=sizeLine:=by rw[<-Paired.length sY];exact z
  have hl:(fN kvs k v).length<=sizeLine:=by have:=iH kvs k v;lia
  refine wpAny_setItem_heap (hsz:=hz) (zV hu) (mH I.bS eb) dd fun h' M_ hs=>h _ ?_;obtain⟨q,es,ep,hq,h2,h3,h4,_,h5⟩:=M_;refine wf I (by rw[e];exact True.intro) hs ⟨q,hq⟩ ⟨hl,hd,_,(sY.put k eb rv).keeps fun c ys ec=>?_,q,es,ep,hq,h2,h3,h4,h5⟩;rw[ak (cC ec e (fun z=>nomatch z))];exact ec
end
section
variable {X:Cx} {ae:List (Addr×Obj)} {σ:St} {H:Hp} {s:Shared} {a:Addr} {kvs:List (dS×V)} {k:dS} {u:Value} {A:Around} {E:Value->Shared->Prop}
theorem Lw{Q:Value->Shared->Prop}(I:aQ X ae σ H s)(e:Rd H a (.dK kvs))(h:∀t s',aQ X ae σ H s'->Q (.int kvs.length t) s'):wpAny (model X.prog X.w) A (call (.builtin "len") [.ref a]) Q E s:=by
 obtain⟨z,hd,vs,sY,dd⟩:=xO I.bS e;refine call_len_dict hd dd (by rw[<-sY.length];rw[ju] at z;lia) ?_;rw[<-sY.length];exact h _ _ (I.tok _)
end
def Ra(i:Expr):Prop:=∀ov iv,subscripted i false ov iv=operate [ov,iv] (getItem ov iv)
theorem Ja{prog:Program}{w:World}{A:Around}{E:Value->Shared->Prop}{s:Shared}{env:Env}{value slice:Expr}{pos:Pos}{T id:String}{Q:Value->Shared->Prop}(hl:typeLookup (.type T) "__getitem__"=pure (some (.builtin id)))(hs:Ra slice)(h:wpAny (model prog w) A (eval value env) (fun o s₁=>wpAny (model prog w) A (eval slice env) (fun i s₂=>s₂.TypeIs o T/\wpAny (model prog w) A (getItem o i) Q E s₂) E s₁) E s):
  wpAny (model prog w) A (eval (.Subscript value slice pos) env) Q E s:=by
 refine Subscript_ (iQ h (fun o s₁ h₁=>iQ h₁ (fun i s₂ h₂=>?_) fun _ _ x=>x) fun _ _ x=>x);obtain⟨hT,h₂⟩:=h₂;unfold subscriptTail;refine aN ?_;rw[getitemInPython_of_ne hT.not_modules];refine aN (wpAny_specialOf hT hl ?_);have fin:wpAny (model prog w) A (subscripted slice false o i) (fun r s₃=>wpAny (model prog w) A (letTemporaryGo value o r >>= fun _=>pure r) Q E s₃) E s₂:=by
  rw[hs o i];exact wpAny_operating (iQ h₂ (fun r s₃ h₃=>aN (wpAny_letTemporaryGo (wpAny_pure h₃))) fun _ _ x=>x)
 first
  |exact wpAny_pure (aN fin)
  |exact aN (wpAny_pure (aN fin))
  |exact aN fin
theorem xP{X:Cx}{ae:List (Addr×Obj)}{σ:St}{H:Hp}{s:Shared}{a:Addr}{y:V}{o:Option V}(I:aQ X ae σ H s)(g:iT H a y o):s.TypeIs (.ref a) "dict":=by
 rcases g with ⟨kvs,k,e,_,_⟩|⟨kvs,k,b,e,_,_,_⟩
 .obtain⟨_,_,vs,_,dd⟩:=xO I.bS e;exact dd.typeIs
 .obtain⟨_,_,xs,_,dd⟩:=BJ I.bS e;exact dd.typeIs
def kN(td ty:TE):TE:=fun σ H Q=>td σ H fun x H1=>ty σ H1 fun y H2=>∃a v,x=.ref a/\iT H2 a y (some v)/\Q v H2
def wg(ty td:TE):TE:=fun σ H Q=>ty σ H fun y H1=>td σ H1 fun x H2=>∃a o,x=.ref a/\iT H2 a y o/\Q (.bl (!o.isSome)) H2
def Rb(td ty tv:TE):TS:=fun D σ H=>tv σ H fun v H1=>td σ H1 fun x H2=>ty σ H2 fun y H3=>∃a H4,x=.ref a/\rG H3 a y v H4/\D.nx σ H4
section
variable {X:Cx} {o i e value:Expr} {pos pU ML:Pos} {td ty tv:TE}
theorem bQ(hu:X.A.units+1<cLine)(ho:PE X o td)(hi:PE X i ty)(hs:Ra i):PE X (.Subscript o i pos) (kN td ty):=by
 intro ae s σ H Q I h;refine Ja PySem.F.slot_dict_getitem.lookup hs (cJ (ho ae s σ H _ I h) fun u s1 ⟨x,H1,I1,rx,q1⟩=>cJ (hi ae s1 σ H1 _ I1 q1) fun iv s2 ⟨y,H2,I2,ry,a,v,ex,g,q2⟩=>?_);subst ex;obtain rfl:u=Value.ref a:=rx;exact⟨xP I2 g,Dh hu I2 g ry fun w' s3 I3 IA=>⟨v,H2,I3,IA,q2⟩⟩
theorem oV(hu:X.A.units+1<cLine)(hi:PE X i ty)(ho:PE X o td):PC X .NotIn i o (wg ty td):=by
 intro ae s σ H Q I h;refine cJ (hi ae s σ H _ I h) fun iv s1 ⟨y,H1,I1,ry,q1⟩=>cJ (ho ae s1 σ H1 _ I1 q1) fun u s2 ⟨x,H2,I2,rx,a,ov,ex,g,q2⟩=>?_;subst ex;obtain rfl:u=Value.ref a:=rx;exact I_ hu I2 g ry fun s3 I3=>⟨.bl (!ov.isSome),H2,I3,rfl,q2⟩
theorem nw(hu:X.A.units+1<cLine)(ho:PE X o td)(hi:PE X i ty)(hv:PE X value tv)(hs:swapsWith value (some (.Subscript o i pU)) pos.line X.env=pure false):
  PS X (.Assign [.Subscript o i pU] value pos) (Rb td ty tv):=by
 intro ae s σ H D I h;refine wpAny_Assign_Subscript (cJ (hv ae s σ H _ I h) fun r s1 ⟨v,H1,I1,rv,q1⟩=>cJ (ho ae s1 σ H1 _ I1 q1) fun u s2 ⟨x,H2,I2,rx,q2⟩=>cJ (hi ae s2 σ H2 _ I2 q2) fun iv s3 ⟨y,H3,I3,ry,a,H4,ex,g,q3⟩=>?_) hs;subst ex;obtain rfl:u=Value.ref a:=rx;exact Di hu I3 g ry rv fun s4 I4=>⟨σ,H4,I4,q3⟩
end
theorem xQ{P:Program}{w:World}{H:Hp}(h:Heap)(hb:sysModules<h.objs.size):cp P w H (h.push { cls:=.type "dict",data:=.dict #[] }) h.objs.size (.dK []):=
 ⟨dG _,lM.mpr (Ne.symm (bg hb)),[],.nil,Heap.DictOf.new h⟩
theorem Fh{P:Program}{w:World}{H:Hp}(h:Heap)(hb:sysModules<h.objs.size):cp P w H (h.push { cls:=.type "dict",data:=.dict #[] }) h.objs.size (.dT []):=
 ⟨dG _,lM.mpr (Ne.symm (bg hb)),[],.nil,_,#[],0,dC _ rfl,⟨rfl,rfl,rfl⟩,rfl,rfl,jT⟩
def Na:TE:=fun _ H Q=>∀p,H p=none->Q (.ref p) (upd H p (.dK []))
def Nb:TE:=fun _ H Q=>∀p,H p=none->Q (.ref p) (upd H p (.dT []))
section
variable {X:Cx} {pos:Pos}
theorem xR:PE X (.Dict [] [] pos) Na:=fun ae s σ H Q I h=>
 wpAny_Dict_empty ⟨.ref s.heap.objs.size,_,I.laid (a:=s.heap.objs.size) (o:=.dK []) (t':=s.toks) (fun _ _ q=>cR _ q) (bf _) (xQ s.heap I.big),rfl,h _ (I.bS.fresh (bf _))⟩
theorem Fj:PE X (.Dict [] [] pos) Nb:=fun ae s σ H Q I h=>
 wpAny_Dict_empty ⟨.ref s.heap.objs.size,_,I.laid (a:=s.heap.objs.size) (o:=.dT []) (t':=s.toks) (fun _ _ q=>cR _ q) (bf _) (Fh s.heap I.big),rfl,h _ (I.bS.fresh (bf _))⟩
end
def AA:List (TE×TE)->St->Hp->(List (V×V)->Hp->Prop)->Prop
 |[],_,H,Q=>Q [] H
 |(tk,tv)::r,σ,H,Q=>tk σ H fun x H1=>tv σ H1 fun y H2=>AA r σ H2 fun ps H3=>Q ((x,y)::ps) H3
abbrev VV:List (V×V)->List (Value×Value)->Prop:=Paired fun p q=>bq p.1 q.1/\bq p.2 q.2
def Ux(X:Cx)(pos:Pos)(keys:List (Option Expr))(rH:List Expr)(Jb:List (TE×TE)):Prop:=
 ∀ (ae:List (Addr×Obj)) (s:Shared) (σ:St) (H:Hp) (Q:List (V×V)->Hp->Prop),aQ X ae σ H s->AA Jb σ H Q->
  wpAny (model X.prog X.w) X.A (evalPairs (pairTrees keys rH X.env pos)) (fun vs s'=>∃ps H',aQ X ae σ H' s'/\VV ps vs/\Q ps H') X.xe s
theorem Jc{X:Cx}{pos:Pos}:Ux X pos [] [] []:=fun ae s σ H Q I h=>pairTrees_nil_walk ⟨[],H,I,.nil,h⟩
theorem Fk{X:Cx}{pos:Pos}{k v:Expr}{ks:List (Option Expr)}{vs:List Expr}{tk tv:TE}{Jb:List (TE×TE)}(hk:PE X k tk)(hv:PE X v tv)(hr:Ux X pos ks vs Jb):
  Ux X pos (some k::ks) (v::vs) ((tk,tv)::Jb):=fun ae s σ H Q I h=>
 pairTrees_cons_walk (cJ (hk ae s σ H _ I h) fun u s1 ⟨x,H1,I1,rx,q1⟩=>cJ (hv ae s1 σ H1 _ I1 q1) fun w2 s2 ⟨y,H2,I2,ry,q2⟩=>
  cJ (hr ae s2 σ H2 _ I2 q2) fun ws s3 ⟨ps,H3,I3,sY,q3⟩=>⟨(x,y)::ps,H3,I3,.cons ⟨rx,ry⟩ sY,q3⟩)
def oW(kvs more:List (dS×V)):List (dS×V):=more.foldl (fun eA kv=>fN eA kv.1 kv.2) kvs
theorem KV.merge:∀ {more:List (dS×V)} {rs:List (dS×Value)} {kvs:List (dS×V)} {vs:List (dS×Value)},KV more rs->KV kvs vs->KV (oW kvs more) (merged vs rs):=by
 intro more rs kvs vs r;unfold KV at r;induction r generalizing kvs vs with
 |nil=>intro q;exact q
 |@cons p q ps qs h t ih=>
  intro r0;have e:KV (fN kvs p.1 p.2) (stored vs q.1 q.2):=by
   have:=r0.put p.1 h.2;rw[<-h.1];exact this
  exact ih e
theorem lS:∀ (more kvs:List (dS×V)),(oW kvs more).length<=kvs.length+more.length
 |[],kvs=>by show kvs.length<=kvs.length+0;lia
 |p::r,kvs=>by
  have h1:=lS r (fN kvs p.1 p.2);have h2:=iH kvs p.1 p.2;show (oW (fN kvs p.1 p.2) r).length<=_;rw[cx];lia
theorem rJ{P:Program}{w:World}:∀ {kvs:List (dS×V)} {ws:List (Value×Value)},VV (kvs.map fun kv=>(kV kv.1,kv.2)) ws->∃rs,Carries (bL P w) ws rs/\KV kvs rs
 |[],_,r=>by rw[ii] at r;cases r;exact⟨[],True.intro,.nil⟩
 |p::kvs,_,r=>by
  rw[cM] at r;cases r with
  |@cons a b as bs h t=>
   obtain⟨rs,c,q⟩:=rJ (P:=P) (w:=w) t;obtain⟨b1,b2⟩:=b;exact⟨(p.1,b2)::rs,⟨uq h.1,rfl,c⟩,.cons ⟨rfl,h.2⟩ q⟩
def Re(Jb:List (TE×TE)):TE:=fun σ H Q=>∀p,H p=none->AA Jb σ (upd H p (.dK [])) fun ps H2=>H2 p=some (.dK [])/\∃kvs:List (dS×V),ps=kvs.map (fun kv=>(kV kv.1,kv.2))/\kvs.length<=15/\Q (.ref p) (upd H2 p (.dK (oW [] kvs)))
theorem Jd{X:Cx}{pos:Pos}{keys:List (Option Expr)}{rH:List Expr}{Jb:List (TE×TE)}(h:Ux X pos keys rH Jb)(tI:keys.all (·.isSome)=true)(hl:keys.length=rH.length)(h0:keys≠[])(h15:keys.length<=15):PE X (.Dict keys rH pos) (Re Jb):=by
 intro ae s σ H Q I q;have hn:=I.bS.fresh (bf s.heap.objs.size);have I1:=I.laid (a:=s.heap.objs.size) (o:=.dK []) (h':=s.heap.push { cls:=.type "dict",data:=.dict #[] }) (t':=s.toks) (fun _ _ q=>cR _ q) (bf _) (xQ s.heap I.big);refine wpAny_Dict_walk (knd:=bL X.prog X.w) tI hl h0 h15 (cJ (h ae _ σ _ _ I1 (q _ hn)) fun ws s2 ⟨ps,H2,I2,sY,e,kvs,ep,lk,q2⟩=>?_);subst ep;obtain⟨rs,c,rk⟩:=rJ (P:=X.prog) (w:=X.w) sY;obtain⟨z,hd,vs0,r0,dd⟩:=Ff I2.bS e;cases r0;refine⟨rs,c,dd,fun h' M_ hs=>⟨.ref s.heap.objs.size,_,?_,rfl,q2⟩⟩;have hz:(oW [] kvs).length<=sizeLine:=by
  have h1:=lS kvs [];rw[qX] at h1;rw[ju];lia
 have he:∃q,h'.get? s.heap.objs.size=some q:=let ⟨q,_,_,hq,_⟩:=M_;⟨q,hq⟩;exact wf I2 (by rw[e];exact True.intro) hs he (Fg hz hd (rk.merge .nil) M_)
section
variable {X:Cx} {ae:List (Addr×Obj)} {σ:St} {H:Hp} {s:Shared} {a:Addr} {y d:V} {u r:Value} {o:Option V} {A:Around} {E:Value->Shared->Prop}
end
section
variable {X:Cx} {o e f:Expr} {vK vR:Pos} {td ty tx:TE}
end
section
variable {X:Cx} {ae:List (Addr×Obj)} {σ:St} {H:Hp} {s:Shared} {a:Addr} {kvs:List (dS×V)} {A:Around} {E:Value->Shared->Prop}
end
section
variable {X:Cx} {ae:List (Addr×Obj)} {σ:St} {H:Hp} {s:Shared} {a:Addr} {y:V} {u:Value} {A:Around} {E:Value->Shared->Prop}
end
section
variable {X:Cx}
theorem Dj:fA X (.builtin "len") (fun xs H Q=>∃a kvs,xs=[V.ref a]/\H a=some (.dK kvs)/\Q (.int kvs.length) H):=by
 intro ae s σ H xs us Q I r h;obtain⟨a,kvs,rfl,ha,q⟩:=h;obtain⟨u,rfl,ru⟩:=rA r;cases ru;exact Lw I (.inl ha) fun t s' I'=>⟨.int kvs.length,H,I',⟨t,rfl⟩,q⟩
end
section
variable {κ:Type} [DecidableEq κ]
theorem Je{kvs:List (κ×V)}{k:κ}{v:V}(h:gg kvs k=some v):k∈kvs.map (·.1):=by
 have q:(kvs.any fun kv=>decide (kv.1=k))=true:=by
  rw[nq,h];all_goals rfl
 obtain⟨p,hp,e⟩:=zR.mp q;exact bO.mpr ⟨p,hp,bU e⟩
end
section
variable {X:Cx}
def Jf:V->List V->Hp->VK->Prop:=fun x vs H Q=>∃ (l:Addr) (xs:List V) (j:Int) (i:Nat) (y:V),x=.ref l/\vs=[.int j,y]/\j=i/\H l=some (.lst xs)/\i<=xs.length/\xs.length<4096/\Q .bR (upd H l (.lst (xs.take i++[y]++xs.drop i)))
theorem Dk:Ur X "list.insert" Jf:=by
 intro ae s σ H x vs v us Q I rx rv h;obtain⟨l,xs,j,i,y,rfl,rfl,hj,hH,h1,h2,q⟩:=h;cases rx;obtain⟨u1,u2,rfl,r1,r2⟩:=rv.two;obtain⟨t,rfl⟩:=r1;obtain⟨z,its,n,r,hl,e⟩:=I.xy hH;have hs:its.length<4096:=by lia
 have a0:0<=j:=by lia
 have a1:-(2 ^ 63:Int)<=j:=Int.le_trans (by decide) a0;have a2:j<2 ^ 63:=Int.lt_of_le_of_lt (show j<=4096 by lia) (by decide);have a3:its.toArray.size<=sizeLine:=by rw[dj];exact bj (eC hs) (by decide)
 have a4:¬ (!Builtin.List.listFitsIndex j)=true:=by rw[fitsIndex_both a1 a2];decide
 have M:=AutoSeq1.list_insert_list_int_val_1 l its.toArray n j t u2 a4 a3;refine mw F.slot_list_insert ⟨_,e,rfl⟩ F.entry_list_insert (F.args_list_insert_3 _ _ _) M ⟨e,?_⟩;refine⟨.bR,_,I.MR (its':=its.take i++[u2]++its.drop i) hH e ?_ (((r.take i).append (.cons r2 .nil)).append (r.drop i)) ?_,rfl,q⟩
 .have hk:(if j<0 then (j+((its.toArray.size:Nat):Int)).toNat else min j.toNat its.toArray.size)=i:=by
   rw[ap (by lia),dj];lia
  show (its.toArray.extract 0 _).push u2++its.toArray.extract _=_;rw[hk];simp;exact qL (by rw[zQ];lia)
 .simp only[cu,iF,zQ,cx,qX];have:xs.length+1<=sizeLine:=bj (by lia:xs.length+1<=4096) (by decide);lia
theorem rK:∀ {xs:List V} {its:List Value},aY xs its->xs.all g8=true->its.countP (vP x)=xs.countP (fun z=>vO z x)
 |[],_,.nil,_=>rfl
 |y::xs,_,.cons (b:=u) r rr,f=>by
  have fy:g8 y=true:=by rw[ku,cX] at f;exact f.1
  have fx:xs.all g8=true:=by rw[ku,cX] at f;exact f.2
  have h1:[u].any (vP x)=[y].any (fun z=>vO z x):=lf (.cons r .nil) (by simp[fy]);have h2:vP x u=vO y x:=by simpa using h1
  rw[n9,n9,rK rr fx,h2]
def Nc:V->List V->Hp->VK->Prop:=fun x vs H Q=>∃ (l:Addr) (xs:List V) (y:V),x=.ref l/\vs=[y]/\H l=some (.lst xs)/\g8 y=true/\xs.all g8=true/\Q (.int (xs.countP fun z=>vO z y)) H
theorem Fl:Ur X "list.count" Nc:=by
 intro ae s σ H x vs v us Q I rx rv h;obtain⟨l,xs,y,rfl,rfl,hH,fy,fs,q⟩:=h;cases rx;obtain⟨u,rfl,ru⟩:=rv.one;obtain⟨z,its,n,r,hl,e⟩:=I.xy hH;refine mw F.slot_list_count ⟨_,e,rfl⟩ F.entry_list_count (F.args_list_count_2 _ _) (SeqAt.list_countAt l its.toArray n none #[] u (vP y)) ⟨e,fun w hw=>i9 ru fy r fs w (by simpa using hw),?_⟩;refine⟨.int _,H,I.tok _,⟨s.toks,?_⟩,q⟩;rw[show its.toArray.toList=its by simp,rK r fs]
end
def Rf(K:PySem.W.Frag)(a:Addr):It:=
 ⟨fun i H=>∃xs x,aU K H a xs/\xs[i]?=some x,fun i H x H'=>∃p v,x=.ref p/\H p=none/\H'=upd H p (.tup [.int i,v])/\∀xs,aU K H a xs->xs[i]?=some v,fun i H=>∃xs,aU K H a xs/\xs.length<=i,fun _ _=>False⟩
theorem aQ.BK(I:aQ X ae σ H s)(fe:lF X ae H e)(fi:lF X ae H it)(k:∀b o,b≠e->b≠it->s.heap.get? b=some o->h'.get? b=some o)(ke:∃o,h'.get? e=some o)(ki:∃o,h'.get? it=some o)(hp:s.heap.objs.size<=p)(hl:xs.length<=sizeLine)(r:aY xs its)(ht:h'.get? p=some { cls:=.type "tuple",data:=.seq its.toArray }):aQ X ae σ (upd H p (.tup xs)) { s with heap:=h',toks:=t' }:=by
 have hn:=I.bS.fresh hp;obtain⟨e0,e1,e2,e3,e4,e5⟩:=fe;obtain⟨i0,i1,i2,i3,i4,i5⟩:=fi;have ne:∀b o,s.heap.get? b=some o->b≠p:=fun b o q=>bg (bT (bn q) hp);have BM:∀b o,H b=some o->b≠e/\b≠it:=fun b o q=>⟨(fun z=>by rw[z,e0] at q;cases q),(fun z=>by rw[z,i0] at q;cases q)⟩
 refine I.step (g':=s.gens) (d':=s.drawn) (ch:=[e,it]) (fun b hb=>?_) (fun b o _ _ hb q _=>?_) (fun b o _ _ hb q _=>⟨o.slots,?_⟩) (fun b o hb q n=>by rw[ak (ne b o q)];exact n) (fun b o hb q=>⟨o,?_⟩)
  (fun b ys q=>by rw[ak (ai q hn)];exact q) (fun b o u q=>by rw[ak (ai q hn)];exact q) (fun b ps q=>⟨#[],by rw[ak (ai q hn),q];simp⟩) (fun m hm=>?_) (fun b o q=>?_) I.bare
 .rcases bZ.mp hb with rfl|hb
  .exact⟨e3,e1,e4,e5⟩
  .rw[cH.mp hb];exact⟨i3,i1,i4,i5⟩
 .exact k b o (fun z=>hb (z ▸ cA)) (fun z=>hb (z ▸ cN _ cA)) q
 .exact k b o (fun z=>hb (z ▸ cA)) (fun z=>hb (z ▸ cN _ cA)) q
 .exact k b o (fun z=>hb (z ▸ cA)) (fun z=>hb (z ▸ cN _ cA)) q
 .obtain⟨o,es,ep,q,d,r'⟩:=hm;exact⟨o,es,ep,k _ _ e1.symm i1.symm q,d,r'⟩
 .by_cases hb:b=p
  .subst hb;rw[af] at q;cases q;exact⟨hl,its,r,_,ht,rfl,_,rfl,rfl⟩
  .rw[ak hb] at q;refine(I.bS b o q).pT (fun c u hc z=>k c u ?_ ?_ z) (fun c z=>by rw[ak (ai z hn)];exact z) fun c ys z=>by rw[ak (ai z hn)];exact z
   .rcases hc with rfl|hc
    .exact(BM _ _ q).1
    .exact(BM _ _ hc).1
   .rcases hc with rfl|hc
    .exact(BM _ _ q).2
    .exact(BM _ _ hc).2
theorem Dl{P:Program}{w:World}{K:PySem.W.Frag}{es:List Expr}{x1:Nat}{pos:Pos}(a e it:Addr)(ji:e≠it):
  vD P w K (.Tuple es x1 pos) (Rf K a) [e,it] e (fun i h=>(∃old,IsEnum h e it (i:Int) old)/\h.IsListIter it a i) where
 mem:=by simp
 obj:=fun i h st b hb=>by
  obtain⟨⟨old,he⟩,⟨o,q,c,d⟩⟩:=st;rcases bZ.mp hb with rfl|hb
  .exact⟨_,he,fun v z=>by
    have z':Data.fields _=Data.cell v:=z;cases z'⟩
  .rw[cH.mp hb];exact⟨o,q,fun v z=>by rw[d] at z;cases z⟩
 keep:=fun i h h' st k=>by
  obtain⟨⟨old,he⟩,hi⟩:=st;exact⟨⟨old,k e (by simp) _ he⟩,hi.at fun o q=>k it (by simp) o q⟩
 item:=by
  intro X hP hw hK i ae s σ H E vE I hf st hg;subst hP hw hK;have hc:X.calm=true:=vE.elim id fun z=>(show False from z).elim;obtain⟨xs,x,hq,hx⟩:=hg;obtain⟨its,rv,p,hz⟩:=I.list hq;obtain⟨u,hu,ru⟩:=rv.get hx;obtain⟨⟨old,he⟩,hi⟩:=st;refine wpAny_pyNext_enum_item he hi p.isList (x:=u) (by simpa using hu) ji fun h' ho kO ht hsz k=>?_;refine⟨_,rfl,wpAny_letOwnedTupleGo_enum ho fun h2 Rg rm=>?_⟩;have Rh:s.heap.objs.size≠e:=kA (bn he);have C4:h2.IsListIter it a (i+1):=kO.extBut rm.extBut ji.symm;have fe:=hf e (by simp);have fi:=hf it (by simp);have I2:aQ X ae σ (upd H s.heap.objs.size (.tup [.int i,x])) { s with heap:=h2,toks:=s.toks+1 }:=by
   refine I.BK (its:=[.int i s.toks,u]) fe fi (fun b o h1 h3 q=>(rm.2 b h1).trans (k b o h1 h3 q)) ⟨_,Rg⟩ ?_ (bf _) (by show 2<=sizeLine;decide) (.cons ⟨_,rfl⟩ (.cons ru .nil)) ((rm.2 _ Rh).trans ht);obtain⟨o,q,_⟩:=C4;exact⟨o,q⟩
  refine⟨.ref s.heap.objs.size,_,I2,rfl,⟨_,x,rfl,I.bS.fresh (bf _),rfl,fun ys hy=>by rw[I.xj hy hq];exact hx⟩,⟨⟨u,Rg⟩,C4⟩,fun b hb=>?_⟩;have f0:=(hf b hb).1;rw[ak]
  .exact f0
  .rcases bZ.mp hb with rfl|hb
   .exact Rh.symm
   .rw[cH.mp hb];obtain⟨o,q,_⟩:=hi;exact bg (bn q)
 done:=by
  intro X hP hw hK i ae s σ H E vE I hf st hg;subst hP hw hK;have hc:X.calm=true:=vE.elim id fun z=>(show False from z).elim;obtain⟨xs,hq,hx⟩:=hg;obtain⟨its,rv,p,hz⟩:=I.list hq;obtain⟨f0,f1,f2,f3,f4,f5⟩:=hf it (by simp);obtain⟨⟨old,he⟩,hi⟩:=st;have hl:=rv.length;exact wpAny_pyNext_enum_end (I.ok.hd hc) he hi p.isList (by simp;lia) fun h' eb=>⟨rfl,I.turned (t':=s.toks) (fun b o hb e=>eb b o hb e) f0 f1 f3 f4 f5⟩
 self:=fun _ _ _ _ _ st h=>by
  obtain⟨⟨old,he⟩,_⟩:=st;exact vi he h
section
variable {X:Cx}
def Ri(K:PySem.W.Frag)(ta:TA):TI:=fun σ H R=>ta σ H fun vs H1=>∃a xs,vs=[.ref a]/\H1 a=some (.lst xs)/\R (Rf K a) H1
theorem Jg(hg:Gl X "enumerate")(hm:X.mg "enumerate"=none)(ha:PA X [a] ta)(hs:starEach [a] X.env=[(false,eval a X.env)]:=by rfl):
  PI X (.Tuple es x1 ML) (.Call (.Name "enumerate" p) [a] [] pos) (Ri X.K ta):=by
 intro ae s σ H R I h;refine Call_ (kE I hg hm (by decide +kernel:bootBuiltins "enumerate"=some (.type "enumerate")) (qJ (cJ (ha pos ae s σ H _ I h) fun us s1 ⟨vs,H1,I1,r1,q1⟩=>?_) hs rfl));obtain⟨l,xs,rfl,hl,q⟩:=q1;obtain⟨u1,rfl,WE⟩:=r1.one;obtain rfl:u1=Value.ref l:=WE;obtain⟨z,its,n,r,_,e⟩:=I1.xy hl;refine call_enumerate_1 e fun h' he hi hsz k=>?_;have ji:s1.heap.objs.size+1≠s1.heap.objs.size:=Nat.succ_ne_self _;refine vi he ?_;have I2:aQ X ae σ H1 { s1 with heap:=h' }:=I1.kept (t':=s1.toks) k;refine⟨s1.heap.objs.size+1,[s1.heap.objs.size+1,s1.heap.objs.size],_,_,H1,rfl,I2,Dl l _ _ ji,⟨⟨_,he⟩,hi⟩,fun b hb=>?_,q⟩;have pK:s1.heap.objs.size<=b:=by
  rcases bZ.mp hb with rfl|hb
  .exact Nat.le_succ _
  .rw[cH.mp hb];exact bf _
 exact I1.xk pK (I1.bS.fresh pK)
theorem Fm{K:PySem.W.Frag}{a:Addr}{xs:List V}{g:TG}{tb:TS}{D:vz}{σ:St}{H:Hp}(Pv:Nat->St->Hp->Prop)(h0:Pv 0 σ H)(hl:∀i σ H,i<=xs.length->Pv i σ H->aU K H a xs)(hs:∀i x p σ H,xs[i]?=some x->Pv i σ H->H p=none->g (.ref p) σ (upd H p (.tup [.int i,x])) fun σ2 H2=>tb { D with nx:=Pv (i+1),ct:=Pv (i+1),bk:=D.nx } σ2 H2)(hd:∀σ H,Pv xs.length σ H->D.nx σ H):
  ∃W:Nat->Nat->St->Hp->Prop,(∃m,W 0 m σ H)/\∀i m σ H,W i m σ H->
   ((Rf K a).stop i H/\D.nx σ H)\/((Rf K a).go i H/\∃N:St->Hp->Prop,(∀σ' H',N σ' H'->∃m',m'<m/\W (i+1) m' σ' H')/\∀x H',(Rf K a).Lc i H x H'->g x σ H' fun σ2 H2=>tb { D with nx:=N,ct:=N,bk:=D.nx } σ2 H2):=by
 refine⟨fun i m σ H=>m=xs.length-i/\i<=xs.length/\Pv i σ H,⟨xs.length,by simp,dG _,h0⟩,?_⟩;rintro i m σ H ⟨rfl,hi,p⟩;have q:=hl i σ H hi p;by_cases dL:i<xs.length
 .refine .inr ⟨⟨xs,xs[i],q,by simp[dL]⟩,Pv (i+1),fun σ' H' p'=>⟨xs.length-(i+1),by lia,rfl,dL,p'⟩,fun x H' y=>?_⟩;obtain⟨pp,v,rfl,hn,rfl,hv⟩:=y;exact hs i v pp σ _ (hv xs q) p hn
 .have e:i=xs.length:=by lia
  subst e;exact .inl ⟨⟨xs,q,bf _⟩,hd σ H p⟩
end
section
variable {prog:Program} {w:World} {A:Around} {E:Value->Shared->Prop} {s:Shared}
theorem AB(sW:s.heap.IsTupleIter it t i)(ht:s.heap.IsTuple t xs)(hx:xs[i]?=some x)(q:∀h',h'.IsTupleIter it t (i+1)->Heap.SameBut it s.heap h'->Q x { s with heap:=h' }):wpAny (model prog w) A (Builtin.SmallTypes.nextOf (.ref it)) Q E s:=by
 obtain⟨o,h1,h2,h3⟩:=id sW;obtain⟨p,k1,_,n,k3⟩:=ht;unfold Builtin.SmallTypes.nextOf;refine aN (u3 (name:=Str.ofString "__next__") sW.typeIs F.slot_tuple_iterator_next (qY F.slot_tuple_iterator_next sW.typeIs F.entry_tuple_iterator_next ?_ (F.args_tuple_iterator_next_1 _)));change wpAny _ _ (field (.ref it) 0 >>= _) _ _ s;refine aN (jt h1 h3 (x:=.ref t) rfl ?_);change wpAny _ _ (if (Value.ref t==Value.none)=true then _ else _) _ _ s;rw[ap (by exact cP)];change wpAny _ _ (field (.ref it) 1 >>= _) _ _ s;refine aN (jt h1 h3 (x:=.int i 0) rfl ?_);change wpAny _ _ (seqItems? (.ref t) >>= _) _ _ s;refine aN (vt k1 k3 ?_);simp only[cW,hx];refine aN (wpAny_setField h1 h3 (by simp) (wpAny_pure ⟨x,rfl,wpAny_pure (q _ ?_ (Heap.SameBut.update ..))⟩));refine⟨_,vd _ h1 (Obj.isFreed_of_fields (zW h3 _)),(Obj.cls_mapFields ..).trans h2,?_⟩;rw[zW h3];simp[rawInt]
theorem ut(hh:A.handled=none)(sW:s.heap.IsTupleIter it t i)(ht:s.heap.IsTuple t xs)(hx:xs[i]?=none)(q:∀h' e,Heap.ExtBut it s.heap h'->(∃o,h'.get? e=some o/\o.cls=.type "StopIteration")->E (.ref e) { s with heap:=h' }):wpAny (model prog w) A (Builtin.SmallTypes.nextOf (.ref it)) Q E s:=by
 obtain⟨o,h1,h2,h3⟩:=id sW;obtain⟨p,k1,_,n,k3⟩:=ht;unfold Builtin.SmallTypes.nextOf;refine aN (u3 (name:=Str.ofString "__next__") sW.typeIs F.slot_tuple_iterator_next (qY F.slot_tuple_iterator_next sW.typeIs F.entry_tuple_iterator_next ?_ (F.args_tuple_iterator_next_1 _)));change wpAny _ _ (field (.ref it) 0 >>= _) _ _ s;refine aN (jt h1 h3 (x:=.ref t) rfl ?_);change wpAny _ _ (if (Value.ref t==Value.none)=true then _ else _) _ _ s;rw[ap (by exact cP)];change wpAny _ _ (field (.ref it) 1 >>= _) _ _ s;refine aN (jt h1 h3 (x:=.int i 0) rfl ?_);change wpAny _ _ (seqItems? (.ref t) >>= _) _ _ s;refine aN (vt k1 k3 ?_);simp only[cW,hx];refine aN (jv (aN (wpAny_setField h1 h3 (by simp) ?stop)));case stop=>
  change wpAny _ _ (newExc (.type "StopIteration") [] >>= _) _ _ _;refine aN ?_;simp only[newExc,newTuple];refine aN (qW (aN (m:=firstArgMember _ _) (wpAny_of_eq (a:=Value.none) (by simp only[firstArgMember];rfl) (qW ?_ (by size_fits)))) (by size_fits));simp only[raiseNew];refine aN (wpAny_handled ?_);rw[show A.in1.handled=none from hh];exact aN (wpAny_pure (wpAny_throw (q _ _ (fun b u hb z=>cR _ (cR _ ((u8 _ _ (Ne.symm hb)).trans z))) ⟨_,dC _ rfl,rfl⟩)))
theorem xS(hh:A.handled=none)(it t:Addr)(ji:t≠it)(xs:Array Value):Draws prog w A it [it,t] xs.size (fun i v=>xs[i]?=some v) (fun i h=>h.IsTupleIter it t i/\h.IsTuple t xs) where
 live:=fun _ _ st=>let ⟨o,ho,_⟩:=st.1;⟨o,ho⟩
 frame:=fun _ _ _ st hk=>⟨st.1.at fun o e=>hk it (by simp) o e,let ⟨o,e,r⟩:=st.2;⟨o,hk t (by simp) o e,r⟩⟩
 item:=fun i s Q E hi st q=>by
  refine AB st.1 st.2 (x:=xs[i]) (by simp[hi]) fun h' a b=>?_;obtain⟨o,e,r⟩:=st.2;exact q _ h' s.toks (by simp[hi]) ⟨a,o,(b.2 t ji).trans e,r⟩ b
 done:=fun s Q E st q=>ut hh st.1 st.2 (by simp) q
end
theorem Dm(t:Addr)(xs:Array Value):
  Meets (Builtin.«enumerate.__new__» ⟨[.type "enumerate",.ref t],[]⟩) (fun _ R s=>s.heap.IsTuple t xs/\
   R (.ok (.ret (.ref (s.heap.push { cls:=.type "tuple_iterator",data:=.fields #[.ref t,.int 0 0] }).objs.size)))
    { s with heap:=(s.heap.push { cls:=.type "tuple_iterator",data:=.fields #[.ref t,.int 0 0] }).push { cls:=.type "enumerate",data:=.fields #[.none,.bool false,.ref s.heap.objs.size,rawInt 0,.none,.none] } }):=
 .of_wp fun prog w A R s h=>by
  obtain⟨hp,g,d,tk,os⟩:=s;obtain⟨hT,h⟩:=h;have hs:=sub_enumerate
  wp_walk
  refine wpAny_stack_any fun st=>wpAny_pure ?_;split
  .rename_i c _ _ _ _ _;cases (c==Value.type "enumerate") <;> (wp_walk using zU hT;exact⟨_,rfl,h⟩)
  .wp_walk using zU hT
   exact⟨_,rfl,h⟩
theorem AC(ht:s.heap.IsTuple t xs)(h:∀h',IsEnum h' (s.heap.objs.size+1) s.heap.objs.size 0 .none->h'.IsTupleIter s.heap.objs.size t 0->(∀b o,s.heap.get? b=some o->h'.get? b=some o)->Q (.ref (s.heap.objs.size+1)) { s with heap:=h' }):
  wpAny (model prog w) A (call (.type "enumerate") [.ref t]) Q E s:=by
 refine callType_new F.called_enumerate (by decide) (F.typeCall_enumerate_1 _) (F.newCall_enumerate_1 _) (fun obj=>F.args_object_init_2 obj _) F.entry_enumerate_new (Dm t xs) ⟨ht,?_⟩;have hz:(s.heap.push { cls:=.type "tuple_iterator",data:=.fields #[.ref t,.int 0 0] }).objs.size=s.heap.objs.size+1:=jp ..;have he:IsEnum ((s.heap.push { cls:=.type "tuple_iterator",data:=.fields #[.ref t,.int 0 0] }).push
   { cls:=.type "enumerate",data:=.fields #[.none,.bool false,.ref s.heap.objs.size,rawInt 0,.none,.none] }) (s.heap.objs.size+1) s.heap.objs.size 0 .none:=by
  have q:=dC (s.heap.push { cls:=.type "tuple_iterator",data:=.fields #[.ref t,.int 0 0] }) (o:={ cls:=.type "enumerate",data:=.fields #[.none,.bool false,.ref s.heap.objs.size,rawInt 0,.none,.none] }) rfl;rw[hz] at q;exact q
 show _/\_;rw[hz];exact⟨⟨_,he,rfl⟩,h _ he ⟨_,cR _ (dC _ rfl),rfl,rfl⟩ fun b o x=>cR _ (cR _ x)⟩
def Jh(K:PySem.W.Frag)(a:Addr):It:=
 ⟨fun i H=>∃xs x,cK K H a xs/\xs[i]?=some x,fun i H x H'=>∃p v,x=.ref p/\H p=none/\H'=upd H p (.tup [.int i,v])/\∀xs,cK K H a xs->xs[i]?=some v,fun i H=>∃xs,cK K H a xs/\xs.length<=i,fun _ _=>False⟩
theorem AD{P:Program}{w:World}{K:PySem.W.Frag}{es:List Expr}{x1:Nat}{pos:Pos}(a e it:Addr)(ji:e≠it)(hae:a≠e)(hai:a≠it):
  vD P w K (.Tuple es x1 pos) (Jh K a) [e,it] e (fun i h=>(∃old,IsEnum h e it (i:Int) old)/\h.IsTupleIter it a i) where
 mem:=by simp
 obj:=fun i h st b hb=>by
  obtain⟨⟨old,he⟩,⟨o,q,c,d⟩⟩:=st;rcases bZ.mp hb with rfl|hb
  .exact⟨_,he,fun v z=>by
    have z':Data.fields _=Data.cell v:=z;cases z'⟩
  .rw[cH.mp hb];exact⟨o,q,fun v z=>by rw[d] at z;cases z⟩
 keep:=fun i h h' st k=>by
  obtain⟨⟨old,he⟩,hi⟩:=st;exact⟨⟨old,k e (by simp) _ he⟩,hi.at fun o q=>k it (by simp) o q⟩
 item:=by
  intro X hP hw hK i ae s σ H E vE I hf st hg;subst hP hw hK;have hc:X.calm=true:=vE.elim id fun z=>(show False from z).elim;obtain⟨xs,x,hq,hx⟩:=hg;obtain⟨its,rv,p,hz⟩:=I.tuple hq;obtain⟨u,hu,ru⟩:=rv.get hx;obtain⟨⟨old,he⟩,hi⟩:=st;have dL:i<its.toArray.size:=by
   have:=(cI.mp hu).1;simpa using this
  have D:=xS (prog:=X.prog) (w:=X.w) (A:=X.A.in1) (I.ok.hd hc) it a hai its.toArray;refine wpAny_pyNext_enum_itemD D he ⟨hi,p⟩ dL ji (by simp[ji,hae.symm]) fun u' h' tk xD ho oE ht hsz k=>?_;have eu:u'=u:=by
   have h1:its.toArray[i]?=some u:=by simpa using hu
   rw[h1] at xD;exact(ba xD).symm
  subst eu;refine⟨_,rfl,wpAny_letOwnedTupleGo_enum ho fun h2 Rg rm=>?_⟩;have Rh:s.heap.objs.size≠e:=kA (bn he);have C4:h2.IsTupleIter it a (i+1):=oE.1.at fun o q=>(rm.2 it ji.symm).trans q;have fe:=hf e (by simp);have fi:=hf it (by simp);have I2:aQ X ae σ (upd H s.heap.objs.size (.tup [.int i,x])) { s with heap:=h2,toks:=tk+1 }:=by
   refine I.BK (its:=[.int i tk,u']) fe fi (fun b o h1 h3 q=>(rm.2 b h1).trans (k b o h1 h3 q)) ⟨_,Rg⟩ ?_ (bf _) (by show 2<=sizeLine;decide) (.cons ⟨_,rfl⟩ (.cons ru .nil)) ((rm.2 _ Rh).trans ht);obtain⟨o,q,_⟩:=C4;exact⟨o,q⟩
  refine⟨.ref s.heap.objs.size,_,I2,rfl,⟨_,x,rfl,I.bS.fresh (bf _),rfl,fun ys hy=>by rw[I.tX hy hq];exact hx⟩,⟨⟨u',Rg⟩,C4⟩,fun b hb=>?_⟩;have f0:=(hf b hb).1;rw[ak]
  .exact f0
  .rcases bZ.mp hb with rfl|hb
   .exact Rh.symm
   .rw[cH.mp hb];obtain⟨o,q,_⟩:=hi;exact bg (bn q)
 done:=by
  intro X hP hw hK i ae s σ H E vE I hf st hg;subst hP hw hK;have hc:X.calm=true:=vE.elim id fun z=>(show False from z).elim;obtain⟨xs,hq,hx⟩:=hg;obtain⟨its,rv,p,hz⟩:=I.tuple hq;obtain⟨f0,f1,f2,f3,f4,f5⟩:=hf it (by simp);obtain⟨⟨old,he⟩,hi⟩:=st;have hl:=rv.length;unfold pyNext;have hT:s.TypeIs (.ref e) "enumerate":=⟨_,he,rfl⟩
  refine aN (vx (u3 (name:=Str.ofString "__next__") hT F.slot_enumerate_next (qY F.slot_enumerate_next hT F.entry_enumerate_next ?_ (F.args_enumerate_next_1 _))));change wpAny _ _ (field (.ref e) 2 >>= _) _ _ _;refine aN (jt he rfl (x:=.ref it) rfl (aN (ut (I.ok.hd hc) hi p (by simp;lia) fun h' x eb yY=>?_)));obtain⟨o,ho,Lj⟩:=yY;exact aN (wpAny_isInstance (T:="StopIteration") (b:=true) ⟨o,ho,Lj⟩ isSubtype_stop (wpAny_pure ⟨rfl,I.turned (t':=s.toks) (fun b o hb e=>eb b o hb e) f0 f1 f3 f4 f5⟩))
 self:=fun _ _ _ _ _ st h=>by
  obtain⟨⟨old,he⟩,_⟩:=st;exact vi he h
section
variable {X:Cx}
def Nd(K:PySem.W.Frag)(ta:TA):TI:=fun σ H R=>ta σ H fun vs H1=>∃a xs,vs=[.ref a]/\cK K H1 a xs/\R (Jh K a) H1
theorem rM(hg:Gl X "enumerate")(hm:X.mg "enumerate"=none)(ha:PA X [a] ta)(hs:starEach [a] X.env=[(false,eval a X.env)]:=by rfl):
  PI X (.Tuple es x1 ML) (.Call (.Name "enumerate" p) [a] [] pos) (Nd X.K ta):=by
 intro ae s σ H R I h;refine Call_ (kE I hg hm (by decide +kernel:bootBuiltins "enumerate"=some (.type "enumerate")) (qJ (cJ (ha pos ae s σ H _ I h) fun us s1 ⟨vs,H1,I1,r1,q1⟩=>?_) hs rfl));obtain⟨l,xs,rfl,hl,q⟩:=q1;obtain⟨u1,rfl,WE⟩:=r1.one;obtain rfl:u1=Value.ref l:=WE;obtain⟨its,rv,pt,hz⟩:=I1.tuple hl;have dL:l<s1.heap.objs.size:=by obtain⟨o,e,_⟩:=pt;exact bn e
 refine AC (show s1.heap.IsTuple l its.toArray from pt) fun h' he hi k=>?_;have ji:s1.heap.objs.size+1≠s1.heap.objs.size:=Nat.succ_ne_self _;refine vi he ?_;have I2:aQ X ae σ H1 { s1 with heap:=h' }:=I1.kept (t':=s1.toks) k;refine⟨s1.heap.objs.size+1,[s1.heap.objs.size+1,s1.heap.objs.size],_,_,H1,rfl,I2,AD l _ _ ji (bg (fH dL)) (bg dL),⟨⟨_,he⟩,hi⟩,fun b hb=>?_,q⟩;have pK:s1.heap.objs.size<=b:=by
  rcases bZ.mp hb with rfl|hb
  .exact Nat.le_succ _
  .rw[cH.mp hb];exact bf _
 exact I1.xk pK (I1.bS.fresh pK)
theorem rN{K:PySem.W.Frag}{a D:Addr}{xs:List V}{g:TG}{tt:TT}{te:TE}{fin:Hp->Prop}{σB:St}{H0:Hp}(Pv:Nat->List V->St->Hp->Prop)(h0:Pv 0 [] σB H0)(hl:∀i ys σ H,i<=xs.length->Pv i ys σ H->cK K H a xs)(hs:∀i x p ys σ H (Kt:V->St->Hp->Prop) (Kf:St->Hp->Prop),xs[i]?=some x->Pv i ys σ H->H p=none->
   (∀v σ2 H4,H4 D=some (.lst ys)->ys.length<sizeLine->Pv (i+1) (ys++[v]) σ2 (upd H4 D (.lst (ys++[v])))->Kt v σ2 H4)->(∀σ2 H3,Pv (i+1) ys σ2 H3->Kf σ2 H3)->
   g (.ref p) σ (upd H p (.tup [.int i,x])) fun σ2 H2=>tt σ2 H2 fun b H3=>if b=true then te σ2 H3 fun v H4=>Kt v σ2 H4 else Kf σ2 H3)(hd:∀ys σ H,Pv xs.length ys σ H->fin H):iG (Jh K a) g tt te D fin σB H0:=by
 refine⟨fun i m σ H=>m=xs.length-i/\i<=xs.length/\∃ys,Pv i ys σ H,⟨xs.length,by simp,dG _,[],h0⟩,?_⟩;rintro i m σ H ⟨rfl,hi,ys,p⟩;have q:=hl i ys σ H hi p;by_cases dL:i<xs.length
 .refine .inr ⟨⟨xs,xs[i],q,by simp[dL]⟩,?_⟩;rintro x H' ⟨pp,v,rfl,hn,rfl,hv⟩;exact hs i v pp ys σ _ (fun v σ2 H4=>∃ys,H4 D=some (.lst ys)/\ys.length<sizeLine/\∃m',m'<xs.length-i/\m'=xs.length-(i+1)/\i+1<=xs.length/\∃pY,Pv (i+1) pY σ2 (upd H4 D (.lst (ys++[v]))))
   (fun σ2 H3=>∃m',m'<xs.length-i/\m'=xs.length-(i+1)/\i+1<=xs.length/\∃pY,Pv (i+1) pY σ2 H3) (hv xs q) p hn
   (fun v σ2 H4 z1 z2 z3=>⟨ys,z1,z2,_,by lia,rfl,dL,_,z3⟩) (fun σ2 H3 z=>⟨_,by lia,rfl,dL,_,z⟩)
 .have e:i=xs.length:=by lia
  subst e;exact .inl ⟨⟨xs,q,bf _⟩,hd ys σ H p⟩
end
theorem aQ.freeze{X:Cx}{ae:List (Addr×Obj)}{σ:St}{H:Hp}{s:Shared}{d:Addr}{u:HO}{o:Obj}(I:aQ X ae σ H s)(hd:H d=some u)(ho:s.heap.get? d=some o)(hu:(∀xs,u≠.tup xs)/\(∀o v,u≠.jh o v)/\(∀ps,u≠.oq ps)/\(∀x,u≠.own x)):
  aQ X ae σ (upd H d (.jh o u)) s:=by
 have ok:jx X.prog X.w (upd H d (.jh o u)) s.heap:=fun b v e=>by
  have st:∀ {b v},cp X.prog X.w H s.heap b v->cp X.prog X.w (upd H d (.jh o u)) s.heap b v:=fun {b v} x=>
   x.pT (fun _ _ _ q=>q) (fun c q=>by rw[ak (fun z=>by rw[z,hd] at q;exact hu.2.2.2 _ (ba q))];exact q) fun c xs q=>by rw[ak (fun z=>by rw[z,hd] at q;exact hu.1 _ (ba q))];exact q
  by_cases hb:b=d
  .subst hb;rw[af] at e;cases e;exact⟨ho,st (I.bS b u hd)⟩
  .rw[ak hb] at e;exact st (I.bS b v e)
 have r:=I.step (h':=s.heap) (H':=upd H d (.jh o u)) (g':=s.gens) (t':=s.toks) (d':=s.drawn) (ch:=[]) (fun _ z=>absurd z (by simp)) (fun b o' _ _ _ q _=>q) (fun b o' _ _ _ q _=>⟨o'.slots,q⟩)
  (fun b o' _ q n=>by rw[ak (fun z=>by rw[z,hd] at n;cases n)];exact n) (fun b o' _ q=>⟨o',q⟩)
  (fun b xs q=>by rw[ak (fun z=>by rw[z,hd] at q;exact hu.1 _ (ba q))];exact q) (fun b o' v q=>by rw[ak (fun z=>by rw[z,hd] at q;exact hu.2.1 _ _ (ba q))];exact q)
  (fun b ps q=>⟨#[],by rw[ak (fun z=>by rw[z,hd] at q;exact hu.2.2.1 _ (ba q)),q];simp⟩) (fun m hm=>hm) ok I.bare
 exact r
def Nf(d:Addr)(o:Obj)(kvs:List (dS×V)):It:=
 ⟨fun i H=>H d=some (.jh o (.dK kvs))/\i<kvs.length,fun i H x H'=>H'=H/\∃k v,kvs[i]?=some (k,v)/\x=kV k,fun i H=>H d=some (.jh o (.dK kvs))/\kvs.length<=i,fun _ _=>False⟩
theorem Ji{P:Program}{w:World}{k:dS}{u:Value}(h:(bL P w).is k u=true):bq (kV k) u:=by
 cases k with
 |inl i=>
  have h':Value.isInt i u=true:=h;cases u <;> simp[Value.isInt] at h' <;> try exact h'.elim
  all_goals first|(subst h';exact⟨_,rfl⟩)|(rw[<-h'];exact⟨_,rfl⟩)|(rw[h'];exact⟨_,rfl⟩)
 |inr x=>
  have h':Value.isStrOf x u=true:=h;cases u <;> simp[Value.isStrOf] at h' <;> try exact h'.elim
  all_goals first|(subst h';exact⟨_,rfl⟩)|(rw[<-h'];exact⟨_,rfl⟩)|(rw[h'];exact⟨_,rfl⟩)
theorem uu{P:Program}{w:World}{K:PySem.W.Frag}{tg:Expr}(d it:Addr)(o:Obj)(kvs:List (dS×V))(es:Array DictEntry)(ep:Nat)(xT:o.data=.dict es ep):
  vD P w K tg (Nf d o kvs) [it] it (fun i h=>h.IsKeyIter it d i kvs.length ep) where
 mem:=by simp
 obj:=fun i h st b hb=>by
  have e:b=it:=by simpa using hb
  subst e;obtain⟨o,e,c,d⟩:=st;exact⟨o,e,fun v z=>by rw[d] at z;cases z⟩
 keep:=fun i h h' st k=>st.at fun o e=>k it (by simp) o e
 item:=by
  intro X hP hw hK i ae s σ H E vE I hf st hg;subst hP hw hK;have hc:X.calm=true:=vE.elim id fun z=>(show False from z).elim;obtain⟨hd,hi⟩:=hg;obtain⟨ho,z,hS,vs,kv,ob,w9,Ms,g1,g2,g3,g4,g5,g6⟩:=I.bS d _ hd;rw[ho] at g1;cases g1;rw[xT] at g3;cases g3;have hm:s.heap.DictAt (bL X.prog X.w) d vs ep:=⟨o,es,ho,g2,xT,g4,g5,g6⟩
  have eW:=kv.length;obtain⟨f0,f1,f2,f3,f4,f5⟩:=hf it (by simp);have kO:i<vs.length:=by lia
  obtain⟨⟨k,v⟩,hv⟩:∃p,vs[i]?=some p:=⟨_,b9 kO⟩
  refine wpAny_pyNext_dict_item (by rw[<-eW];exact st) hm hv fun key h' hk aW sb=>?_;have I1:aQ X ae σ H { s with heap:=h' }:=I.turned (t':=s.toks) (fun b o hb e=>(sb.2 b hb).trans e) f0 f1 f3 f4 f5;obtain⟨oi,ei,ci,di⟩:=id aW;have xU:(kvs.map (·.1))[i]?=some k:=by rw[kv.keys,bp,hv];rfl
  obtain⟨p,hp,hpk⟩:∃p,kvs[i]?=some p/\p.1=k:=by
   rw[bp] at xU;cases q:kvs[i]? with
   |none=>rw[q] at xU;cases xU
   |some p=>rw[q] at xU;exact⟨p,rfl,ba xU⟩
  refine⟨key,rfl,Bh (s:={ s with heap:=h' }) ei ci di (by decide) ⟨kV k,H,I1,Ji hk,⟨rfl,k,p.2,by rw[hp,<-hpk],rfl⟩,by rw[eW];exact aW,fun b hb=>(hf b hb).1⟩⟩
 done:=by
  intro X hP hw hK i ae s σ H E vE I hf st hg;subst hP hw hK;have hc:X.calm=true:=vE.elim id fun z=>(show False from z).elim;obtain⟨hd,hi⟩:=hg;obtain⟨ho,z,hS,vs,kv,ob,w9,Ms,g1,g2,g3,g4,g5,g6⟩:=I.bS d _ hd;rw[ho] at g1;cases g1;rw[xT] at g3;cases g3;have hm:s.heap.DictAt (bL X.prog X.w) d vs ep:=⟨o,es,ho,g2,xT,g4,g5,g6⟩
  have eW:=kv.length;obtain⟨f0,f1,f2,f3,f4,f5⟩:=hf it (by simp);exact wpAny_pyNext_dict_end (I.ok.hd hc) (by rw[<-eW];exact st) hm (iD (by lia)) fun h' eb=>⟨rfl,I.turned (t':=s.toks) (fun b o hb e=>eb b o hb e) f0 f1 f3 f4 f5⟩
 self:=fun _ _ _ _ _ st h=>wpAny_pyIter_keyiter st h
section
variable {X:Cx} {tg:Expr}
def Rj(tl:TE):TI:=fun σ H R=>tl σ H fun x H1=>∃d kvs,x=.ref d/\H1 d=some (.dK kvs)/\∀o,R (Nf d o kvs) (upd H1 d (.jh o (.dK kvs)))
theorem BN{l:Expr}{tl:TE}(hl:PE X l tl):PI X tg l (Rj tl):=by
 intro ae s σ H R I h;refine cJ (hl ae s σ H _ I h) fun v s1 ⟨x,H1,I1,r1,q1⟩=>?_;obtain⟨d,kvs,e,hd,q⟩:=q1;subst e;cases r1;obtain⟨z,hS,vs,kv,o,es,ep,g1,g2,g3,g4,g5,g6⟩:=Ff I1.bS hd;have hm:s1.heap.DictAt (bL X.prog X.w) d vs ep:=⟨o,es,g1,g2,g3,g4,g5,g6⟩
 have I2:=I1.freeze hd g1 ⟨(fun _ z=>by cases z),(fun _ _ z=>by cases z),(fun _ z=>by cases z),(fun _ z=>by cases z)⟩;refine wpAny_pyIter_dict hS hm ?_;refine⟨s1.heap.objs.size,[s1.heap.objs.size],_,_,_,rfl,I2.kept (t':=s1.toks) fun b o e=>cR _ e,uu d _ o kvs es ep g3,⟨_,dC _ rfl,rfl,by rw[kv.length];rfl⟩,fun b hb=>?_,q o⟩;have e:b=s1.heap.objs.size:=by simpa using hb
 subst e;exact I2.xk (bf _) (I2.bS.fresh (bf _))
end
theorem wm:typeLookup (.type "list") "keys"=pure none:=by rw[typeLookup_type,builtinLookup_eq_fast];kernel_rfl
theorem pZ:typeLookup (.type "list") "__getattr__"=pure none:=by rw[typeLookup_type,builtinLookup_eq_fast];kernel_rfl
theorem rO(l:Addr)(u:Tok)(lP:Array Value)(n:Nat):
  Meets (Builtin.«object.__getattribute__» ⟨[.ref l,.str "keys" u],[]⟩) (fun A R s=>s.heap.get? l=some { cls:=.type "list",data:=.seq lP n }/\raisesAttr (.ref l) "keys" A R s):=
 Meets.of_wp fun prog w A R s hs=>by
  obtain⟨hp,g,d,tk,os⟩:=s;obtain⟨hl,hs⟩:=hs;have hT:(⟨hp,g,d,tk,os⟩:Shared).TypeIs (.ref l) "list":=⟨_,hl,rfl⟩
  have f1:=wm;unfold Builtin.«object.__getattribute__»;repeat (any_goals (first|assumption|wp_step))
  exact wpAny_raiseAttrError hs.1 hs.2 (attrMsg_fits (by decide +kernel) (by decide +kernel))
theorem Ng(hA:A.handled=none)(hl:s.heap.get? l=some { cls:=.type "list",data:=.seq lP n })(h:∀h' tk,(∀b o,s.heap.get? b=some o->h'.get? b=some o)->Q none { s with heap:=h',toks:=tk }):wpAny (model prog w) A (getAttr? (.ref l) "keys") Q E s:=by
 obtain⟨hp,g,d,tk,os⟩:=s;have hT:∀tk,(⟨hp,g,d,tk,os⟩:Shared).TypeIs (.ref l) "list":=fun _=>⟨_,hl,rfl⟩
 have f1:=sub_AttributeError;have f3:=F.slot_list_getattribute.lookup;have f4:=F.slot_list_getattribute.bind (.ref l);have f5:=pZ;unfold getAttr? getAttrBy?;refine aN (wpAny_mkText ?_);refine aN (vx ?_);unfold getAttrBy;repeat (any_goals (first|assumption|((with_reducible show wpAny _ _ (call (Value.builtin "list.__getattribute__") _ _) _ _ _);refine mw F.slot_list_getattribute (hT _) F.entry_list_ga (F.args_list_getattribute_2 _ _) (rO l _ lP n) ⟨hl,hA,fun h' tk' e hx=>?_⟩)|wp_step))
 obtain⟨t',u',he⟩:=hx.there;show wpAny _ _ (getattributeRaised _ _ _ _ _ _ _) _ _ _;unfold getattributeRaised;repeat (any_goals (first|assumption|wp_step))
 exact h _ _ hx.keeps
theorem pM:entryFor table "dict.update.loop"=some Builtin.«dict.update.loop»:=entryFor_of_tree (by kernel_rfl)
theorem iI:plainId "dict.update.loop"=true:=by decide +kernel
def mI(P:Program)(w:World)(h:Heap)(vs:List Value)(ps:List (dS×Value)):Prop:=vs.length=ps.length/\∀ (i:Nat) (v:Value),vs[i]?=some v->∃ (a:Addr) (o:Obj) (n:Nat) (key:Value) (k:dS) (x:Value),v=Value.ref a/\h.get? a=some o/\o.cls=.type "tuple"/\o.data=.seq #[key,x] n/\(bL P w).is k key=true/\ps[i]?=some (k,x)
theorem mI.keeps{P:Program}{w:World}{h h':Heap}{vs:List Value}{ps:List (dS×Value)}(x:mI P w h vs ps)(k:∀b o,(∃xs n,o.data=.seq xs n)->h.get? b=some o->h'.get? b=some o):mI P w h' vs ps:=
 ⟨x.1,fun i v hv=>let ⟨a,o,n,key,kk,y,e1,e2,e3,e4,e5,e6⟩:=x.2 i v hv;⟨a,o,n,key,kk,y,e1,k a o ⟨_,_,e4⟩ e2,e3,e4,e5,e6⟩⟩
section
variable {prog:Program} {w:World} {A:Around} {E:Value->Shared->Prop} {s:Shared} {R:Result->Shared->Prop} {l d Ia:Addr}
theorem Dn{vs:List Value}{ps:List (dS×Value)}(hh:A.handled=none)(hlD:l≠d)(V_:l≠Ia)(WF:d≠Ia):
  ∀ (k i:Nat) (j:Int) (t:Tok) (s:Shared) (kvs:List (dS×Value)),vs.length-i=k->i<=vs.length->s.heap.IsListIter Ia l i->s.heap.IsList l vs.toArray->mI prog w s.heap vs ps->s.heap.DictOf (bL prog w) d kvs->kvs.length+k<=4096->
   (∀h' tk,(∀b o,b≠d->b≠Ia->s.heap.get? b=some o->h'.get? b=some o)->h'.DictOf (bL prog w) d ((ps.drop i).foldl (fun m p=>stored m p.1 p.2) kvs)->R (.ok (.ret .none)) { s with heap:=h',toks:=tk })->
   codeAny (model prog w) A (.builtin "dict.update.loop" ⟨[.ref d,.ref Ia,.int j t,.none],[]⟩) R s:=by
 intro k;induction k with
 |zero=>
  intro i j t s kvs hk hi sW hl hp hD hz hR;refine mh pM ?_;rw[qO iI _];show wpAny _ A.in1 (pyNext (.ref Ia) >>= _) _ _ s;refine aN (zH (show A.in1.handled=none from hh) sW hl (by simp;lia) fun h' eb=>?_);have hd:ps.drop i=[]:=by rw[List.drop_eq_nil_iff];have:=hp.1;lia
  have hR':=hR h' s.toks (fun b o hb IR e=>eb b o IR e);rw[hd] at hR';refine aN (wpAny_pure (wpAny_pure (hR' ?_)));obtain⟨o,es,ep,q1,q2⟩:=hD;exact⟨o,es,ep,eb d o WF q1,q2⟩
 |succ k ih=>
  intro i j t s kvs hk hi sW hl hp hD hz hR;have dL:i<vs.length:=by lia
  refine mh pM ?_;rw[qO iI _];show wpAny _ A.in1 (pyNext (.ref Ia) >>= _) _ _ s;have hv:vs[i]?=some vs[i]:=b9 dL;refine aN (zA sW hl (x:=vs[i]) (by simpa using hv) fun h1 M0 Bv=>?_);obtain⟨a,o,n,key,kk,x,ea,eo,ec,ed,ek,ep⟩:=hp.2 i _ hv;rw[ea];have QQ:∀b ob,(∃xs n,ob.data=.seq xs n)->s.heap.get? b=some ob->b≠Ia:=fun b ob ⟨xs,m,z⟩ e z'=>by
   obtain⟨oi,e1,_,d1⟩:=sW;rw[z',e1] at e;cases e;rw[d1] at z;cases z
  have Wb:mI prog w h1 vs ps:=hp.keeps fun b ob hb e=>(Bv.2 b (QQ b ob hb e)).trans e;have Lx:h1.DictOf (bL prog w) d kvs:=hD.sameBut Bv WF;have IT:h1.IsList l vs.toArray:=by
   obtain⟨ol,q1,q2⟩:=hl;exact⟨ol,(Bv.2 l V_).trans q1,q2⟩
  have QR:h1.get? a=some o:=(Bv.2 a (QQ a o ⟨_,_,ed⟩ eo)).trans eo;have neD:∀b ob,(∃xs n,ob.data=.seq xs n)->h1.get? b=some ob->b≠d:=fun b ob ⟨xs,m,z⟩ e z'=>by
   obtain⟨oS,es,Ms,q1,_,q4,_⟩:=Lx;rw[z',q1] at e;cases e;rw[q4] at z;cases z
  have hT:Shared.TypeIs { s with heap:=h1 } (.ref a) "tuple":=⟨o,QR,ec⟩
  refine aN (ig ?_);show wpAny _ A.in1 (Sem.tryCatch (Builtin.Dict.pairItems (.ref a)) _ >>= _) _ _ _;refine aN (wpAny_tryCatch ?_);unfold Builtin.Dict.pairItems;refine aN (wpAny_typeOf hT ?_);rw[aq (by decide)];refine aN (vt QR ed (wpAny_pure ?_));show wpAny _ A.in1 (holding [key,x] (dictSet d key x)) _ _ _;refine ig (wpAny_dictSet_pairs (s:={ s with heap:=h1 }) ek Lx (fun h2 jj EV=>?_) (bj (by lia:kvs.length<=4096) (by decide)));refine wpAny_pure ⟨plainId_quiet iI _,?_⟩;have C4:i<ps.length:=by have:=hp.1;lia
  have Wc:ps.drop i=(kk,x)::ps.drop (i+1):=by
   rw[uV C4];have:ps[i]?=some ps[i]:=b9 C4;rw[this] at ep;rw[ba ep]
  have eW:(stored kvs kk x).length<=kvs.length+1:=by
   unfold stored;split
   .rw[aF];lia
   .rw[cu];simp
  refine ih (i+1) _ _ { s with heap:=h2,toks:=s.toks+1 } (stored kvs kk x) (by lia) dL ?_ ?_ (Wb.keeps fun b ob hb e=>(EV.2 b (neD b ob hb e)).trans e) jj (by lia) fun h3 Wd k3 D3=>?_
  .obtain⟨oi,q1,q2⟩:=M0;exact⟨oi,(EV.2 Ia (Ne.symm WF)).trans q1,q2⟩
  .obtain⟨ol,q1,q2⟩:=IT;exact⟨ol,(EV.2 l hlD).trans q1,q2⟩
  .refine hR h3 Wd (fun b ob hb IR e=>k3 b ob hb IR ((EV.2 b hb).trans ((Bv.2 b IR).trans e))) ?_;rw[Wc];exact D3
end
section
variable {prog:Program} {w:World} {A:Around} {E:Value->Shared->Prop} {s:Shared} {l:Addr}
theorem Dp{vs:List Value}{n:Nat}{ps:List (dS×Value)}{Q:Value->Shared->Prop}(hh:A.handled=none)(hl:s.heap.get? l=some { cls:=.type "list",data:=.seq vs.toArray n })(hp:mI prog w s.heap vs ps)(hz:vs.length<=4096)(h:∀h' tk,h'.DictOf (bL prog w) s.heap.objs.size (ps.foldl (fun m p=>stored m p.1 p.2) [])->(∀b o,s.heap.get? b=some o->h'.get? b=some o)->Q (.ref s.heap.objs.size) { s with heap:=h',toks:=tk }):
  wpAny (model prog w) A (call (.type "dict") [.ref l]) Q E s:=by
 refine callType_codes (Q₁:=fun obj s₁=>obj=.ref s.heap.objs.size/\s₁={ s with heap:=s.heap.push { cls:=.type "dict",data:=.dict #[] } }) F.kt_called_dict (F.kt_typeCall_dict_1 _) F.entry_dict_init (kt_code_dict_new _ ⟨rfl,rfl⟩) ?_;rintro obj s₁ ⟨rfl,rfl⟩;have oM:(s.heap.push { cls:=.type "dict",data:=.dict #[] }).DictOf (bL prog w) s.heap.objs.size []:=Heap.DictOf.new s.heap;have hsz:(s.heap.push { cls:=.type "dict",data:=.dict #[] }).objs.size=s.heap.objs.size+1:=jp ..;have up:∀b o,s.heap.get? b=some o->(s.heap.push { cls:=.type "dict",data:=.dict #[] }).get? b=some o:=fun b o e=>cR _ e;have dL:l<s.heap.objs.size:=bn hl;refine⟨oM.typeIs,F.args_dict_init_2 _ _,?_⟩;generalize (s.heap.push { cls:=.type "dict",data:=.dict #[] })=hD at *;have hT:Shared.TypeIs { s with heap:=hD } (.ref l) "list":=⟨_,up _ _ hl,rfl⟩
 unfold Builtin.«dict.__init__»;refine aN ?_;unfold Builtin.Dict.selfAndRest;refine aN (wpAny_notOrdered_dict oM.typeIs (wpAny_pure ?_));show wpAny _ _ (Builtin.Dict.updateFrom "dict.__init__" s.heap.objs.size (.ref l) [] .none) _ _ _;unfold Builtin.Dict.updateFrom;refine aN (wpAny_typeOf hT ?_);rw[aq (by decide)];refine aN (Ng (s:={ s with heap:=hD }) (show A.in1.handled=none from hh) (up _ _ hl) fun h1 tk1 k1=>?_);have IT:h1.get? l=some { cls:=.type "list",data:=.seq vs.toArray n }:=k1 _ _ (up _ _ hl);have WG:h1.IsList l vs.toArray:=⟨_,IT,rfl,n,rfl⟩
 rw[aq (by rfl)];refine aN (jv ?_);refine aN (qV (s:={ s with heap:=h1,toks:=tk1 }) WG ?_);have WH:s.heap.objs.size<h1.objs.size:=by
  obtain⟨o,es,ep,q1,q2⟩:=oM;exact bn (k1 _ _ q1)
 refine wpAny_pure ⟨plainId_quiet iI _,?_⟩;refine Dn (l:=l) (vs:=vs) (ps:=ps) (Ia:=h1.objs.size) (show A.in1.handled=none from hh) (bg dL) (bg (q0 dL WH)) (bg WH) vs.length 0 0 0 _ [] (by simp) (dG _) ⟨_,dC _ rfl,rfl,rfl⟩ ?_ ?_ ?_ (by simpa using hz) fun h2 tk2 k2 D2=>?_
 .exact⟨_,cR _ IT,rfl,n,rfl⟩
 .exact hp.keeps fun b o _ e=>cR _ (k1 _ _ (up _ _ e))
 .obtain⟨o,es,ep,q1,q2⟩:=oM;exact⟨o,es,ep,cR _ (k1 _ _ q1),q2⟩
 .refine⟨rfl,h h2 tk2 D2 fun b o e=>k2 b o (bg (bn e)) (bg (q0 (bn e) WH)) (cR _ (k1 _ _ (up _ _ e)))⟩
end
def jD(m:List (dS×V))(ps:List (dS×V)):List (dS×V):=ps.foldl (fun m p=>fN m p.1 p.2) m
theorem KV.fold:∀ {ps:List (dS×V)} {us:List (dS×Value)} {m:List (dS×V)} {m':List (dS×Value)},KV ps us->KV m m'->KV (jD m ps) (us.foldl (fun m p=>stored m p.1 p.2) m')
 |[],_,_,_,.nil,r=>r
 |(k,v)::ps,_,m,m',.cons (b:=(k',u)) q rr,r=>by
  obtain⟨rfl,qv⟩:k=k'/\bq v u:=q;rename_i us;have:=KV.fold (ps:=ps) (us:=us) rr (r.put k qv);exact this
theorem rP:∀ (ps m:List (dS×V)),(jD m ps).length<=m.length+ps.length
 |[],m=>by show m.length<=_;simp
 |p::ps,m=>by
  have h1:=rP ps (fN m p.1 p.2);have h2:=iH m p.1 p.2;show (jD (fN m p.1 p.2) ps).length<=_;rw[cx];lia
theorem BO{P:Program}{w:World}{H:Hp}{h:Heap}(ok:jx P w H h):∀ (ts:List Addr) (ps:List (dS×V)),ts.length=ps.length->(∀i,i<ps.length->∃k v,ps[i]?=some (k,v)/\H (ts.getD i 0)=some (.tup [kV k,v]))->
  ∃us:List (dS×Value),KV ps us/\mI P w h (ts.map Value.ref) us
 |[],[],_,_=>⟨[],.nil,rfl,fun i v hv=>by simp at hv⟩
 |[],_::_,e,_=>by simp at e
 |_::_,[],e,_=>by simp at e
 |t::ts,(k,v)::ps,e,hs=>by
  obtain⟨us,r,T⟩:=BO ok ts ps (by simpa using e) fun i hi=>by
   obtain⟨k',v',h1,h2⟩:=hs (i+1) (by simp;lia);exact⟨k',v',by simpa using h1,by simpa using h2⟩
  obtain⟨k0,v0,g1,g2⟩:=hs 0 (by simp);have g1':(k,v)=(k0,v0):=by simpa using g1
  cases g1';have WI:H t=some (.tup [kV k,v]):=by simpa using g2
  obtain⟨_,its,rv,o,q1,q2,n,q3⟩:=ok t _ WI;cases rv with
  |cons ra rr=>
   cases rr with
   |cons rb rr2=>
    cases rr2;rename_i ka vb;refine⟨(k,vb)::us,.cons ⟨rfl,rb⟩ r,by simp[T.1],fun i x hx=>?_⟩;cases i with
    |zero=>
     have yY:Value.ref t=x:=by simpa using hx
     exact⟨t,o,n,ka,k,vb,yY.symm,q1,q2,q3.1,uq ra,rfl⟩
    |succ i=>exact T.2 i x (by simpa using hx)
section
variable {X:Cx}
def Nh:List V->Hp->VK->Prop:=fun xs H Q=>∃ (l:Addr) (ts:List Addr) (ps:List (dS×V)),xs=[.ref l]/\H l=some (.lst (ts.map V.ref))/\ts.length=ps.length/\(∀i,i<ps.length->∃k v,ps[i]?=some (k,v)/\H (ts.getD i 0)=some (.tup [kV k,v]))/\ps.length<=4096/\
 ∀D,H D=none->Q (.ref D) (upd H D (.dK (jD [] ps)))
theorem rQ(hc:X.calm=true):fA X (.type "dict") Nh:=by
 intro ae s σ H xs us Q I r h;obtain⟨l,ts,ps,rfl,hl,eW,ht,hz,q⟩:=h;obtain⟨u1,rfl,r1⟩:=r.one;obtain rfl:u1=Value.ref l:=r1;obtain⟨z,its,n,rv,_,e⟩:=I.xy hl;have Ay:its=ts.map Value.ref:=wa rv;subst Ay;obtain⟨vs,kv,T⟩:=BO I.bS ts ps eW ht;refine Dp (I.ok.hd hc) e T (by rw[aF,eW];exact hz) fun h' tk D k=>?_;have hs:sysModules<s.heap.objs.size:=q0 (by decide:sysModules<mainGlobals) (I.mod.glob.keeps I.bk).lt;have I2:aQ X ae σ (upd H s.heap.objs.size (.dK (jD [] ps))) { s with heap:=h',toks:=tk }:=by
  refine I.Bs (t':=tk) k (n6 (bf _)) ⟨?_,?_,_,KV.fold kv .nil,D⟩
  .have:=rP ps [];exact bj this (bj (by simpa using hz) (by decide:4096<=sizeLine))
  .rw[lM];exact kA hs
 exact⟨.ref s.heap.objs.size,_,I2,rfl,q _ (I.bS.fresh (bf _))⟩
theorem rR{d:Addr}{o:Obj}{kvs:List (dS×V)}{g:TG}{tb:TS}{D:vz}{σ:St}{H:Hp}(Pv:Nat->St->Hp->Prop)(h0:Pv 0 σ H)(hl:∀i σ H,i<=kvs.length->Pv i σ H->H d=some (.jh o (.dK kvs)))(hs:∀i k v σ H,kvs[i]?=some (k,v)->Pv i σ H->g (kV k) σ H fun σ2 H2=>tb { D with nx:=Pv (i+1),ct:=Pv (i+1),bk:=D.nx } σ2 H2)(hd:∀σ H,Pv kvs.length σ H->D.nx σ H):
  ∃W:Nat->Nat->St->Hp->Prop,(∃m,W 0 m σ H)/\∀i m σ H,W i m σ H->
   ((Nf d o kvs).stop i H/\D.nx σ H)\/((Nf d o kvs).go i H/\∃N:St->Hp->Prop,(∀σ' H',N σ' H'->∃m',m'<m/\W (i+1) m' σ' H')/\∀x H',(Nf d o kvs).Lc i H x H'->g x σ H' fun σ2 H2=>tb { D with nx:=N,ct:=N,bk:=D.nx } σ2 H2):=by
 refine⟨fun i m σ H=>m=kvs.length-i/\i<=kvs.length/\Pv i σ H,⟨kvs.length,by simp,dG _,h0⟩,?_⟩;rintro i m σ H ⟨rfl,hi,p⟩;have q:=hl i σ H hi p;by_cases dL:i<kvs.length
 .refine .inr ⟨⟨q,dL⟩,Pv (i+1),fun σ' H' p'=>⟨kvs.length-(i+1),by lia,rfl,dL,p'⟩,fun x H' y=>?_⟩;obtain⟨rfl,k,v,hk,rfl⟩:=y;exact hs i k v σ _ hk p
 .have e:i=kvs.length:=by lia
  subst e;exact .inl ⟨⟨q,bf _⟩,hd σ H p⟩
theorem uv(hc:X.calm=true):fA X (.builtin "all") (fun xs H Q=>∃ (p:Addr) (bs:List Bool),xs=[.ref p]/\aU X.K H p (bs.map V.bl)/\Q (.bl (bs.all id)) H):=by
 intro ae s σ H xs us Q I r h;obtain⟨p,bs,rfl,hp,q⟩:=h;obtain⟨u1,rfl,r1⟩:=r.one;obtain rfl:u1=Value.ref p:=r1;obtain⟨its,rv,pl,hz⟩:=I.list hp;have Ay:its=bs.map Value.bool:=by
  have go:∀ (bs:List Bool) (its:List Value),aY (bs.map V.bl) its->its=bs.map Value.bool:=by
   intro bs;induction bs with
   |nil=>intro its r;cases r;rfl
   |cons b bs ih=>
    intro its r;cases r with
    |cons r rr=>
     obtain rfl:=(show _=Value.bool b from r)
     rw[ih _ rr];rfl
  exact go bs its rv
 subst Ay;obtain⟨ob,Wm,_⟩:=id pl.isList;have dL:p<s.heap.objs.size:=bn Wm;refine call_all_walk (qV pl.isList ⟨s.heap.objs.size,_,_,_,_,_,fun i=>bs.getD i true,rfl,Walks.list (show X.A.in1.handled=none from I.ok.hd hc) _ p (bg dL) _,⟨⟨_,dC _ rfl,rfl,rfl⟩,pl.isList.push _⟩,fun i v s1 Q' E' hv hq=>?_,fun h' tk k=>?_⟩)
 .have Ad:(bs.map Value.bool)[i]?=some v:=by simpa using hv
  rw[bp] at Ad;cases eb:bs[i]? with
  |none=>rw[eb] at Ad;cases Ad
  |some b=>
   rw[eb] at Ad;obtain rfl:Value.bool b=v:=ba Ad;have:bs.getD i true=b:=by rw[bH,eb];rfl
   have Iw:Q' b s1:=by rw[<-this];exact hq
   exact wpAny_pure Iw
 .have keep:∀b o,s.heap.get? b=some o->h'.get? b=some o:=fun b o e=>k b o (by simpa using bg (bn e)) (cR _ e);refine⟨.bl (bs.all id),H,I.kept (t':=tk) keep,?_,q⟩;show Value.bool _=Value.bool _;congr 1;have go:∀ (bs:List Bool),((List.range bs.length).all fun i=>bs.getD i true)=bs.all id:=by
   intro bs;induction bs with
   |nil=>rfl
   |cons b bs ih=>
    rw[cx,uZ,ku,List.all_map,ku,<-ih];rfl
  rw[<-go bs];simp
end
structure cE(P:Program)(w:World)(K:PySem.W.Frag)(mg:Str->Option Value)(base:Heap)(CX:xr)(k:Nat)(x:Str)(ps:List Str)(sp:Sp):Prop where
 ex:∃f fd,mg x=some (.ref f)/\PySem.W.keepIn K (.ref f)=true/\kH K fd ps []/\bC P w K mg base CX k f fd ps sp
theorem aB(C:cE X.prog X.w X.K X.mg X.base CX k x ps sp)(hr:cD k X.A)(hx:mC CX X E)(ha:PA X (e::es) t)(hg:Gl X x:=by rfl)(CQ:(x==("__debug__":Str))=false:=by decide)(he:starEach (e::es) X.env=(false,eval e X.env)::starEach es X.env:=by rfl)(yW:(backTo pos (starEach es X.env)).any (·.1)=false:=by rfl):
  PE X (.Call (.Name x p) (e::es) [] pos) (pD sp [] E t):=by
 obtain⟨f,fd,a,b,c,d⟩:=C.ex;exact Iv d hr hg a b c .nil hx ha CQ he yW
theorem aj(h:H D=none):aI H (upd H D o):=fun b u e=>by rw[ak (ai e h)];exact e
def aP(p:Addr)(H H':Hp):Prop:=∀b o,H b=some o->b≠p->H' b=some o
theorem aP.trans(a:aP p H H1)(b:aP p H1 H2):aP p H H2:=fun c o h n=>b c o (a c o h n) n
theorem aP.upd:aP p H (upd H p o):=fun b u h n=>by rw[ak n];exact h
theorem aP.of(s:aI H H'):aP p H H':=fun b o h _=>s b o h
theorem aP.free(s:aP p H H')(hp:H' p≠none)(h:H' q=none):H q=none:=by
 cases z:H q with
 |none=>rfl
 |some o=>
  by_cases e:q=p
  .subst e;exact absurd h hp
  .rw[s q o z e] at h;cases h
theorem lq(h:j<n):EL n (j:Int)=some j:=by
 unfold EL;rw[aq (by lia),aq (by lia)];simp
theorem bD(h:as.length=n):(as++[t]).getD j 0=if j=n then t else as.getD j 0:=by
 rw[bH,bH];by_cases hj:j=n
 .subst hj;subst h;rw[aq rfl,mU (bf _),Nat.sub_self];rfl
 .rw[ap hj];by_cases dL:j<as.length
  .rw[iC dL]
  .rw[mU (by lia),iD (by simp;lia),iD (by lia)]
def Holds(H:Hp)(as:List Addr)(n:Nat)(o:Nat->HO):Prop:=as.length=n/\∀j,j<n->H (as.getD j 0)=some (o j)
theorem Holds.nil:Holds H [] 0 o:=⟨rfl,fun j hj=>absurd hj (by lia)⟩
theorem Holds.snoc(h:Holds H as n o)(ht:H t=some (o n)):Holds H (as++[t]) (n+1) o:=by
 refine⟨by rw[cu,h.1];rfl,fun j hj=>?_⟩;rw[bD h.1];by_cases e:j=n
 .rw[aq e,e];exact ht
 .rw[ap e];exact h.2 j (by lia)
theorem Holds.mono(h:Holds H as n o)(e:∀j,j<n->H (as.getD j 0)=some (o j)->H' (as.getD j 0)=some (o j)):Holds H' as n o:=⟨h.1,fun j hj=>e j hj (h.2 j hj)⟩
end L2
namespace PyProof.Rows
open PySem
def fv:Bool->Keyed->Array Keyed->Nat->Nat->Nat->StateT SortSt Sem (Option Nat):=sortPriv% PySem.Builtin.gallop
def rT:Array Keyed->Array Keyed->StateT SortSt Sem (Array Keyed):=sortPriv% PySem.Builtin.mergeLo
def rV:Array Keyed->Array Keyed->StateT SortSt Sem (Array Keyed):=sortPriv% PySem.Builtin.mergeHi
def dB:Nat->StateT SortSt Sem Unit:=sortPriv% PySem.Builtin.setMinGallop
def wn(prog:Program)(w:World)(A:Around)(s:Shared)(κ:SortKind)(a₀:Array Keyed)(key:Keyed->Int):Prop:=
 ∀x y,x∈a₀.toList->y∈a₀.toList->∀ (Q:Bool->Shared->Prop) (E:Value->Shared->Prop),Q (decide (key x<key y)) s->wpAny (model prog w) A (keyLt' κ x.1 y.1) Q E s
structure SQ(κ:SortKind)(a₀:Array Keyed)(pd:Array (Nat×Nat×Nat))(st:SortSt):Prop where
 perm:(arrOf st).Perm a₀
 kind:kindOf st=κ
 failed:failedOf st=none
 pend:pendingOf st=pd
def kk(key:Keyed->Int)(a:Array Keyed)(i:Nat):Int:=(a[i]?.map key).getD 0
def So(key:Keyed->Int)(a:Array Keyed)(lo hi:Nat):Prop:=∀i j,lo<=i->i<=j->j<hi->kk key a i<=kk key a j
def mS(a b:Array Keyed)(lo hi:Nat):Prop:=∀k,k<lo\/hi<=k->b[k]?=a[k]?
theorem mS.refl{a:Array Keyed}{lo hi:Nat}:mS a a lo hi:=fun _ _=>rfl
theorem mS.trans{a b c:Array Keyed}{lo hi:Nat}(x:mS a b lo hi)(y:mS b c lo hi):mS a c lo hi:=fun k h=>(y k h).trans (x k h)
theorem mS.wide{a b:Array Keyed}{lo hi lo' kO:Nat}(x:mS a b lo hi)(h1:lo'<=lo)(h2:hi<=kO):mS a b lo' kO:=fun k h=>x k (by lia)
theorem c_(h:i<a.size):kk key a i=key a[i]:=by unfold kk;rw[dF a i h];rfl
theorem gH(h:a[i]?=b[j]?):kk key a i=kk key b j:=by unfold kk;rw[h]
section
variable {prog:Program} {w:World} {A:Around} {E:Value->Shared->Prop} {s:Shared} {κ:SortKind} {a₀:Array Keyed} {pd:Array (Nat×Nat×Nat)} {key:Keyed->Int}
theorem SQ.size{st:SortSt}(h:SQ κ a₀ pd st):(arrOf st).size=a₀.size:=h.perm.size_eq
theorem SQ.setArr{st:SortSt}(h:SQ κ a₀ pd st){xs:Array Keyed}(hp:xs.Perm (arrOf st)):SQ κ a₀ pd (setArr st xs):=⟨hp.trans h.perm,h.kind,h.failed,h.pend⟩
theorem SQ.at{st:SortSt}(h:SQ κ a₀ pd st){i:Nat}(hi:i<a₀.size):∃p,(arrOf st)[i]?=some p/\p∈a₀.toList:=by
 have kO:i<(arrOf st).size:=by rw[h.size];exact hi
 exact⟨(arrOf st)[i],dF _ i kO,(lJ.mp h.perm).mem_iff.mp (by simp)⟩
theorem rW{st:SortSt}{x y:Keyed}{Q:Option Bool->SortSt->Prop}(hC:wn prog w A s κ a₀ key)(hk:kindOf st=κ)(hx:x∈a₀.toList)(hy:y∈a₀.toList)(h:Q (some (decide (key x<key y))) st):wpS (model prog w) A E s (lt' x y) Q st:=by
 rw[lt'_eq];refine aD (gN ?_);rw[hk];refine aD (my (vx (hC x y hx hy _ _ ⟨rfl,?_⟩)));exact aO h
theorem bz{st:SortSt}{arr:Array Keyed}{i:Nat}{p:Keyed}{Q:Keyed->SortSt->Prop}(hi:arr[i]?=some p)(h:Q p st):wpS (model prog w) A E s (elem' arr i) Q st:=by
 rw[elem'_eq,hi];exact aO h
theorem ny{st:SortSt}{i j:Nat}{Q:Option Bool->SortSt->Prop}(hC:wn prog w A s κ a₀ key)(hB:SQ κ a₀ pd st)(hi:i<a₀.size)(hj:j<a₀.size)(h:∀b,b=decide (kk key (arrOf st) i<kk key (arrOf st) j)->Q (some b) st):wpS (model prog w) A E s (ltAt' i j) Q st:=by
 obtain⟨p,e1,m1⟩:=hB.at hi;obtain⟨q,e2,m2⟩:=hB.at hj;rw[ltAt'_eq];refine aD (gN ?_);refine aD (bz e1 (aD (bz e2 (rW hC hB.kind m1 m2 (h _ ?_)))));unfold kk;rw[e1,e2];rfl
theorem qx{st:SortSt}{i j:Nat}{Q:Unit->SortSt->Prop}(hB:SQ κ a₀ pd st)(hj:j<=a₀.size)(h:∀aW,SQ κ a₀ pd aW->(∀k,(arrOf aW)[k]?=if i<=k/\k<j then (arrOf st)[i+j-1-k]? else (arrOf st)[k]?)->Q () aW):wpS (model prog w) A E s (reverseSlice' i j) Q st:=by
 rw[reverseSlice'_eq];exact fY (h _ (hB.setArr (mirror_perm _ _ _ _)) (getElem?_mirror_all (by rw[hB.size];exact hj)))
theorem Fn{st:SortSt}{i j:Nat}{Q:Unit->SortSt->Prop}(hB:SQ κ a₀ pd st)(hi:i<a₀.size)(hj:j<=i)(h:∀aW,SQ κ a₀ pd aW->(∀k,(arrOf aW)[k]?=if k=j then (arrOf st)[i]? else if j<k/\k<=i then (arrOf st)[k-1]? else (arrOf st)[k]?)->Q () aW):wpS (model prog w) A E s (moveDown' i j) Q st:=by
 rw[moveDown'_eq];refine fY (h _ (hB.setArr (bubble_perm _ _ _)) fun k=>?_);have:=getElem?_bubble (xs:=arrOf st) (src:=i) (by rw[hB.size];exact hi) (i-j) (by lia) k;rw[show i-(i-j)=j by lia] at this;exact this
theorem Jj{st:SortSt}{lo n ok:Nat}{Q:Bool->SortSt->Prop}(hC:wn prog w A s κ a₀ key)(hn:lo+n<=a₀.size)(bS:ok<=n)(hB:SQ κ a₀ pd st)(hs:So key (arrOf st) lo (lo+ok))(h:∀aW,SQ κ a₀ pd aW->So key (arrOf aW) lo (lo+n)->mS (arrOf st) (arrOf aW) lo (lo+n)->Q true aW):wpS (model prog w) A E s (binarySort' lo n ok) Q st:=by
 rw[binarySort'_eq];refine aD (dY (gx (I:=fun k c aW=>c=(none,())/\SQ κ a₀ pd aW/\So key (arrOf aW) lo (lo+k)/\mS (arrOf st) (arrOf aW) lo (lo+n)) (Q:=fun c aW=>c=(none,())/\SQ κ a₀ pd aW/\So key (arrOf aW) lo (lo+n)/\mS (arrOf st) (arrOf aW) lo (lo+n)) ?_ (fun c aW hh=>⟨hh.1,hh.2.1,fun i j h1 h2 h3=>hh.2.2.1 i j h1 h2 (by lia),hh.2.2.2⟩) ⟨rfl,hB,fun i j h1 h2 h3=>?_,mS.refl⟩) ?_)
 .rintro k c aW xU Fp ⟨rfl,Uy,so,ou⟩;dsimp only;refine aD (dY (gx (I:=fun x c Ni=>(∃l r,c=(none,l,r)/\l<=r/\r<=k/\r<=l+(k-x)/\(∀i,i<l->kk key (arrOf aW) (lo+i)<=kk key (arrOf aW) (lo+k))/\(∀i,r<=i->i<k->kk key (arrOf aW) (lo+k)<=kk key (arrOf aW) (lo+i)))/\Ni=aW) (Q:=fun c Ni=>(∃l r,c=(none,l,r)/\l<=k/\(∀i,i<l->kk key (arrOf aW) (lo+i)<=kk key (arrOf aW) (lo+k))/\(∀i,l<=i->i<k->kk key (arrOf aW) (lo+k)<=kk key (arrOf aW) (lo+i)))/\Ni=aW) ?_ ?_ ⟨⟨_,_,rfl,dG _,bf _,by lia,fun i h=>by lia,fun i h h'=>by lia⟩,rfl⟩) ?_)
  .rintro x c i6 _ hx ⟨⟨l,r,rfl,WJ,hr,hrl,f1,f2⟩,rfl⟩;dsimp only;by_cases BP:l>=r
   .rw[aq BP];exact aO ⟨⟨_,_,rfl,by lia,f1,fun i hi kO=>f2 i (by lia) kO⟩,rfl⟩
   .rw[ap BP];refine aD (ny hC Uy (by lia) (by lia) fun b eb=>?_);cases b
    .have e:=mW eb.symm;refine aO ⟨⟨_,_,rfl,by lia,hr,by lia,fun i hi=>?_,f2⟩,rfl⟩;have:=so (lo+i) (lo+(l+r) / 2) (by lia) (by lia) (by lia);lia
    .have e:=bU eb.symm;refine aO ⟨⟨_,_,rfl,by lia,by lia,by lia,f1,fun i hi kO=>?_⟩,rfl⟩;have:=so (lo+(l+r) / 2) (lo+i) (by lia) (by lia) (by lia);lia
  .rintro c i6 ⟨⟨l,r,rfl,WJ,hr,hrl,f1,f2⟩,rfl⟩;exact⟨⟨_,_,rfl,by lia,f1,fun i hi kO=>f2 i (by lia) kO⟩,rfl⟩
  .rintro c i6 ⟨⟨l,r,rfl,hl,f1,f2⟩,rfl⟩;dsimp only;refine aD (Fn Uy (by lia) (by lia) fun vF Dq hg=>aO ⟨rfl,Dq,fun i j h1 h2 h3=>?_,fun q hq=>?_⟩)
   .have gi:=hg i;have gj:=hg j;have ei:kk key (arrOf vF) i=if i=lo+l then kk key (arrOf i6) (lo+k) else if lo+l<i/\i<=lo+k then kk key (arrOf i6) (i-1) else kk key (arrOf i6) i:=by
     unfold kk;rw[gi];split
     .rfl
     .split <;> rfl
    have ej:kk key (arrOf vF) j=if j=lo+l then kk key (arrOf i6) (lo+k) else if lo+l<j/\j<=lo+k then kk key (arrOf i6) (j-1) else kk key (arrOf i6) j:=by
     unfold kk;rw[gj];split
     .rfl
     .split <;> rfl
    rw[ei,ej];by_cases c1:i=lo+l
    .rw[aq c1];by_cases c2:j=lo+l
     .rw[aq c2];lia
     .rw[ap c2,aq (by lia)];have:=f2 (j-1-lo) (by lia) (by lia);rw[show lo+(j-1-lo)=j-1 by lia] at this;exact this
    .rw[ap c1];by_cases c3:lo+l<i/\i<=lo+k
     .rw[aq c3,ap (by lia),aq (by lia)];exact so _ _ (by lia) (by lia) (by lia)
     .rw[ap c3];by_cases c2:j=lo+l
      .rw[aq c2];have:=f1 (i-lo) (by lia);rw[show lo+(i-lo)=i by lia] at this;exact this
      .rw[ap c2];by_cases c4:lo+l<j/\j<=lo+k
       .rw[aq c4];exact so _ _ (by lia) (by lia) (by lia)
       .rw[ap c4];exact so _ _ (by lia) (by lia) (by lia)
   .rw[hg q,ap (by lia),ap (by lia)];exact ou q hq
 .by_cases ho:ok=0
  .have:i=j:=by subst ho;have:max 0 1=1:=rfl;lia
   rw[this];exact mr _
  .exact hs i j h1 h2 (by (have:max ok 1=ok:=by lia);lia)
 .rintro c aW ⟨rfl,Uy,so,ou⟩;exact aO (h aW Uy so ou)
end
def Nj(lo cV n:Nat):StateT SortSt Sem (Option Nat):=do
 reverseSlice' lo (lo+n)
 let mut n:=n
 for _ in [n:cV] do
  let some jE <- ltAt' (lo+n) (lo+n-1)|return none
  if jE then break
  n:=n+1
 return some n
def Nk(lo cV n:Nat):StateT SortSt Sem (Option Nat):=do
 rule "list.sort.descending-run"
 let mut n:=n+1
 let mut neq:=0
 for _ in [n:cV] do
  let some jE <- ltAt' (lo+n) (lo+n-1)|return none
  if jE then
   if neq > 0 then reverseSlice' (lo+n-(neq+1)) (lo+n)
   neq:=0
  else
   let some Nl <- ltAt' (lo+n-1) (lo+n)|return none
   if Nl then break
   neq:=neq+1
  n:=n+1
 if neq > 0 then reverseSlice' (lo+n-(neq+1)) (lo+n)
 Nj lo cV n
theorem tL(lo cV:Nat):countRun' lo cV=(do
 let mut n:=1
 for _ in [1:cV] do
  let some jE <- ltAt' (lo+n) (lo+n-1)|return none
  if jE then break
  n:=n+1
 if n==cV then return some n
 if n > 1 then
  let some WK <- ltAt' lo (lo+n-1)|return none
  if WK then return some n
  reverseSlice' lo (lo+n)
 Nk lo cV n):=rfl
section
variable {prog:Program} {w:World} {A:Around} {E:Value->Shared->Prop} {s:Shared} {κ:SortKind} {a₀:Array Keyed} {pd:Array (Nat×Nat×Nat)} {key:Keyed->Int} {ar:Array Keyed}
def De(key:Keyed->Int)(a:Array Keyed)(lo hi:Nat):Prop:=∀i j,lo<=i->i<=j->j<hi->kk key a j<=kk key a i
theorem AE(h:∀k,b[k]?=if i<=k/\k<j then a[i+j-1-k]? else a[k]?)(k:Nat):kk key b k=if i<=k/\k<j then kk key a (i+j-1-k) else kk key a k:=by
 unfold kk;rw[h k];split <;> rfl
theorem rX(h:∀k,b[k]?=if i<=k/\k<j then a[i+j-1-k]? else a[k]?)(e:∀k,i<=k->k<j->kk key a k=kk key a (j-1))(k:Nat):kk key b k=kk key a k:=by
 rw[AE h];split
 .rename_i c;rw[e _ (by lia) (by lia),e k c.1 c.2]
 .rfl
theorem qy{a b:Array Keyed}{i j lo hi:Nat}(h:∀k,b[k]?=if i<=k/\k<j then a[i+j-1-k]? else a[k]?)(h1:lo<=i)(h2:j<=hi):mS a b lo hi:=fun k hk=>by rw[h k,ap (by lia)]
theorem BQ{st:SortSt}{lo cV n:Nat}{Q:Option (Option Nat)×Nat->SortSt->Prop}(hC:wn prog w A s κ a₀ key)(hn:lo+cV<=a₀.size)(h1:1<=n)(h2:n<=cV)(hB:SQ κ a₀ pd st)(so:So key (arrOf st) lo (lo+n))(h:∀m,n<=m->m<=cV->So key (arrOf st) lo (lo+m)->(m=cV\/kk key (arrOf st) (lo+m)<kk key (arrOf st) (lo+m-1))->Q (none,m) st):
  wpS (model prog w) A E s (forIn [n:cV] ((none:Option (Option Nat)),n) fun _ r=>do
   let some jE <- ltAt' (lo+r.2) (lo+r.2-1)|pure (ForInStep.done (some none,r.2))
   if jE then pure (ForInStep.done (none,r.2)) else pure (ForInStep.yield (none,r.2+1))) Q st:=by
 refine dY (gx (I:=fun i c aW=>aW=st/\c=(none,i)/\So key (arrOf st) lo (lo+i)) (Q:=fun c aW=>aW=st/\∃m,c=(none,m)/\n<=m/\m<=cV/\So key (arrOf st) lo (lo+m)/\(m=cV\/kk key (arrOf st) (lo+m)<kk key (arrOf st) (lo+m-1))) ?_ ?_ ⟨rfl,rfl,so⟩) ?_
 .rintro i c DU hi1 C4 ⟨rfl,rfl,Ly⟩;dsimp only;refine aD (ny hC hB (by lia) (by lia) fun b eb=>?_);cases b
  .have e:=mW eb.symm;refine aO ⟨rfl,rfl,fun x y hx HG hy=>?_⟩;by_cases c1:y<lo+i
   .exact Ly x y hx HG c1
   .have:y=lo+i:=by lia
    subst this;by_cases c2:x=lo+i
    .rw[c2];lia
    .have:=Ly x (lo+i-1) hx (by lia) (by lia);lia
  .exact aO ⟨rfl,_,rfl,by lia,by lia,Ly,.inr (bU eb.symm)⟩
 .rintro c DU ⟨rfl,rfl,Ly⟩;have:max n cV=cV:=by lia
  rw[this] at Ly |-;exact⟨rfl,_,rfl,by lia,by lia,Ly,.inl rfl⟩
 .rintro c DU ⟨rfl,m,rfl,m1,m2,Ly,e⟩;exact h m m1 m2 Ly e
theorem BR{st:SortSt}{lo cV n:Nat}{Q:Option Nat->SortSt->Prop}(hC:wn prog w A s κ a₀ key)(hn:lo+cV<=a₀.size)(h1:1<=n)(h2:n<=cV)(hB:SQ κ a₀ pd st)(de:De key (arrOf st) lo (lo+n))(ou:mS ar (arrOf st) lo (lo+cV))(h:∀n aW,SQ κ a₀ pd aW->1<=n->n<=cV->So key (arrOf aW) lo (lo+n)->mS ar (arrOf aW) lo (lo+cV)->Q (some n) aW):wpS (model prog w) A E s (Nj lo cV n) Q st:=by
 unfold Nj;refine aD (qx hB (by lia) fun i6 AF hg=>?_);refine aD (BQ hC hn h1 h2 AF (fun i j hi Jk hj=>?_) fun m m1 m2 so _=>?_)
 .rw[AE hg,AE hg,aq (by lia),aq (by lia)];exact de _ _ (by lia) (by lia) (by lia)
 .exact aO (h m i6 AF (by lia) m2 so (ou.trans (qy hg (by lia) (by lia))))
theorem BS{st:SortSt}{lo cV n:Nat}{Q:Option Nat->SortSt->Prop}(hC:wn prog w A s κ a₀ key)(hn:lo+cV<=a₀.size)(h1:1<=n)(h2:n<cV)(hB:SQ κ a₀ pd st)(de:De key (arrOf st) lo (lo+(n+1)))(ou:mS ar (arrOf st) lo (lo+cV))(h:∀n aW,SQ κ a₀ pd aW->1<=n->n<=cV->So key (arrOf aW) lo (lo+n)->mS ar (arrOf aW) lo (lo+cV)->Q (some n) aW):wpS (model prog w) A E s (Nk lo cV n) Q st:=by
 unfold Nk;refine aD (my (jv ⟨rfl,?_⟩));dsimp only;refine aD (dY (gx (I:=fun i c aW=>SQ κ a₀ pd aW/\De key (arrOf aW) lo (lo+i)/\mS ar (arrOf aW) lo (lo+cV)/\∃q,c=(none,i,q)/\q+1<=i/\∀k,lo+i-(q+1)<=k->k<lo+i->kk key (arrOf aW) k=kk key (arrOf aW) (lo+i-1)) (Q:=fun c aW=>SQ κ a₀ pd aW/\mS ar (arrOf aW) lo (lo+cV)/\∃i q,c=(none,i,q)/\De key (arrOf aW) lo (lo+i)/\1<=i/\i<=cV/\q+1<=i/\∀k,lo+i-(q+1)<=k->k<lo+i->kk key (arrOf aW) k=kk key (arrOf aW) (lo+i-1)) ?_ ?_ ⟨hB,de,ou,_,rfl,by lia,fun k xU Fp=>by rw[show k=lo+(n+1)-1 by lia]⟩) ?_)
 .rintro i c vF hi1 C4 ⟨Dq,Jl,Fq,q,rfl,hq,eq⟩;dsimp only;have step:∀aW,(∀k,kk key (arrOf aW) k=kk key (arrOf vF) k)->kk key (arrOf vF) (lo+i)<=kk key (arrOf vF) (lo+i-1)->De key (arrOf aW) lo (lo+(i+1)):=by
   intro aW e dL x y hx HG hy;rw[e,e];by_cases c1:y<lo+i
   .exact Jl x y hx HG c1
   .have:y=lo+i:=by lia
    subst this;by_cases c2:x=lo+i
    .rw[c2];lia
    .have:=Jl x (lo+i-1) hx (by lia) (by lia);lia
  refine aD (ny hC Dq (by lia) (by lia) fun b3 e3=>?_);cases b3
  .have e3':=mW e3.symm;dsimp only;rw[ap (by decide)];refine aD (ny hC Dq (by lia) (by lia) fun b4 e4=>?_);cases b4
   .have e4':=mW e4.symm;refine aO ⟨Dq,step vF (fun _=>rfl) (by lia),Fq,_,rfl,by lia,fun k xU Fp=>?_⟩;rw[show lo+(i+1)-1=lo+i by lia];by_cases c1:k=lo+i
    .rw[c1]
    .have:=eq k (by lia) (by lia);lia
   .exact aO ⟨Dq,Fq,_,_,rfl,Jl,by lia,by lia,hq,eq⟩
  .have e3':=bU e3.symm;dsimp only;rw[aq rfl];split
   .refine aD (qx Dq (by lia) fun sZ PL hg=>aO ⟨PL,step sZ (rX hg eq) (by lia),Fq.trans (qy hg (by lia) (by lia)),_,rfl,by lia,fun k xU Fp=>by rw[show k=lo+(i+1)-1 by lia]⟩)
   .exact aO ⟨Dq,step vF (fun _=>rfl) (by lia),Fq,_,rfl,by lia,fun k xU Fp=>by rw[show k=lo+(i+1)-1 by lia]⟩
 .rintro c vF ⟨Dq,Jl,Fq,q,rfl,hq,eq⟩;have:max (n+1) cV=cV:=by lia
  rw[this] at Jl hq eq |-;exact⟨Dq,Fq,_,_,rfl,Jl,by lia,by lia,hq,eq⟩
 .rintro c vF ⟨Dq,Fq,i,q,rfl,Jl,i1,i2,hq,eq⟩;dsimp only;split
  .refine aD (qx Dq (by lia) fun sZ PL hg=>?_);refine BR hC hn i1 i2 PL (fun x y hx HG hy=>?_) (Fq.trans (qy hg (by lia) (by lia))) h;rw[rX hg eq,rX hg eq];exact Jl x y hx HG hy
  .exact BR hC hn i1 i2 Dq Jl Fq h
theorem Dr{st:SortSt}{lo cV:Nat}{Q:Option Nat->SortSt->Prop}(hC:wn prog w A s κ a₀ key)(hn:lo+cV<=a₀.size)(h1:1<=cV)(hB:SQ κ a₀ pd st)(h:∀n aW,SQ κ a₀ pd aW->1<=n->n<=cV->So key (arrOf aW) lo (lo+n)->mS (arrOf st) (arrOf aW) lo (lo+cV)->Q (some n) aW):wpS (model prog w) A E s (countRun' lo cV) Q st:=by
 rw[tL];refine aD (BQ hC hn (bf 1) h1 hB (fun i j hi Jk hj=>by rw[show i=j by lia];exact mr _) fun n n1 n2 so e=>?_);dsimp only;by_cases e1:(n==cV)=true
 .rw[aq e1];exact aO (h n st hB n1 n2 so mS.refl)
 rw[ap e1];have g1:¬ (n=cV):=by simpa using e1
 have dL:kk key (arrOf st) (lo+n)<kk key (arrOf st) (lo+n-1):=e.resolve_left g1;by_cases e2:n > 1
 .rw[aq e2];refine aD (ny hC hB (by lia) (by lia) fun b2 eb=>?_);cases b2
  .have e3:=mW eb.symm;dsimp only;rw[ap (by decide)];have eq:∀k,lo<=k->k<lo+n->kk key (arrOf st) k=kk key (arrOf st) (lo+n-1):=fun k xU Fp=>by
    have a1:=so lo k (by lia) xU Fp;have a2:=so k (lo+n-1) xU (by lia) (by lia);lia
   refine aD (qx hB (by lia) fun i6 AF hg=>?_);refine BS hC hn n1 (by lia) AF (fun i j hi Jk hj=>?_) (qy hg (by lia) (by lia)) h;rw[rX hg eq,rX hg eq];by_cases c1:j<lo+n
   .rw[eq j (by lia) c1,eq i hi (by lia)];exact mr _
   .have:j=lo+n:=by lia
    subst this;by_cases c2:i=lo+n
    .rw[c2];exact mr _
    .rw[eq i hi (by lia)];lia
  .exact aO (h n st hB n1 n2 so mS.refl)
 .rw[ap e2];have:n=1:=by lia
  subst this;refine BS hC hn n1 (by lia) hB (fun i j hi Jk hj=>?_) mS.refl h;by_cases c1:i=j
  .rw[c1];exact mr _
  .have:i=lo:=by lia
   have:j=lo+1:=by lia
   subst i;subst j;rw[show lo+1-1=lo by lia] at dL;lia
end
theorem AG(left:Bool)(key:Keyed)(arr:Array Keyed)(base n fh:Nat):fv left key arr base n fh=(do
 let wo (i:Nat):StateT SortSt Sem (Option Bool):=do
  let x <- elem' arr (base+i)
  if left then lt' x key else return (<-lt' key x).map (!·)
 let mut lastofs:=0
 let mut ofs:=1
 let mut lo:=0
 let mut hi:=0
 let some right <- wo fh|return none
 if right then
  let rY:=n-fh
  for _ in [0:n] do
   if ofs>=rY then break
   let some more <- wo (fh+ofs)|return none
   if !more then break
   lastofs:=ofs
   ofs:=2*ofs+1
  lo:=fh+lastofs+1
  hi:=fh+min ofs rY
 else
  let rY:=fh+1
  for _ in [0:n] do
   if ofs>=rY then break
   let some Fs <- wo (fh-ofs)|return none
   if Fs then break
   lastofs:=ofs
   ofs:=2*ofs+1
  lo:=fh+1-min ofs rY
  hi:=fh-lastofs
 for _ in [0:n] do
  if lo>=hi then break
  let m:=lo+(hi-lo) / 2
  let some more <- wo m|return none
  if more then lo:=m+1 else hi:=m
 return some hi):=rfl
def rZ(left:Bool)(k:Int):Int:=if left then k else k+1
section
variable {prog:Program} {w:World} {A:Around} {E:Value->Shared->Prop} {s:Shared} {κ:SortKind} {a₀:Array Keyed} {pd:Array (Nat×Nat×Nat)} {key:Keyed->Int}
theorem jF{st:SortSt}{left:Bool}{x:Keyed}{arr:Array Keyed}{j:Nat}{Q:Option Bool->SortSt->Prop}(hC:wn prog w A s κ a₀ key)(hk:kindOf st=κ)(pW:x∈a₀.toList)(uw:∀x∈arr.toList,x∈a₀.toList)(hj:j<arr.size)(h:∀b,b=decide (kk key arr j<rZ left (key x))->Q (some b) st):
  wpS (model prog w) A E s (do
  let y <- elem' arr j
  if left then lt' y x else return (<-lt' x y).map (!·)) Q st:=by
 have hm:arr[j]∈a₀.toList:=uw _ (by simp);refine aD (bz (dF arr j hj) ?_);cases left
 .rw[ap (by decide)];refine aD (rW hC hk pW hm (aO (h _ ?_)));rw[c_ hj];show (!decide (key x<key arr[j]))=decide (key arr[j]<key x+1);by_cases c:key x<key arr[j]
  .rw[bE c,dk (by lia)];rfl
  .rw[dk c,bE (by lia)];rfl
 .rw[aq rfl];refine rW hC hk hm pW (h _ ?_);rw[c_ hj];rfl
theorem xV{st:SortSt}{left:Bool}{x:Keyed}{arr:Array Keyed}{base n l u:Nat}{Q:Option Nat->SortSt->Prop}(hC:wn prog w A s κ a₀ key)(hk:kindOf st=κ)(pW:x∈a₀.toList)(uw:∀x∈arr.toList,x∈a₀.toList)(hn:base+n<=arr.size)(so:So key arr base (base+n))(hl:l<=u)(hu:u<=n)(f1:∀i,i<l->kk key arr (base+i)<rZ left (key x))(f2:∀i,u<=i->i<n->rZ left (key x)<=kk key arr (base+i))(h:∀k,k<=n->(∀i,i<k->kk key arr (base+i)<rZ left (key x))->(∀i,k<=i->i<n->rZ left (key x)<=kk key arr (base+i))->Q (some k) st):wpS (model prog w) A E s (do
   let mut lo:=l
   let mut hi:=u
   for _ in [0:n] do
    if lo>=hi then break
    let m:=lo+(hi-lo) / 2
    let some more <- (do
     let y <- elem' arr (base+m)
     if left then lt' y x else return (<-lt' x y).map (!·))|return none
    if more then lo:=m+1 else hi:=m
   return some hi) Q st:=by
 refine aD (dY (gx (I:=fun j c aW=>(∃l u,c=(none,l,u)/\l<=u/\u<=n/\u<=l+(n-j)/\(∀i,i<l->kk key arr (base+i)<rZ left (key x))/\(∀i,u<=i->i<n->rZ left (key x)<=kk key arr (base+i)))/\st=aW) (Q:=fun c aW=>(∃l u,c=(none,l,u)/\u<=l/\u<=n/\(∀i,i<l->kk key arr (base+i)<rZ left (key x))/\(∀i,u<=i->i<n->rZ left (key x)<=kk key arr (base+i)))/\st=aW) ?_ ?_ ⟨⟨_,_,rfl,hl,hu,by lia,f1,f2⟩,rfl⟩) ?_)
 .rintro j c aW _ hj ⟨⟨l,u,rfl,hlu,hu,hd,f1,f2⟩,rfl⟩;dsimp only;by_cases BP:l>=u
  .rw[aq BP];exact aO ⟨⟨_,_,rfl,BP,hu,f1,f2⟩,rfl⟩
  .rw[ap BP];refine aD (jF hC hk pW uw (by lia) fun more e=>?_);cases more
   .have e':=mW e.symm;refine aO ⟨⟨_,_,rfl,by lia,by lia,by lia,f1,fun i hi kO=>?_⟩,rfl⟩;have:=so (base+(l+(u-l) / 2)) (base+i) (by lia) (by lia) (by lia);lia
   .have e':=bU e.symm;refine aO ⟨⟨_,_,rfl,by lia,by lia,by lia,fun i hi=>?_,f2⟩,rfl⟩;have:=so (base+i) (base+(l+(u-l) / 2)) (by lia) (by lia) (by lia);lia
 .rintro c aW ⟨⟨l,u,rfl,hlu,hu,hd,f1,f2⟩,rfl⟩;exact⟨⟨_,_,rfl,by lia,hu,f1,f2⟩,rfl⟩
 .rintro c aW ⟨⟨l,u,rfl,hlu,hu,f1,f2⟩,rfl⟩;exact aO (h u hu (fun i hi=>f1 i (by lia)) f2)
theorem gh{st:SortSt}{left:Bool}{x:Keyed}{arr:Array Keyed}{base n fh:Nat}{Q:Option Nat->SortSt->Prop}(hC:wn prog w A s κ a₀ key)(hk:kindOf st=κ)(pW:x∈a₀.toList)(uw:∀x∈arr.toList,x∈a₀.toList)(hn:base+n<=arr.size)(hh:fh<n)(so:So key arr base (base+n))(h:∀k,k<=n->(∀i,i<k->kk key arr (base+i)<rZ left (key x))->(∀i,k<=i->i<n->rZ left (key x)<=kk key arr (base+i))->Q (some k) st):wpS (model prog w) A E s (fv left x arr base n fh) Q st:=by
 rw[AG];refine aD (jF hC hk pW uw (by lia) fun right er=>?_);cases right
 .have er':=mW er.symm;dsimp only;rw[ap (by decide)];refine aD (dY (gx (I:=fun j c aW=>(∃l o,c=(none,l,o)/\l<o/\j<o/\l<=fh/\rZ left (key x)<=kk key arr (base+(fh-l)))/\st=aW) (Q:=fun c aW=>(∃l o,c=(none,l,o)/\l<o/\l<=fh/\rZ left (key x)<=kk key arr (base+(fh-l))/\(fh+1<=o\/kk key arr (base+(fh-o))<rZ left (key x)))/\st=aW) ?_ ?_ ⟨⟨_,_,rfl,by lia,by lia,by lia,by rw[vv];lia⟩,rfl⟩) ?_)
  .rintro j c aW _ _ ⟨⟨l,o,rfl,xB,WL,hl,f⟩,rfl⟩;dsimp only;by_cases BP:o>=fh+1
   .rw[aq BP];exact aO ⟨⟨_,_,rfl,xB,hl,f,.inl BP⟩,rfl⟩
   .rw[ap BP];refine aD (jF hC hk pW uw (by lia) fun Fs e=>?_);cases Fs
    .have e':=mW e.symm;exact aO ⟨⟨_,_,rfl,by lia,by lia,by lia,by lia⟩,rfl⟩
    .exact aO ⟨⟨_,_,rfl,xB,hl,f,.inr (bU e.symm)⟩,rfl⟩
  .rintro c aW ⟨⟨l,o,rfl,xB,WL,hl,f⟩,rfl⟩;exact⟨⟨_,_,rfl,xB,hl,f,.inl (by lia)⟩,rfl⟩
  .rintro c aW ⟨⟨l,o,rfl,xB,hl,f,e⟩,rfl⟩;dsimp only;refine xV hC hk pW uw hn so (by lia) (by lia) (fun i hi=>?_) (fun i hi kO=>?_) h
   .rcases e with e|e
    .lia
    .by_cases c:fh+1<=o
     .lia
     .have:=so (base+i) (base+(fh-o)) (by lia) (by lia) (by lia);lia
   .have:=so (base+(fh-l)) (base+i) (by lia) (by lia) (by lia);lia
 .have er':=bU er.symm;dsimp only;rw[aq rfl];refine aD (dY (gx (I:=fun j c aW=>(∃l o,c=(none,l,o)/\l<o/\j<o/\l<n-fh/\kk key arr (base+(fh+l))<rZ left (key x))/\st=aW) (Q:=fun c aW=>(∃l o,c=(none,l,o)/\l<o/\l<n-fh/\kk key arr (base+(fh+l))<rZ left (key x)/\(n-fh<=o\/rZ left (key x)<=kk key arr (base+(fh+o))))/\st=aW) ?_ ?_ ⟨⟨_,_,rfl,by lia,by lia,by lia,by rw[jr];exact er'⟩,rfl⟩) ?_)
  .rintro j c aW _ _ ⟨⟨l,o,rfl,xB,WL,hl,f⟩,rfl⟩;dsimp only;by_cases BP:o>=n-fh
   .rw[aq BP];exact aO ⟨⟨_,_,rfl,xB,hl,f,.inl BP⟩,rfl⟩
   .rw[ap BP];refine aD (jF hC hk pW uw (by lia) fun more e=>?_);cases more
    .have e':=mW e.symm;exact aO ⟨⟨_,_,rfl,xB,hl,f,.inr (by lia)⟩,rfl⟩
    .exact aO ⟨⟨_,_,rfl,by lia,by lia,by lia,bU e.symm⟩,rfl⟩
  .rintro c aW ⟨⟨l,o,rfl,xB,WL,hl,f⟩,rfl⟩;exact⟨⟨_,_,rfl,xB,hl,f,.inl (by lia)⟩,rfl⟩
  .rintro c aW ⟨⟨l,o,rfl,xB,hl,f,e⟩,rfl⟩;dsimp only;refine xV hC hk pW uw hn so (by lia) (by lia) (fun i hi=>?_) (fun i hi kO=>?_) h
   .have:=so (base+i) (base+(fh+l)) (by lia) (by lia) (by lia);lia
   .rcases e with e|e
    .lia
    .by_cases c:n-fh<=o
     .lia
     .have:=so (base+(fh+o)) (base+i) (by lia) (by lia) (by lia);lia
end
theorem eZ(g:Nat):dB g=modify fun s=>SortSt.mk' (kindOf s) (arrOf s) (pendingOf s) g (failedOf s):=rfl
structure SM(κ:SortKind)(ar:Array Keyed)(pd:Array (Nat×Nat×Nat))(st:SortSt):Prop where
 arr:arrOf st=ar
 kind:kindOf st=κ
 failed:failedOf st=none
 pend:pendingOf st=pd
abbrev Uz:=Option (Array Keyed)×Array Keyed×Nat×Nat×Nat×Nat×Nat
abbrev mJ(a b out:Array Keyed)(ia ib:Nat):=out++a.extract ia a.size++b.extract ib b.size
abbrev wq(a b out:Array Keyed)(ia ib:Nat):=out++b.extract ib b.size++a.extract ia a.size
def UA(a b out:Array Keyed)(ia ib mg ac bc:Nat):StateT SortSt Sem (ForInStep Uz):=do
 let x <- elem' a ia
 if ia+1+1==a.size then pure (.done (some (wq a b (out.push x) (ia+1) ib),out.push x,ia+1,ib,mg,ac,bc))
 else if ac<7&&bc<7 then pure (.done (none,out.push x,ia+1,ib,mg,ac,bc)) else pure (.yield (none,out.push x,ia+1,ib,mg,ac,bc))
def UB(a b out:Array Keyed)(ia ib mg ac bc:Nat):StateT SortSt Sem (ForInStep Uz):=do
 let x <- elem' b ib
 if ib+1==b.size then pure (.done (some (mJ a b (out.push x) ia (ib+1)),out.push x,ia,ib+1,mg,ac,bc))
 else do
  let some k <- fv true (<-elem' a ia) b (ib+1) (b.size-(ib+1)) 0|pure (.done (some (mJ a b (out.push x) ia (ib+1)),out.push x,ia,ib+1,mg,ac,bc))
  if k > 0 then
   if ib+1+k==b.size then pure (.done (some (mJ a b (out.push x++b.extract (ib+1) (ib+1+k)) ia (ib+1+k)),out.push x++b.extract (ib+1) (ib+1+k),ia,ib+1+k,mg,ac,k))
   else UA a b (out.push x++b.extract (ib+1) (ib+1+k)) ia (ib+1+k) mg ac k
  else UA a b (out.push x) ia (ib+1) mg ac k
def UC(a b out:Array Keyed)(ia ib mg ac bc:Nat):StateT SortSt Sem (ForInStep Uz):=do
 dB mg
 let some k <- fv false (<-elem' b ib) a ia (a.size-ia) 0|pure (.done (some (mJ a b out ia ib),out,ia,ib,mg,ac,bc))
 if k > 0 then
  if ia+k+1==a.size then pure (.done (some (wq a b (out++a.extract ia (ia+k)) (ia+k) ib),out++a.extract ia (ia+k),ia+k,ib,mg,k,bc))
  else if ia+k==a.size then pure (.done (some (mJ a b (out++a.extract ia (ia+k)) (ia+k) ib),out++a.extract ia (ia+k),ia+k,ib,mg,k,bc))
  else UB a b (out++a.extract ia (ia+k)) (ia+k) ib mg k bc
 else UB a b out ia ib mg k bc
theorem xW(a b:Array Keyed):rT a b=(do
 rule "list.sort.merge-lo"
 let r9:=a.size+b.size
 let done (out:Array Keyed) (ia ib:Nat):=out++a.extract ia a.size++b.extract ib b.size
 let qz (out:Array Keyed) (ia ib:Nat):=out++b.extract ib b.size++a.extract ia a.size
 let mut out:Array Keyed:=#[<-elem' b 0]
 let mut ia:=0
 let mut ib:=1
 if ib==b.size then return done out ia ib
 if ia+1==a.size then return qz out ia ib
 let mut minGallop:=gallopOf (<-get)
 for _ in [0:r9] do
  let mut acount:=0
  let mut bcount:=0
  for _ in [0:r9] do
   let some Rk <- lt' (<-elem' b ib) (<-elem' a ia)|return done out ia ib
   if Rk then
    out:=out.push (<-elem' b ib);ib:=ib+1;bcount:=bcount+1;acount:=0
    if ib==b.size then return done out ia ib
    if bcount>=minGallop then break
   else
    out:=out.push (<-elem' a ia);ia:=ia+1;acount:=acount+1;bcount:=0
    if ia+1==a.size then return qz out ia ib
    if acount>=minGallop then break
  rule "list.sort.gallop"
  minGallop:=minGallop+1
  for _ in [0:r9] do
   if minGallop > 1 then minGallop:=minGallop-1
   dB minGallop
   let some k <- fv false (<-elem' b ib) a ia (a.size-ia) 0|return done out ia ib
   acount:=k
   if k > 0 then
    out:=out++a.extract ia (ia+k);ia:=ia+k
    if ia+1==a.size then return qz out ia ib
    if ia==a.size then return done out ia ib
   out:=out.push (<-elem' b ib);ib:=ib+1
   if ib==b.size then return done out ia ib
   let some k <- fv true (<-elem' a ia) b ib (b.size-ib) 0|return done out ia ib
   bcount:=k
   if k > 0 then
    out:=out++b.extract ib (ib+k);ib:=ib+k
    if ib==b.size then return done out ia ib
   out:=out.push (<-elem' a ia);ia:=ia+1
   if ia+1==a.size then return qz out ia ib
   if acount<7&&bcount<7 then break
  minGallop:=minGallop+1
  dB minGallop
 unsupported "internal:list.sort.merge-bound"):=rfl
def PI(a b out:Array Keyed)(ia ib:Nat):Prop:=out.toList.Perm (a.toList.take ia++b.toList.take ib)
theorem xX{l:List Keyed}{i:Nat}(h:i<l.length):l.take (i+1)=l.take i++[l[i]]:=by rw[gX,b9 h];rfl
theorem PI.iJ{a b out:Array Keyed}{ia ib:Nat}(h:PI a b out ia ib)(hi:ia<a.size):PI a b (out.push a[ia]) (ia+1) ib:=by
 unfold PI at h |-;rw[jQ,xX (by simpa using hi),jP];refine(h.append_right _).trans ?_;rw[jP];refine List.Perm.append_left _ ?_;have:a.toList[ia]'(by simpa using hi)=a[ia]:=by simp
 rw[this];exact pj
theorem fO{a:Array Keyed}{i j:Nat}:(a.extract i j).toList=(a.toList.drop i).take (j-i):=by
 rw[zy,List.extract_eq_take_drop]
theorem Ft{a:Array Keyed}{i k:Nat}(h:i+k<a.size):a.extract i (i+(k+1))=(a.extract i (i+k)).push a[i+k]:=by
 apply Array.toList_inj.mp;rw[jQ,fO,fO,Nat.add_sub_cancel_left,Nat.add_sub_cancel_left,xX (by simp;lia)];congr 2;simp
structure MI(key:Keyed->Int)(a b out:Array Keyed)(ia ib:Nat):Prop where
 perm:PI a b out ia ib
 so:out.toList.Pairwise fun x y=>key x<=key y
 la:∀x∈out.toList,ia<a.size->key x<=kk key a ia
 lb:∀x∈out.toList,ib<b.size->key x<=kk key b ib
def Fi(key:Keyed->Int)(a b r:Array Keyed):Prop:=r.Perm (a++b)/\r.toList.Pairwise fun x y=>key x<=key y
section
variable {key:Keyed->Int} {a b out:Array Keyed} {ia ib:Nat}
theorem MI.swap(h:MI key a b out ia ib):MI key b a out ib ia:=⟨h.perm.trans pj,h.so,h.lb,h.la⟩
theorem MI.iJ(h:MI key a b out ia ib)(hi:ia<a.size)(sa:So key a 0 a.size)(c:ib<b.size->kk key a ia<=kk key b ib):MI key a b (out.push a[ia]) (ia+1) ib:=by
 refine⟨h.perm.iJ hi,?_,fun x hx hl=>?_,fun x hx hl=>?_⟩
 .rw[jQ];refine u5.mpr ⟨h.so,List.pairwise_singleton _ _,fun x hx y hy=>?_⟩;rw[cH.mp hy,<-c_ (key:=key) hi];exact h.la x hx hi
 .rw[jQ] at hx;have:=sa ia (ia+1) (by lia) (by lia) hl;rcases bV.mp hx with z|z
  .have:=h.la x z hi;lia
  .rw[cH.mp z,<-c_ (key:=key) hi];exact this
 .rw[jQ] at hx;rcases bV.mp hx with z|z
  .exact h.lb x z hl
  .rw[cH.mp z,<-c_ (key:=key) hi];exact c hl
theorem MI.wr(h:MI key a b out ia ib)(sa:So key a 0 a.size):∀ (k:Nat),ia+k<=a.size->(ib<b.size->∀i,i<k->kk key a (ia+i)<=kk key b ib)->MI key a b (out++a.extract ia (ia+k)) (ia+k) ib
 |0,_,_=>by
  have e:a.extract ia (ia+0)=#[]:=by simp;lia
  rw[e,Array.append_empty];exact h
 |k+1,hk,c=>by
  have:=(MI.wr h sa k (by lia) fun hb i hi=>c hb i (by lia)).iJ (by lia) sa fun hb=>c hb k (by lia);rw[Ft (by lia),<-Array.push_append];exact this
theorem MI.ux(h:MI key a b out ia ib)(hi:ib<b.size)(sb:So key b 0 b.size)(c:ia<a.size->kk key b ib<=kk key a ia):MI key a b (out.push b[ib]) ia (ib+1):=(h.swap.iJ hi sb c).swap
theorem MI.Fu(h:MI key a b out ia ib)(sb:So key b 0 b.size)(k:Nat)(hk:ib+k<=b.size)(c:ia<a.size->∀i,i<k->kk key b (ib+i)<=kk key a ia):MI key a b (out++b.extract ib (ib+k)) ia (ib+k):=(h.swap.wr sb k hk c).swap
theorem MI.fin(h:MI key a b out a.size b.size):Fi key a b out:=by
 refine⟨?_,h.so⟩;have:=h.perm;unfold PI at this;rw[qL (by simp),qL (by simp)] at this;rw[lJ,pA];exact this
theorem MI.done(h:MI key a b out ia ib)(sa:So key a 0 a.size)(sb:So key b 0 b.size)(ha:ia<=a.size)(hb:ib<=b.size)(c:ib<b.size->∀i,i<a.size-ia->kk key a (ia+i)<=kk key b ib):Fi key a b (mJ a b out ia ib):=by
 have h1:=h.wr sa (a.size-ia) (by lia) c;rw[show ia+(a.size-ia)=a.size by lia] at h1;have h2:=h1.Fu sb (b.size-ib) (by lia) fun z=>by lia
 rw[show ib+(b.size-ib)=b.size by lia] at h2;exact h2.fin
theorem MI.last(h:MI key a b out ia ib)(sa:So key a 0 a.size)(sb:So key b 0 b.size)(ha:ia<=a.size)(hb:ib<=b.size)(c:ia<a.size->∀i,i<b.size-ib->kk key b (ib+i)<=kk key a ia):Fi key a b (wq a b out ia ib):=by
 have:=h.swap.done sb sa hb ha c;refine⟨this.1.trans ?_,this.2⟩;rw[lJ,pA,pA];exact pj
end
section
variable {prog:Program} {w:World} {A:Around} {E:Value->Shared->Prop} {s:Shared} {κ:SortKind} {a₀:Array Keyed} {pd:Array (Nat×Nat×Nat)} {ar:Array Keyed} {key:Keyed->Int}
structure xY(key:Keyed->Int)(a₀ a b:Array Keyed):Prop where
 ha:∀x∈a.toList,x∈a₀.toList
 hb:∀x∈b.toList,x∈a₀.toList
 a1:1<=a.size
 b1:1<=b.size
 sa:So key a 0 a.size
 sb:So key b 0 b.size
 c0:kk key b 0<=kk key a 0
 c1:∀i,i<b.size->kk key b i<=kk key a (a.size-1)
theorem xY.last(T:xY key a₀ a b)(h:MI key a b out ia ib)(ha:ia+1=a.size)(hb:ib<=b.size):Fi key a b (wq a b out ia ib):=
 h.last T.sa T.sb (by lia) hb fun _ i hi=>by
  have:=T.c1 (ib+i) (by lia);rw[show a.size-1=ia by lia] at this;exact this
theorem xY.done(T:xY key a₀ a b)(h:MI key a b out ia ib)(ha:ia<=a.size)(hb:ib=b.size):Fi key a b (mJ a b out ia ib):=
 h.done T.sa T.sb ha (by lia) fun z=>by lia
def GP(κ:SortKind)(ar:Array Keyed)(pd:Array (Nat×Nat×Nat))(key:Keyed->Int)(a b:Array Keyed)(n:Nat)(r:ForInStep Uz)(st:SortSt):Prop:=SM κ ar pd st/\
 ((∃x c,r=.done (some x,c)/\Fi key a b x)\/∃out ia ib mg ac bc,(r=.done (none,out,ia,ib,mg,ac,bc)\/r=.yield (none,out,ia,ib,mg,ac,bc))/\MI key a b out ia ib/\ia+1<a.size/\ib<b.size/\n<=ia+ib)
theorem BU{st:SortSt}{a b out:Array Keyed}{ia ib mg ac bc n:Nat}(T:xY key a₀ a b)(hB:SM κ ar pd st)(h:MI key a b out ia ib)(la:ia+1<a.size)(lb:ib<b.size)(li:n<=ia+ib)(c:kk key a ia<=kk key b ib):
  wpS (model prog w) A E s (UA a b out ia ib mg ac bc) (GP κ ar pd key a b n) st:=by
 unfold UA;refine aD (bz (dF a ia (by lia)) ?_);have p:=h.iJ (show ia<a.size by lia) T.sa fun _=>c;by_cases f:(ia+1+1==a.size)=true
 .rw[aq f];exact aO ⟨hB,.inl ⟨_,_,rfl,T.last p (by simpa using f) (by lia)⟩⟩
 rw[ap f];have g:¬ (ia+1+1=a.size):=by simpa using f
 split
 .exact aO ⟨hB,.inr ⟨_,_,_,_,_,_,.inl rfl,p,by lia,by lia,by lia⟩⟩
 .exact aO ⟨hB,.inr ⟨_,_,_,_,_,_,.inr rfl,p,by lia,by lia,by lia⟩⟩
theorem BV{st:SortSt}{a b out:Array Keyed}{ia ib mg ac bc n:Nat}(hC:wn prog w A s κ a₀ key)(T:xY key a₀ a b)(hB:SM κ ar pd st)(h:MI key a b out ia ib)(la:ia+1<a.size)(lb:ib<b.size)(li:n<=ia+ib)(c:kk key b ib<=kk key a ia):
  wpS (model prog w) A E s (UB a b out ia ib mg ac bc) (GP κ ar pd key a b n) st:=by
 unfold UB;refine aD (bz (dF b ib (by lia)) ?_);have p:=h.ux lb T.sb fun _=>c;by_cases f:(ib+1==b.size)=true
 .rw[aq f];exact aO ⟨hB,.inl ⟨_,_,rfl,T.done p (by lia) (by simpa using f)⟩⟩
 rw[ap f];have g:¬ (ib+1=b.size):=by simpa using f
 refine aD (bz (dF a ia (by lia)) ?_);refine aD (gh hC hB.kind (T.ha _ (by simp)) T.hb (by lia) (by lia) (fun i j h1 h2 h3=>T.sb i j (by lia) h2 (by lia)) fun k hk q1 q2=>?_);rw[<-c_ (key:=key) (a:=a) (i:=ia) (by lia)] at q1 q2;simp only[rZ,jw] at q1 q2;dsimp only;by_cases kp:k > 0
 .rw[aq kp];have p2:=p.Fu T.sb k (by lia) fun _ i hi=>by have:=q1 i hi;lia
  by_cases f2:(ib+1+k==b.size)=true
  .rw[aq f2];exact aO ⟨hB,.inl ⟨_,_,rfl,T.done p2 (by lia) (by simpa using f2)⟩⟩
  rw[ap f2];have g2:¬ (ib+1+k=b.size):=by simpa using f2
  exact BU T hB p2 la (by lia) (by lia) (q2 k (by lia) (by lia))
 .rw[ap kp];have e:k=0:=by lia
  subst e;exact BU T hB p la (by lia) (by lia) (q2 0 (by lia) (by lia))
theorem Jm{st:SortSt}{a b out:Array Keyed}{ia ib mg ac bc n:Nat}(hC:wn prog w A s κ a₀ key)(T:xY key a₀ a b)(hB:SM κ ar pd st)(h:MI key a b out ia ib)(la:ia+1<a.size)(lb:ib<b.size)(li:n<=ia+ib):
  wpS (model prog w) A E s (UC a b out ia ib mg ac bc) (GP κ ar pd key a b n) st:=by
 unfold UC;rw[eZ];refine aD (fY ?_);have AF:SM κ ar pd (SortSt.mk' (kindOf st) (arrOf st) (pendingOf st) mg (failedOf st)):=⟨hB.arr,hB.kind,hB.failed,hB.pend⟩
 refine aD (bz (dF b ib (by lia)) ?_);refine aD (gh hC AF.kind (T.hb _ (by simp)) T.ha (by lia) (by lia) (fun i j h1 h2 h3=>T.sa i j (by lia) h2 (by lia)) fun k hk q1 q2=>?_);rw[<-c_ (key:=key) (a:=b) (i:=ib) (by lia)] at q1 q2;simp only[rZ,mY,fZ] at q1 q2;dsimp only;by_cases kp:k > 0
 .rw[aq kp];have p2:=h.wr T.sa k (by lia) fun _ i hi=>by have:=q1 i hi;lia
  by_cases f4:(ia+k+1==a.size)=true
  .rw[aq f4];exact aO ⟨AF,.inl ⟨_,_,rfl,T.last p2 (by simpa using f4) (by lia)⟩⟩
  rw[ap f4];have g4:¬ (ia+k+1=a.size):=by simpa using f4
  by_cases f5:(ia+k==a.size)=true
  .rw[aq f5];have g5:ia+k=a.size:=by simpa using f5
   exact aO ⟨AF,.inl ⟨_,_,rfl,p2.done T.sa T.sb (by lia) (by lia) fun _ i hi=>by lia⟩⟩
  rw[ap f5];have g5:¬ (ia+k=a.size):=by simpa using f5
  exact BV hC T AF p2 (by lia) lb (by lia) (by have:=q2 k (by lia) (by lia);lia)
 .rw[ap kp];have e:k=0:=by lia
  subst e;exact BV hC T AF h la lb li (by have:=q2 0 (by lia) (by lia);rw[jr] at this;lia)
theorem xZ{st:SortSt}{a b:Array Keyed}{Q:Array Keyed->SortSt->Prop}(hC:wn prog w A s κ a₀ key)(hB:SM κ ar pd st)(T:xY key a₀ a b)(h:∀out aW,Fi key a b out->SM κ ar pd aW->Q out aW):wpS (model prog w) A E s (rT a b) Q st:=by
 have a1:=T.a1;have b1:=T.b1;rw[xW];refine aD (my (jv ⟨rfl,?_⟩));refine aD (bz (dF b 0 (by lia)) ?_);dsimp only;have p0:MI key a b #[b[0]] 0 1:=by
  have:MI key a b #[] 0 0:=⟨by unfold PI;simp,List.Pairwise.nil,fun x hx=>by simp at hx,fun x hx=>by simp at hx⟩
  exact this.ux (by lia) T.sb fun _=>T.c0
 by_cases e1:(1==b.size)=true
 .rw[aq e1];exact aO (h _ _ (T.done p0 (by lia) (by simpa using e1)) hB)
 rw[ap e1];have n1:¬ (1=b.size):=by simpa using e1
 by_cases e2:(0+1==a.size)=true
 .rw[aq e2];exact aO (h _ _ (T.last p0 (by simpa using e2) (by lia)) hB)
 rw[ap e2];have n2:¬ (0+1=a.size):=by simpa using e2
 refine aD (gN ?_);refine aD (dY (gx (I:=fun i c aW=>SM κ ar pd aW/\∃out ia ib mg,c=(none,out,ia,ib,mg)/\MI key a b out ia ib/\ia+1<a.size/\ib<b.size/\i<=ia+ib) (Q:=fun c aW=>SM κ ar pd aW/\∃r c',c=(some r,c')/\Fi key a b r) ?_ ?_ ⟨hB,_,_,_,_,rfl,p0,by lia,by lia,by lia⟩) ?_)
 .rintro i c DU _ hi ⟨Jn,out,ia,ib,mg,rfl,p1,la,lb,li⟩;dsimp only;refine aD (dY (gx (I:=fun x c aW=>SM κ ar pd aW/\∃out ia ib ac bc,c=(none,out,ia,ib,ac,bc)/\MI key a b out ia ib/\ia+1<a.size/\ib<b.size/\i+x<=ia+ib) (Q:=fun c aW=>SM κ ar pd aW/\((∃r c',c=(some r,c')/\Fi key a b r)\/∃out ia ib ac bc,c=(none,out,ia,ib,ac,bc)/\MI key a b out ia ib/\ia+1<a.size/\ib<b.size/\i+1<=ia+ib)) ?_ ?_ ⟨Jn,_,_,_,_,_,rfl,p1,la,lb,by lia⟩) ?_)
  .rintro x c i6 _ hx ⟨iB,out,ia,ib,ac,bc,rfl,p1,la,lb,li⟩;dsimp only;refine aD (bz (dF b ib (by lia)) ?_);refine aD (bz (dF a ia (by lia)) ?_);refine aD (rW hC iB.kind (T.hb _ (by simp)) (T.ha _ (by simp)) ?_);rw[<-c_ (key:=key) (a:=b) (i:=ib) (by lia),<-c_ (key:=key) (a:=a) (i:=ia) (by lia)];by_cases bw:kk key b ib<kk key a ia
   .rw[bE bw];dsimp only;rw[aq rfl];refine aD (bz (dF b ib (by lia)) ?_);have p2:=p1.ux (show ib<b.size by lia) T.sb fun _=>by lia
    by_cases f1:(ib+1==b.size)=true
    .rw[aq f1];exact aO ⟨iB,.inl ⟨_,_,rfl,T.done p2 (by lia) (by simpa using f1)⟩⟩
    rw[ap f1];have g1:¬ (ib+1=b.size):=by simpa using f1
    split
    .exact aO ⟨iB,.inr ⟨_,_,_,_,_,rfl,p2,by lia,by lia,by lia⟩⟩
    .exact aO ⟨iB,_,_,_,_,_,rfl,p2,by lia,by lia,by lia⟩
   .rw[dk bw];dsimp only;rw[ap (by decide)];refine aD (bz (dF a ia (by lia)) ?_);have p2:=p1.iJ (show ia<a.size by lia) T.sa fun _=>by lia
    by_cases f1:(ia+1+1==a.size)=true
    .rw[aq f1];exact aO ⟨iB,.inl ⟨_,_,rfl,T.last p2 (by simpa using f1) (by lia)⟩⟩
    rw[ap f1];have g1:¬ (ia+1+1=a.size):=by simpa using f1
    split
    .exact aO ⟨iB,.inr ⟨_,_,_,_,_,rfl,p2,by lia,by lia,by lia⟩⟩
    .exact aO ⟨iB,_,_,_,_,_,rfl,p2,by lia,by lia,by lia⟩
  .rintro c i6 ⟨iB,out,ia,ib,ac,bc,rfl,p1,la,lb,li⟩;exact⟨iB,.inr ⟨_,_,_,_,_,rfl,p1,la,lb,by lia⟩⟩
  .rintro c i6 ⟨iB,⟨r,c',rfl,hp⟩|⟨out,ia,ib,ac,bc,rfl,p1,la,lb,li⟩⟩
   .exact aO ⟨iB,_,_,rfl,hp⟩
   .dsimp only;refine aD (my (jv ⟨rfl,?_⟩));refine aD (dY (gx (I:=fun x c aW=>SM κ ar pd aW/\∃out ia ib mg ac bc,c=(none,out,ia,ib,mg,ac,bc)/\MI key a b out ia ib/\ia+1<a.size/\ib<b.size/\i+1<=ia+ib) (Q:=fun c aW=>SM κ ar pd aW/\((∃r c',c=(some r,c')/\Fi key a b r)\/∃out ia ib mg ac bc,c=(none,out,ia,ib,mg,ac,bc)/\MI key a b out ia ib/\ia+1<a.size/\ib<b.size/\i+1<=ia+ib)) ?_ ?_ ⟨iB,_,_,_,_,_,_,rfl,p1,la,lb,li⟩) ?_)
    .rintro x c i6 _ hx ⟨iB,out,ia,ib,mg,ac,bc,rfl,p1,la,lb,li⟩;change wpS (model prog w) A E s (if mg > 1 then UC a b out ia ib (mg-1) ac bc else UC a b out ia ib mg ac bc) _ i6;split <;>
     .refine dY (Jm hC T iB p1 la lb li) ?_;rintro r aW ⟨m,⟨x,c,rfl,hf⟩|⟨out,ia,ib,mg,ac,bc,rfl|rfl,hh⟩⟩
      .exact⟨m,.inl ⟨_,_,rfl,hf⟩⟩
      .exact⟨m,.inr ⟨_,_,_,_,_,_,rfl,hh⟩⟩
      .exact⟨m,_,_,_,_,_,_,rfl,hh⟩
    .rintro c i6 ⟨iB,hh⟩;exact⟨iB,.inr hh⟩
    .rintro c i6 ⟨iB,⟨r,c',rfl,hp⟩|⟨out,ia,ib,mg,ac,bc,rfl,p1,la,lb,li⟩⟩
     .exact aO ⟨iB,_,_,rfl,hp⟩
     .dsimp only;rw[eZ];refine aD (fY ?_);exact aO ⟨⟨iB.arr,iB.kind,iB.failed,iB.pend⟩,_,_,_,_,rfl,p1,la,lb,li⟩
 .rintro c DU ⟨Jn,out,ia,ib,mg,rfl,p1,la,lb,li⟩;lia
 .rintro c DU ⟨Jn,r,c',rfl,hp⟩;exact aO (h r DU hp Jn)
end
abbrev UD:=Option (Array Keyed)×Nat×Nat×Array Keyed×Nat×Nat×Nat
abbrev mK(a b out:Array Keyed)(na nb:Nat):=a.extract 0 na++b.extract 0 nb++out.reverse
abbrev nz(a b out:Array Keyed)(na nb:Nat):=b.extract 0 nb++a.extract 0 na++out.reverse
def UE(a b:Array Keyed)(na nb:Nat)(out:Array Keyed)(mg ac bc:Nat):StateT SortSt Sem (ForInStep UD):=do
 let x <- elem' a (na-1)
 if na-1==0 then pure (.done (some (mK a b (out.push x) (na-1) nb),na-1,nb,out.push x,mg,ac,bc))
 else if ac<7&&bc<7 then pure (.done (none,na-1,nb,out.push x,mg,ac,bc)) else pure (.yield (none,na-1,nb,out.push x,mg,ac,bc))
def UF(a b:Array Keyed)(na nb:Nat)(out:Array Keyed)(mg ac bc:Nat):StateT SortSt Sem (ForInStep UD):=do
 let x <- elem' b (nb-1)
 if nb-1==1 then pure (.done (some (nz a b (out.push x) na (nb-1)),na,nb-1,out.push x,mg,ac,bc))
 else do
  let some at_ <- fv true (<-elem' a (na-1)) b 0 (nb-1) (nb-1-1)|pure (.done (some (mK a b (out.push x) na (nb-1)),na,nb-1,out.push x,mg,ac,bc))
  if nb-1-at_ > 0 then
   if at_==1 then pure (.done (some (nz a b (out.push x++(b.extract at_ (nb-1)).reverse) na at_),na,at_,out.push x++(b.extract at_ (nb-1)).reverse,mg,ac,nb-1-at_))
   else if at_==0 then pure (.done (some (mK a b (out.push x++(b.extract at_ (nb-1)).reverse) na at_),na,at_,out.push x++(b.extract at_ (nb-1)).reverse,mg,ac,nb-1-at_))
   else UE a b na at_ (out.push x++(b.extract at_ (nb-1)).reverse) mg ac (nb-1-at_)
  else UE a b na (nb-1) (out.push x) mg ac (nb-1-at_)
def UG(a b:Array Keyed)(na nb:Nat)(out:Array Keyed)(mg ac bc:Nat):StateT SortSt Sem (ForInStep UD):=do
 dB mg
 let some at_ <- fv false (<-elem' b (nb-1)) a 0 na (na-1)|pure (.done (some (mK a b out na nb),na,nb,out,mg,ac,bc))
 if na-at_ > 0 then
  if at_==0 then pure (.done (some (mK a b (out++(a.extract at_ na).reverse) at_ nb),at_,nb,out++(a.extract at_ na).reverse,mg,na-at_,bc))
  else UF a b at_ nb (out++(a.extract at_ na).reverse) mg (na-at_) bc
 else UF a b na nb out mg (na-at_) bc
theorem x5(a b:Array Keyed):rV a b=(do
 rule "list.sort.merge-hi"
 let r9:=a.size+b.size
 let done (out:Array Keyed) (na nb:Nat):=a.extract 0 na++b.extract 0 nb++out.reverse
 let nA (out:Array Keyed) (na nb:Nat):=b.extract 0 nb++a.extract 0 na++out.reverse
 let mut na:=a.size-1
 let mut nb:=b.size
 let mut out:Array Keyed:=#[<-elem' a na]
 if na==0 then return done out na nb
 if nb==1 then return nA out na nb
 let mut minGallop:=gallopOf (<-get)
 for _ in [0:r9] do
  let mut acount:=0
  let mut bcount:=0
  for _ in [0:r9] do
   let some Rl <- lt' (<-elem' b (nb-1)) (<-elem' a (na-1))|return done out na nb
   if Rl then
    na:=na-1;out:=out.push (<-elem' a na);acount:=acount+1;bcount:=0
    if na==0 then return done out na nb
    if acount>=minGallop then break
   else
    nb:=nb-1;out:=out.push (<-elem' b nb);bcount:=bcount+1;acount:=0
    if nb==1 then return nA out na nb
    if bcount>=minGallop then break
  rule "list.sort.gallop"
  minGallop:=minGallop+1
  for _ in [0:r9] do
   if minGallop > 1 then minGallop:=minGallop-1
   dB minGallop
   let some at_ <- fv false (<-elem' b (nb-1)) a 0 na (na-1)|return done out na nb
   let k:=na-at_
   acount:=k
   if k > 0 then
    out:=out++(a.extract at_ na).reverse;na:=at_
    if na==0 then return done out na nb
   nb:=nb-1;out:=out.push (<-elem' b nb)
   if nb==1 then return nA out na nb
   let some at_ <- fv true (<-elem' a (na-1)) b 0 nb (nb-1)|return done out na nb
   let k:=nb-at_
   bcount:=k
   if k > 0 then
    out:=out++(b.extract at_ nb).reverse;nb:=at_
    if nb==1 then return nA out na nb
    if nb==0 then return done out na nb
   na:=na-1;out:=out.push (<-elem' a na)
   if na==0 then return done out na nb
   if acount<7&&bcount<7 then break
  minGallop:=minGallop+1
  dB minGallop
 unsupported "internal:list.sort.merge-bound"):=rfl
def PH(a b out:Array Keyed)(na nb:Nat):Prop:=out.toList.Perm (a.toList.drop na++b.toList.drop nb)
theorem PH.iJ(h:PH a b out na nb)(h1:1<=na)(hi:na-1<a.size):PH a b (out.push a[na-1]) (na-1) nb:=by
 unfold PH at h |-;have e:a.toList.drop (na-1)=a[na-1]::a.toList.drop na:=by
  have:=uV (l:=a.toList) (i:=na-1) (by simpa using hi);rw[this,Nat.sub_add_cancel h1];simp
 rw[jQ,e];refine(h.append_right _).trans ?_;exact pj
theorem Jo{a:Array Keyed}{k n:Nat}(h:k<n)(hn:n<=a.size):(a.extract k n).reverse=(a.extract (k+1) n).reverse.push a[k]:=by
 apply Array.toList_inj.mp;rw[jQ,u9,u9,fO,fO];have e:=uV (l:=a.toList) (i:=k) (by simp;lia);rw[e,show n-k=(n-(k+1))+1 by lia,List.take_succ_cons,List.reverse_cons];congr 2
theorem x_{l:List Keyed}{i j:Nat}(h:i<=j):l.drop i=(l.drop i).take (j-i)++l.drop j:=by
 have:=(zo (j-i) (l.drop i)).symm;rw[List.drop_drop,show i+(j-i)=j by lia] at this;exact this
structure HI(key:Keyed->Int)(a b out:Array Keyed)(na nb:Nat):Prop where
 perm:PH a b out na nb
 so:out.toList.Pairwise fun x y=>key y<=key x
 la:∀x∈out.toList,0<na->kk key a (na-1)<=key x
 lb:∀x∈out.toList,0<nb->kk key b (nb-1)<=key x
section
variable {key:Keyed->Int} {a b out:Array Keyed} {na nb:Nat}
theorem HI.swap(h:HI key a b out na nb):HI key b a out nb na:=⟨h.perm.trans pj,h.so,h.lb,h.la⟩
theorem HI.iJ(h:HI key a b out na nb)(h1:1<=na)(hi:na-1<a.size)(sa:So key a 0 a.size)(c:0<nb->kk key b (nb-1)<=kk key a (na-1)):HI key a b (out.push a[na-1]) (na-1) nb:=by
 refine⟨h.perm.iJ h1 hi,?_,fun x hx hl=>?_,fun x hx hl=>?_⟩
 .rw[jQ];refine u5.mpr ⟨h.so,List.pairwise_singleton _ _,fun x hx y hy=>?_⟩;rw[cH.mp hy,<-c_ (key:=key) hi];exact h.la x hx (by lia)
 .rw[jQ] at hx;have:=sa (na-1-1) (na-1) (by lia) (by lia) hi;rcases bV.mp hx with z|z
  .have:=h.la x z (by lia);lia
  .rw[cH.mp z,<-c_ (key:=key) hi];exact this
 .rw[jQ] at hx;rcases bV.mp hx with z|z
  .exact h.lb x z hl
  .rw[cH.mp z,<-c_ (key:=key) hi];exact c hl
theorem HI.wr(h:HI key a b out na nb)(sa:So key a 0 a.size)(hn:na<=a.size):∀ (d k:Nat),na=k+d->(0<nb->∀i,k<=i->i<na->kk key b (nb-1)<=kk key a i)->HI key a b (out++(a.extract k na).reverse) k nb
 |0,k,e,_=>by
  have e':a.extract k na=#[]:=by simp;lia
  have e2:k=na:=by lia
  subst e2;rw[e',Array.reverse_empty,Array.append_empty];exact h
 |d+1,k,e,c=>by
  have:=(HI.wr h sa hn d (k+1) (by lia) fun hb i h1 h2=>c hb i (by lia) h2).iJ (by lia) (by lia) sa fun hb=>c hb _ (by lia) (by lia);rw[Jo (by lia) hn,<-Array.push_append];exact this
theorem HI.ux(h:HI key a b out na nb)(h1:1<=nb)(hi:nb-1<b.size)(sb:So key b 0 b.size)(c:0<na->kk key a (na-1)<=kk key b (nb-1)):HI key a b (out.push b[nb-1]) na (nb-1):=(h.swap.iJ h1 hi sb c).swap
theorem HI.Fu(h:HI key a b out na nb)(sb:So key b 0 b.size)(hn:nb<=b.size)(k:Nat)(hk:k<=nb)(c:0<na->∀i,k<=i->i<nb->kk key a (na-1)<=kk key b i):HI key a b (out++(b.extract k nb).reverse) na k:=(h.swap.wr sb hn (nb-k) k (by lia) c).swap
theorem HI.first(h:HI key a b out na nb)(sa:So key a 0 a.size)(sb:So key b 0 b.size)(ha:na<=a.size)(hb:nb<=b.size)(c:0<nb->∀i,i<na->kk key b (nb-1)<=kk key a i):Fi key a b (nz a b out na nb):=by
 have h1:=h.wr sa ha na 0 (by lia) fun z i _ hi=>c z i hi;have h2:=h1.Fu sb hb 0 (by lia) fun z=>by lia
 have e:nz a b out na nb=(out++(a.extract 0 na).reverse++(b.extract 0 nb).reverse).reverse:=by simp
 rw[e];refine⟨?_,?_⟩
 .have:=h2.perm;unfold PH at this;rw[qZ,qZ] at this;rw[lJ,u9,pA (xs:=a)];exact(List.reverse_perm _).trans this
 .rw[u9,List.pairwise_reverse];exact h2.so
theorem HI.done(h:HI key a b out na nb)(sa:So key a 0 a.size)(sb:So key b 0 b.size)(ha:na<=a.size)(hb:nb<=b.size)(c:0<na->∀i,i<nb->kk key a (na-1)<=kk key b i):Fi key a b (mK a b out na nb):=by
 have:=h.swap.first sb sa hb ha c;refine⟨this.1.trans ?_,this.2⟩;rw[lJ,pA,pA];exact pj
end
section
variable {prog:Program} {w:World} {A:Around} {E:Value->Shared->Prop} {s:Shared} {κ:SortKind} {a₀:Array Keyed} {pd:Array (Nat×Nat×Nat)} {ar:Array Keyed} {key:Keyed->Int}
theorem xY.first(T:xY key a₀ a b)(h:HI key a b out na nb)(ha:na<=a.size)(hb:nb=1):Fi key a b (nz a b out na nb):=
 h.first T.sa T.sb ha (by have:=T.b1;lia) fun _ i hi=>by
  have h0:=T.c0;have h1:=T.sa 0 i (by lia) (by lia) (by lia);rw[show nb-1=0 by lia];lia
theorem xY.yc(T:xY key a₀ a b)(h:HI key a b out na nb)(ha:na<=a.size)(hb:nb<=b.size)(hz:na=0\/nb=0):Fi key a b (mK a b out na nb):=
 h.done T.sa T.sb ha hb fun z i hi=>by lia
def GH(κ:SortKind)(ar:Array Keyed)(pd:Array (Nat×Nat×Nat))(key:Keyed->Int)(a b:Array Keyed)(n:Nat)(r:ForInStep UD)(st:SortSt):Prop:=SM κ ar pd st/\
 ((∃x c,r=.done (some x,c)/\Fi key a b x)\/∃na nb out mg ac bc,(r=.done (none,na,nb,out,mg,ac,bc)\/r=.yield (none,na,nb,out,mg,ac,bc))/\HI key a b out na nb/\1<=na/\2<=nb/\na<=a.size/\nb<=b.size/\n+na+nb<=a.size+b.size)
theorem BW{st:SortSt}{a b out:Array Keyed}{na nb mg ac bc n:Nat}(T:xY key a₀ a b)(hB:SM κ ar pd st)(h:HI key a b out na nb)(la:1<=na)(lb:2<=nb)(ma:na<=a.size)(mb:nb<=b.size)(li:n+na+nb<=a.size+b.size)(c:kk key b (nb-1)<=kk key a (na-1)):
  wpS (model prog w) A E s (UE a b na nb out mg ac bc) (GH κ ar pd key a b n) st:=by
 unfold UE;refine aD (bz (dF a (na-1) (by lia)) ?_);have p:=h.iJ la (show na-1<a.size by lia) T.sa fun _=>c;by_cases f:(na-1==0)=true
 .rw[aq f];exact aO ⟨hB,.inl ⟨_,_,rfl,T.yc p (by lia) (by lia) (.inl (by simpa using f))⟩⟩
 rw[ap f];have g:¬ (na-1=0):=by simpa using f
 split
 .exact aO ⟨hB,.inr ⟨_,_,_,_,_,_,.inl rfl,p,by lia,by lia,by lia,by lia,by lia⟩⟩
 .exact aO ⟨hB,.inr ⟨_,_,_,_,_,_,.inr rfl,p,by lia,by lia,by lia,by lia,by lia⟩⟩
theorem BX{st:SortSt}{a b out:Array Keyed}{na nb mg ac bc n:Nat}(hC:wn prog w A s κ a₀ key)(T:xY key a₀ a b)(hB:SM κ ar pd st)(h:HI key a b out na nb)(la:1<=na)(lb:2<=nb)(ma:na<=a.size)(mb:nb<=b.size)(li:n+na+nb<=a.size+b.size)(c:kk key a (na-1)<=kk key b (nb-1)):
  wpS (model prog w) A E s (UF a b na nb out mg ac bc) (GH κ ar pd key a b n) st:=by
 unfold UF;refine aD (bz (dF b (nb-1) (by lia)) ?_);have p:=h.ux (by lia) (show nb-1<b.size by lia) T.sb fun _=>c;by_cases f:(nb-1==1)=true
 .rw[aq f];exact aO ⟨hB,.inl ⟨_,_,rfl,T.first p (by lia) (by simpa using f)⟩⟩
 rw[ap f];have g:¬ (nb-1=1):=by simpa using f
 refine aD (bz (dF a (na-1) (by lia)) ?_);refine aD (gh hC hB.kind (T.ha _ (by simp)) T.hb (by lia) (by lia) (fun i j h1 h2 h3=>T.sb i j (by lia) h2 (by lia)) fun k hk q1 q2=>?_);rw[<-c_ (key:=key) (a:=a) (i:=na-1) (by lia)] at q1 q2;simp only[rZ,jw,oe] at q1 q2;dsimp only;by_cases kp:nb-1-k > 0
 .rw[aq kp];have p2:=p.Fu T.sb (by lia) k hk fun _ i h1 h2=>q2 i h1 h2;by_cases f2:(k==1)=true
  .rw[aq f2];exact aO ⟨hB,.inl ⟨_,_,rfl,T.first p2 (by lia) (by simpa using f2)⟩⟩
  rw[ap f2];have g2:¬ (k=1):=by simpa using f2
  by_cases f6:(k==0)=true
  .rw[aq f6];exact aO ⟨hB,.inl ⟨_,_,rfl,T.yc p2 (by lia) (by lia) (.inr (by simpa using f6))⟩⟩
  rw[ap f6];have g6:¬ (k=0):=by simpa using f6
  exact BW T hB p2 la (by lia) ma (by lia) (by lia) (by have:=q1 (k-1) (by lia);lia)
 .rw[ap kp];have e:k=nb-1:=by lia
  subst e;exact BW T hB p la (by lia) ma (by lia) (by lia) (by have:=q1 (nb-1-1) (by lia);lia)
theorem Jp{st:SortSt}{a b out:Array Keyed}{na nb mg ac bc n:Nat}(hC:wn prog w A s κ a₀ key)(T:xY key a₀ a b)(hB:SM κ ar pd st)(h:HI key a b out na nb)(la:1<=na)(lb:2<=nb)(ma:na<=a.size)(mb:nb<=b.size)(li:n+na+nb<=a.size+b.size):
  wpS (model prog w) A E s (UG a b na nb out mg ac bc) (GH κ ar pd key a b n) st:=by
 unfold UG;rw[eZ];refine aD (fY ?_);have AF:SM κ ar pd (SortSt.mk' (kindOf st) (arrOf st) (pendingOf st) mg (failedOf st)):=⟨hB.arr,hB.kind,hB.failed,hB.pend⟩
 refine aD (bz (dF b (nb-1) (by lia)) ?_);refine aD (gh hC AF.kind (T.hb _ (by simp)) T.ha (by lia) (by lia) (fun i j h1 h2 h3=>T.sa i j (by lia) h2 (by lia)) fun k hk q1 q2=>?_);rw[<-c_ (key:=key) (a:=b) (i:=nb-1) (by lia)] at q1 q2;simp only[rZ,mY,fZ,oe] at q1 q2;dsimp only;by_cases kp:na-k > 0
 .rw[aq kp];have p2:=h.wr T.sa ma (na-k) k (by lia) fun _ i h1 h2=>by have:=q2 i h1 h2;lia
  by_cases f4:(k==0)=true
  .rw[aq f4];exact aO ⟨AF,.inl ⟨_,_,rfl,T.yc p2 (by lia) (by lia) (.inl (by simpa using f4))⟩⟩
  rw[ap f4];have g4:¬ (k=0):=by simpa using f4
  exact BX hC T AF p2 (by lia) lb (by lia) mb (by lia) (by have:=q1 (k-1) (by lia);lia)
 .rw[ap kp];have e:k=na:=by lia
  subst e;exact BX hC T AF h la lb ma mb li (by have:=q1 (k-1) (by lia);lia)
theorem yd{st:SortSt}{a b:Array Keyed}{Q:Array Keyed->SortSt->Prop}(hC:wn prog w A s κ a₀ key)(hB:SM κ ar pd st)(T:xY key a₀ a b)(h:∀out aW,Fi key a b out->SM κ ar pd aW->Q out aW):wpS (model prog w) A E s (rV a b) Q st:=by
 have a1:=T.a1;have b1:=T.b1;rw[x5];refine aD (my (jv ⟨rfl,?_⟩));refine aD (bz (dF a (a.size-1) (by lia)) ?_);dsimp only;have p0:HI key a b #[a[a.size-1]] (a.size-1) b.size:=by
  have:HI key a b #[] a.size b.size:=⟨by unfold PH;simp,List.Pairwise.nil,fun x hx=>by simp at hx,fun x hx=>by simp at hx⟩
  exact this.iJ a1 (by lia) T.sa fun _=>T.c1 _ (by lia)
 by_cases e1:(a.size-1==0)=true
 .rw[aq e1];exact aO (h _ _ (T.yc p0 (by lia) (by lia) (.inl (by simpa using e1))) hB)
 rw[ap e1];have n1:¬ (a.size-1=0):=by simpa using e1
 by_cases e2:(b.size==1)=true
 .rw[aq e2];exact aO (h _ _ (T.first p0 (by lia) (by simpa using e2)) hB)
 rw[ap e2];have n2:¬ (b.size=1):=by simpa using e2
 refine aD (gN ?_);refine aD (dY (gx (I:=fun i c aW=>SM κ ar pd aW/\∃na nb out mg,c=(none,na,nb,out,mg)/\HI key a b out na nb/\1<=na/\2<=nb/\na<=a.size/\nb<=b.size/\i+na+nb<=a.size+b.size) (Q:=fun c aW=>SM κ ar pd aW/\∃r c',c=(some r,c')/\Fi key a b r) ?_ ?_ ⟨hB,_,_,_,_,rfl,p0,by lia,by lia,by lia,by lia,by lia⟩) ?_)
 .rintro i c DU _ hi ⟨Jn,na,nb,out,mg,rfl,p1,la,lb,ma,mb,li⟩;dsimp only;refine aD (dY (gx (I:=fun x c aW=>SM κ ar pd aW/\∃na nb out ac bc,c=(none,na,nb,out,ac,bc)/\HI key a b out na nb/\1<=na/\2<=nb/\na<=a.size/\nb<=b.size/\i+x+na+nb<=a.size+b.size) (Q:=fun c aW=>SM κ ar pd aW/\((∃r c',c=(some r,c')/\Fi key a b r)\/∃na nb out ac bc,c=(none,na,nb,out,ac,bc)/\HI key a b out na nb/\1<=na/\2<=nb/\na<=a.size/\nb<=b.size/\i+1+na+nb<=a.size+b.size)) ?_ ?_ ⟨Jn,_,_,_,_,_,rfl,p1,la,lb,ma,mb,by lia⟩) ?_)
  .rintro x c i6 _ hx ⟨iB,na,nb,out,ac,bc,rfl,p1,la,lb,ma,mb,li⟩;dsimp only;refine aD (bz (dF b (nb-1) (by lia)) ?_);refine aD (bz (dF a (na-1) (by lia)) ?_);refine aD (rW hC iB.kind (T.hb _ (by simp)) (T.ha _ (by simp)) ?_);rw[<-c_ (key:=key) (a:=b) (i:=nb-1) (by lia),<-c_ (key:=key) (a:=a) (i:=na-1) (by lia)];by_cases aw:kk key b (nb-1)<kk key a (na-1)
   .rw[bE aw];dsimp only;rw[aq rfl];refine aD (bz (dF a (na-1) (by lia)) ?_);have p2:=p1.iJ (show 1<=na by lia) (show na-1<a.size by lia) T.sa fun _=>by lia
    by_cases f1:(na-1==0)=true
    .rw[aq f1];exact aO ⟨iB,.inl ⟨_,_,rfl,T.yc p2 (by lia) (by lia) (.inl (by simpa using f1))⟩⟩
    rw[ap f1];have g1:¬ (na-1=0):=by simpa using f1
    split
    .exact aO ⟨iB,.inr ⟨_,_,_,_,_,rfl,p2,by lia,by lia,by lia,by lia,by lia⟩⟩
    .exact aO ⟨iB,_,_,_,_,_,rfl,p2,by lia,by lia,by lia,by lia,by lia⟩
   .rw[dk aw];dsimp only;rw[ap (by decide)];refine aD (bz (dF b (nb-1) (by lia)) ?_);have p2:=p1.ux (show 1<=nb by lia) (show nb-1<b.size by lia) T.sb fun _=>by lia
    by_cases f1:(nb-1==1)=true
    .rw[aq f1];exact aO ⟨iB,.inl ⟨_,_,rfl,T.first p2 (by lia) (by simpa using f1)⟩⟩
    rw[ap f1];have g1:¬ (nb-1=1):=by simpa using f1
    split
    .exact aO ⟨iB,.inr ⟨_,_,_,_,_,rfl,p2,by lia,by lia,by lia,by lia,by lia⟩⟩
    .exact aO ⟨iB,_,_,_,_,_,rfl,p2,by lia,by lia,by lia,by lia,by lia⟩
  .rintro c i6 ⟨iB,na,nb,out,ac,bc,rfl,p1,la,lb,ma,mb,li⟩;exact⟨iB,.inr ⟨_,_,_,_,_,rfl,p1,la,lb,ma,mb,by lia⟩⟩
  .rintro c i6 ⟨iB,⟨r,c',rfl,hp⟩|⟨na,nb,out,ac,bc,rfl,p1,la,lb,ma,mb,li⟩⟩
   .exact aO ⟨iB,_,_,rfl,hp⟩
   .dsimp only;refine aD (my (jv ⟨rfl,?_⟩));refine aD (dY (gx (I:=fun x c aW=>SM κ ar pd aW/\∃na nb out mg ac bc,c=(none,na,nb,out,mg,ac,bc)/\HI key a b out na nb/\1<=na/\2<=nb/\na<=a.size/\nb<=b.size/\i+1+na+nb<=a.size+b.size) (Q:=fun c aW=>SM κ ar pd aW/\((∃r c',c=(some r,c')/\Fi key a b r)\/∃na nb out mg ac bc,c=(none,na,nb,out,mg,ac,bc)/\HI key a b out na nb/\1<=na/\2<=nb/\na<=a.size/\nb<=b.size/\i+1+na+nb<=a.size+b.size)) ?_ ?_ ⟨iB,_,_,_,_,_,_,rfl,p1,la,lb,ma,mb,li⟩) ?_)
    .rintro x c i6 _ hx ⟨iB,na,nb,out,mg,ac,bc,rfl,p1,la,lb,ma,mb,li⟩;change wpS (model prog w) A E s (if mg > 1 then UG a b na nb out (mg-1) ac bc else UG a b na nb out mg ac bc) _ i6;split <;>
     .refine dY (Jp hC T iB p1 la lb ma mb li) ?_;rintro r aW ⟨m,⟨x,c,rfl,hf⟩|⟨na,nb,out,mg,ac,bc,rfl|rfl,hh⟩⟩
      .exact⟨m,.inl ⟨_,_,rfl,hf⟩⟩
      .exact⟨m,.inr ⟨_,_,_,_,_,_,rfl,hh⟩⟩
      .exact⟨m,_,_,_,_,_,_,rfl,hh⟩
    .rintro c i6 ⟨iB,hh⟩;exact⟨iB,.inr hh⟩
    .rintro c i6 ⟨iB,⟨r,c',rfl,hp⟩|⟨na,nb,out,mg,ac,bc,rfl,p1,la,lb,ma,mb,li⟩⟩
     .exact aO ⟨iB,_,_,rfl,hp⟩
     .dsimp only;rw[eZ];refine aD (fY ?_);exact aO ⟨⟨iB.arr,iB.kind,iB.failed,iB.pend⟩,_,_,_,_,rfl,p1,la,lb,ma,mb,li⟩
 .rintro c DU ⟨Jn,na,nb,out,mg,rfl,p1,la,lb,ma,mb,li⟩;lia
 .rintro c DU ⟨Jn,r,c',rfl,hp⟩;exact aO (h r DU hp Jn)
end
abbrev Nm:=Nat×Nat×Nat
def hJ(key:Keyed->Int)(a:Array Keyed):List Nm->Nat->Nat->Prop
 |[],s,e=>s=e
 |r::rs,s,e=>r.1=s/\1<=r.2.1/\So key a s (s+r.2.1)/\hJ key a rs (s+r.2.1) e
section
variable {key:Keyed->Int} {a:Array Keyed}
theorem hJ.le:∀ {l:List Nm} {s e:Nat},hJ key a l s e->s+l.length<=e
 |[],_,_,h=>vw h
 |r::rs,s,e,⟨_,h2,_,h3⟩=>by have:=h3.le;rw[cx];lia
theorem So.keep(h:So key a s e)(k:∀i,s<=i->i<e->a'[i]?=a[i]?):So key a' s e:=fun i j h1 h2 h3=>by
 rw[gH (k i h1 (by lia)),gH (k j (by lia) h3)];exact h i j h1 h2 h3
theorem hJ.keep:∀ {l:List Nm} {s e:Nat},hJ key a l s e->(∀i,s<=i->i<e->a'[i]?=a[i]?)->hJ key a' l s e
 |[],_,_,h,_=>h
 |r::rs,s,e,⟨h1,h2,h3,h4⟩,k=>by
  have:=h4.le;exact⟨h1,h2,h3.keep fun i a b=>k i a (by lia),h4.keep fun i a b=>k i (by lia) b⟩
theorem hJ.two:∀ {l:List Nm} {s e i:Nat} {x y:Nm},hJ key a l s e->l[i]?=some x->l[i+1]?=some y->
  s<=x.1/\x.1+x.2.1=y.1/\y.1+y.2.1<=e/\1<=x.2.1/\1<=y.2.1/\So key a x.1 y.1/\So key a y.1 (y.1+y.2.1)/\∀p a',mS a a' x.1 (y.1+y.2.1)->So key a' x.1 (y.1+y.2.1)->hJ key a' ((l.set i (x.1,x.2.1+y.2.1,p)).eraseIdx (i+1)) s e
 |r::q::rs,s,e,0,x,y,⟨h1,h2,h3,h4,h5,h6,h7⟩,hx,hy=>by
  obtain rfl:=ba hx;obtain rfl:=ba hy;have:=h7.le;rw[h1,h4];refine⟨bf _,rfl,by lia,h2,h5,h3,h6,fun p a' o so=>⟨rfl,by show 1<=r.2.1+q.2.1;lia,?_,?_⟩⟩
  .show So key a' s (s+(r.2.1+q.2.1));rw[<-vp];exact so
  .show hJ key a' rs (s+(r.2.1+q.2.1)) e;rw[<-vp];exact h7.keep fun i a b=>o i (.inr a)
 |r::rs,s,e,i+1,x,y,⟨h1,h2,h3,h4⟩,hx,hy=>by
  obtain⟨a0,a1,a2,a3,a4,a5,a6,a7⟩:=hJ.two (i:=i) h4 hx hy;exact⟨by lia,a1,a2,a3,a4,a5,a6,fun p a' o so=>⟨h1,h2,h3.keep fun i a b=>o i (.inl (by lia)),a7 p a' o so⟩⟩
theorem hJ.push:∀ {l:List Nm} {s e n p:Nat},hJ key a l s e->1<=n->So key a e (e+n)->hJ key a (l++[(e,n,p)]) s (e+n)
 |[],s,e,n,p,h,hn,so=>⟨h.symm,hn,by rw[show s=e from h];exact so,by rw[show s=e from h];rfl⟩
 |r::rs,s,e,n,p,⟨h1,h2,h3,h4⟩,hn,so=>⟨h1,h2,h3,hJ.push h4 hn so⟩
theorem hJ.pw:∀ {l:List Nm} {s e:Nat} (i p:Nat),hJ key a l s e->hJ key a (l.modify i fun r=>(r.1,r.2.1,p)) s e
 |[],s,e,i,p,h=>by cases i <;> exact h
 |r::rs,s,e,0,p,⟨h1,h2,h3⟩=>⟨h1,h2,h3⟩
 |r::rs,s,e,i+1,p,⟨h1,h2,h3,h4⟩=>⟨h1,h2,h3,hJ.pw i p h4⟩
end
theorem Jq{M:Model}{A:Around}{E:Value->Shared->Prop}{s:Shared}{σ:Type}{x:σ}{Q:PUnit->σ->Prop}{st:σ}(h:Q ⟨⟩ x):wpS M A E s (set x:StateT σ Sem PUnit) Q st:=by
 unfold wpS;rw[StateT.run_set];exact wpAny_pure ⟨rfl,h⟩
theorem ye(i:Nat):mergeAt' i=(do
 let s <- get
 let (some (sa,na,Rm),some (sb,nb,_)):=((pendingOf s)[i]?,(pendingOf s)[i+1]?)|unsupported "internal:list.sort.pending"
 set (setPending s (((pendingOf s).setIfInBounds i (sa,na+nb,Rm)).eraseIdxIfInBounds (i+1)))
 let some k <- fv false (<-elem' (arrOf s) sb) (arrOf s) sa na 0|return false
 let (sa,na):=(sa+k,na-k)
 if na==0 then return true
 let some nb <- fv true (<-elem' (arrOf s) (sa+na-1)) (arrOf s) sb nb (nb-1)|return false
 if nb==0 then return true
 let x:=(arrOf s).extract sa sb
 let y:=(arrOf s).extract sb (sb+nb)
 let merged <- if na<=nb then rT x y else rV x y
 modify fun s=>setArr s (merged.toList.zipIdx.foldl (fun a (p,j)=>a.setIfInBounds (sa+j) p) (arrOf s))
 return (failedOf (<-get)).isNone):=rfl
theorem r_:∀ (l:List Keyed) (k:Nat) (arr:Array Keyed),sa+k+l.length<=arr.size->
  ((l.zipIdx k).foldl (fun (a:Array Keyed) (x:Keyed×Nat)=>a.setIfInBounds (sa+x.2) x.1) arr).toList=arr.toList.take (sa+k)++l++arr.toList.drop (sa+k+l.length)
 |[],k,arr,_=>by simp
 |x::l,k,arr,h=>by
  rw[cx] at h;have hs:sa+k<arr.toList.length:=by rw[iX];lia
  rw[List.zipIdx_cons,jk,r_ l (k+1) _ (by rw[Array.size_setIfInBounds];lia),y_];dsimp only;have e1:(arr.toList.set (sa+k) x).take (sa+(k+1))=arr.toList.take (sa+k)++[x]:=by
   rw[<-vp,gX,qN hs,List.take_set_of_le (bf _)];rfl
  have e2:(arr.toList.set (sa+k) x).drop (sa+(k+1)+l.length)=arr.toList.drop (sa+k+(x::l).length):=by
   rw[List.drop_set_of_lt (by lia),cx];congr 1;lia
  rw[e1,e2,jP,jP,jP];rfl
section
variable {prog:Program} {w:World} {A:Around} {E:Value->Shared->Prop} {s:Shared} {κ:SortKind} {a₀:Array Keyed} {key:Keyed->Int}
theorem wt:kk key a i=(a.toList[i]?.map key).getD 0:=by unfold kk;rw[lK]
theorem iU(h:k<j-i):kk key (a.extract i j) k=kk key a (i+k):=by
 rw[wt,wt,fO,List.getElem?_take,aq h,List.getElem?_drop]
def SR(κ:SortKind)(a₀:Array Keyed)(key:Keyed->Int)(lo:Nat)(st:SortSt):Prop:=∃pd,SQ κ a₀ pd st/\hJ key (arrOf st) pd.toList 0 lo/\lo<=a₀.size
theorem Jr(h1:sa+k<=sb)(h2:sb+k2<=e)(he:e<=a.size)(hl:out.length=sb+k2-(sa+k))(wl:a'.toList=a.toList.take (sa+k)++out++a.toList.drop (sb+k2))(s1:So key a sa sb)(s2:So key a sb e)(so:out.Pairwise fun x y=>key x<=key y)(g1:∀i,sa<=i->i<sa+k->kk key a i<=b)(g2:∀i,sb+k2<=i->i<e->t<=kk key a i)(go:∀x∈out,b<=key x/\key x<=t)(gb:∀i,sb+k2<=i->i<e->b<=kk key a i):
  So key a' sa e/\mS a a' sa e:=by
 have tl:(a.toList.take (sa+k)).length=sa+k:=by rw[iF,iX];lia
 have p1:∀i,i<sa+k->a'[i]?=a[i]?:=fun i hi=>by
  rw[<-lK,wl,jP,iC (by rw[tl];exact hi),List.getElem?_take,aq hi,lK]
 have p3:∀i,sb+k2<=i->a'[i]?=a[i]?:=fun i hi=>by
  rw[<-lK,wl,mU (by rw[cu,tl,hl];lia),cu,tl,hl,List.getElem?_drop,lK];congr 1;lia
 have p2:∀i,sa+k<=i->i<sb+k2->∃h:i-(sa+k)<out.length,kk key a' i=key out[i-(sa+k)]:=fun i hi kO=>by
  have hh:i-(sa+k)<out.length:=by lia
  refine⟨hh,?_⟩;rw[wt,wl,jP,mU (by rw[tl];exact hi),tl,iC hh,b9 hh];rfl
 refine⟨fun i j hi Jk hj=>?_,fun i hi=>?_⟩
 .by_cases c1:i<sa+k
  .rw[gH (p1 i c1)];by_cases c2:j<sa+k
   .rw[gH (p1 j c2)];exact s1 i j hi Jk (by lia)
   .have:=g1 i hi c1;by_cases c3:j<sb+k2
    .obtain⟨hh,e⟩:=p2 j (by lia) c3;have:=(go _ (gv hh)).1;rw[e];lia
    .rw[gH (p3 j (by lia))];have:=gb j (by lia) hj;lia
  .by_cases c2:i<sb+k2
   .obtain⟨hh,ei⟩:=p2 i (by lia) c2;rw[ei];by_cases c3:j<sb+k2
    .obtain⟨hh',ej⟩:=p2 j (by lia) c3;rw[ej];by_cases c4:i=j
     .subst c4;exact mr _
     .exact tT.mp so _ _ hh hh' (by lia)
    .rw[gH (p3 j (by lia))];have:=(go _ (gv hh)).2;have:=g2 j (by lia) hj;lia
   .rw[gH (p3 i (by lia)),gH (p3 j (by lia))];exact s2 i j (by lia) Jk hj
 .rcases hi with hi|hi
  .exact p1 i (by lia)
  .exact p3 i (by lia)
theorem kP{st:SortSt}{i lo:Nat}{Q:Bool->SortSt->Prop}(hC:wn prog w A s κ a₀ key)(hB:SR κ a₀ key lo st)(hi:i+1<(pendingOf st).size)(h:∀aW,SR κ a₀ key lo aW->mS (arrOf st) (arrOf aW) 0 lo->(pendingOf aW).size+1=(pendingOf st).size->Q true aW):wpS (model prog w) A E s (mergeAt' i) Q st:=by
 obtain⟨pd,hq,hr,xB⟩:=hB;rw[hq.pend] at hi h;rw[ye];refine aD (gN ?_);have e1:pd[i]?=some pd[i]:=dF pd i (by lia);have e2:pd[i+1]?=some pd[i+1]:=dF pd (i+1) hi;obtain⟨_,a1,a2,a3,a4,b1,b2,a5⟩:=hr.two (i:=i) (x:=pd[i]) (y:=pd[i+1]) (by simpa using e1) (by simpa using e2);rw[hq.pend,e1,e2];revert a1 a2 a3 a4 a5 b1 b2;generalize pd[i]=x;generalize pd[i+1]=y;obtain⟨sa,na,pw⟩:=x;obtain⟨sb,nb,pw2⟩:=y;intro a1 a2 a3 a4 b1 b2 a5;dsimp only at a1 a2 a3 a4 a5 b1 b2 |-;obtain⟨HJ,Nn⟩:∃HJ,HJ=(pd.setIfInBounds i (sa,na+nb,pw)).eraseIdxIfInBounds (i+1):=⟨_,rfl⟩
 have hps:HJ.size+1=pd.size:=by
  rw[Nn,<-iX,D_,y_,List.length_eraseIdx,md,aq (by simpa using hi),iX];lia
 have vY:∀a',mS (arrOf st) a' sa (sb+nb)->So key a' sa (sb+nb)->hJ key a' HJ.toList 0 lo:=by
  intro a' o so;rw[Nn,D_,y_];exact a5 pw a' o so
 refine aD (Jq ?_);rw[<-Nn];have Lm:SM κ (arrOf st) HJ (setPending st HJ):=⟨rfl,hq.kind,hq.failed,rfl⟩
 have hsz:=hq.size;have uw:∀x∈(arrOf st).toList,x∈a₀.toList:=fun x hx=>(lJ.mp hq.perm).mem_iff.mp hx;have fin:∀aW,SM κ (arrOf st) HJ aW->So key (arrOf st) sa (sb+nb)->Q true aW:=fun aW m so=>h aW ⟨HJ,⟨by rw[m.arr];exact hq.perm,m.kind,m.failed,m.pend⟩,by rw[m.arr];exact vY _ mS.refl so,xB⟩ (by rw[m.arr];exact mS.refl) (by rw[m.pend];exact hps);refine aD (bz (dF (arrOf st) sb (by lia)) ?_);refine aD (gh hC Lm.kind (uw _ (by simp)) uw (by lia) (by lia) (by rw[a1];exact b1) fun k hk q1 q2=>?_);rw[<-c_ (key:=key) (a:=arrOf st) (i:=sb) (by lia)] at q1 q2;simp only[rZ,mY,fZ] at q1 q2;dsimp only;by_cases f1:(na-k==0)=true
 .rw[aq f1];have g1:na-k=0:=by simpa using f1
  refine aO (fin _ Lm fun i j h1 h2 h3=>?_);by_cases c1:j<sb
  .exact b1 i j h1 h2 c1
  .by_cases c2:i<sb
   .have:=q1 (i-sa) (by lia);rw[show sa+(i-sa)=i by lia] at this;have:=b2 sb j (by lia) (by lia) h3;lia
   .exact b2 i j (by lia) h2 h3
 rw[ap f1];have g1:¬ (na-k=0):=by simpa using f1
 have el:sa+k+(na-k)-1=sb-1:=by lia
 rw[el];refine aD (bz (dF (arrOf st) (sb-1) (by lia)) ?_);refine aD (gh hC Lm.kind (uw _ (by simp)) uw (by lia) (by lia) b2 fun k2 Fp q3 q4=>?_);rw[<-c_ (key:=key) (a:=arrOf st) (i:=sb-1) (by lia)] at q3 q4;simp only[rZ,jw] at q3 q4;dsimp only;by_cases f2:(k2==0)=true
 .rw[aq f2];have g2:k2=0:=by simpa using f2
  refine aO (fin _ Lm fun i j h1 h2 h3=>?_);by_cases c1:j<sb
  .exact b1 i j h1 h2 c1
  .by_cases c2:i<sb
   .have:=q4 (j-sb) (by lia) (by lia);rw[show sb+(j-sb)=j by lia] at this;have:=b1 i (sb-1) h1 (by lia) (by lia);lia
   .exact b2 i j (by lia) h2 h3
 rw[ap f2];have g2:¬ (k2=0):=by simpa using f2
 have sx:((arrOf st).extract (sa+k) sb).size=sb-(sa+k):=by rw[Array.size_extract];lia
 have sy:((arrOf st).extract sb (sb+k2)).size=k2:=by rw[Array.size_extract];lia
 have T:xY key a₀ ((arrOf st).extract (sa+k) sb) ((arrOf st).extract sb (sb+k2)):=by
  refine⟨fun x hx=>uw x (by rw[fO] at hx;exact u6 (pr hx)),fun x hx=>uw x (by rw[fO] at hx;exact u6 (pr hx)),by lia,by lia,fun i j h1 h2 h3=>?_,fun i j h1 h2 h3=>?_,?_,fun i hi=>?_⟩
  .rw[sx] at h3;rw[iU (by lia),iU (by lia)];exact b1 _ _ (by lia) (by lia) (by lia)
  .rw[sy] at h3;rw[iU (by lia),iU (by lia)];exact b2 _ _ (by lia) (by lia) (by lia)
  .rw[iU (by lia),iU (by lia)];have:=q2 k (by lia) (by lia);rw[jr,jr];lia
  .rw[sy] at hi;rw[sx,iU (by lia),iU (by lia)];have:=q3 i hi;rw[show sa+k+(sb-(sa+k)-1)=sb-1 by lia];lia
 have last:∀ (out:Array Keyed) (aW:SortSt),Fi key ((arrOf st).extract (sa+k) sb) ((arrOf st).extract sb (sb+k2)) out->SM κ (arrOf st) HJ aW->wpS (model prog w) A E s (do
   modify fun s=>setArr s (out.toList.zipIdx.foldl (fun a (p,j)=>a.setIfInBounds (sa+k+j) p) (arrOf s))
   return (failedOf (<-get)).isNone) Q aW:=by
  intro out aW hF m;obtain⟨hp,so⟩:=hF;refine aD (fY ?_);refine aD (gN (aO ?_));have osz:out.toList.length=sb-(sa+k)+k2:=by
   rw[iX,hp.size_eq,Array.size_append,sx,sy]
  have wl:=r_ (sa:=sa+k) out.toList 0 (arrOf aW) (by rw[m.arr,osz];lia);have e3:sa+k+(sb-(sa+k)+k2)=sb+k2:=by lia
  rw[m.arr,osz,jr,e3] at wl;have HF:=lJ.mp hp;rw[pA] at HF;have pm:(out.toList.zipIdx.foldl (fun a (p,j)=>a.setIfInBounds (sa+k+j) p) (arrOf st)).Perm (arrOf st):=by
   rw[lJ];refine(vk wl).trans ?_;rw[fO,fO] at HF;refine((HF.append_left _).append_right _).trans ?_;have e1:(arrOf st).toList.drop (sa+k)=((arrOf st).toList.drop (sa+k)).take (sb-(sa+k))++(arrOf st).toList.drop sb:=x_ (by lia);have e2:(arrOf st).toList.drop sb=((arrOf st).toList.drop sb).take (sb+k2-sb)++(arrOf st).toList.drop (sb+k2):=x_ (by lia);refine vk ?_;conv=>rhs;rw[<-zo (sa+k) (arrOf st).toList,e1,e2]
   simp only[jP]
  have hf:(failedOf aW).isNone=true:=by rw[m.failed];rfl
  show Q (failedOf aW).isNone _;rw[hf];have go:∀x∈out.toList,kk key (arrOf st) sb<=key x/\key x<=kk key (arrOf st) (sb-1):=by
   intro x hx;rcases bV.mp (HF.mem_iff.mp hx) with z|z
   .obtain⟨n,hn,rfl⟩:=lL.mp z;rw[iX] at hn;have e:key (((arrOf st).extract (sa+k) sb).toList[n]'(by rw[iX];exact hn))=kk key (arrOf st) (sa+k+n):=by
     rw[<-iU (i:=sa+k) (j:=sb) (by lia),c_ hn,zz]
    rw[e];have h1:=q2 (k+n) (by lia) (by lia);rw[<-vp] at h1;have h2:=b1 (sa+k+n) (sb-1) (by lia) (by lia) (by lia);lia
   .obtain⟨n,hn,rfl⟩:=lL.mp z;rw[iX] at hn;have e:key (((arrOf st).extract sb (sb+k2)).toList[n]'(by rw[iX];exact hn))=kk key (arrOf st) (sb+n):=by
     rw[<-iU (i:=sb) (j:=sb+k2) (by lia),c_ hn,zz]
    rw[e];have h1:=q3 n (by lia);have h2:=b2 sb (sb+n) (by lia) (by lia) (by lia);lia
  have bk:=Jr (key:=key) (a:=arrOf st) (a':=out.toList.zipIdx.foldl (fun a (p,j)=>a.setIfInBounds (sa+k+j) p) (arrOf st)) (out:=out.toList) (sa:=sa) (k:=k) (sb:=sb) (k2:=k2) (e:=sb+nb) (by lia) (by lia) (by lia) (by lia) wl b1 b2 so (b:=kk key (arrOf st) sb) (t:=kk key (arrOf st) (sb-1))
   (fun i h1 h2=>by have:=q1 (i-sa) (by lia);rw[show sa+(i-sa)=i by lia] at this;lia) (fun i h1 h2=>by have:=q4 (i-sb) (by lia) (by lia);rw[show sb+(i-sb)=i by lia] at this;lia) go (fun i h1 h2=>b2 sb i (by lia) (by lia) h2)
  have ea:arrOf (setArr aW (out.toList.zipIdx.foldl (fun a (p,j)=>a.setIfInBounds (sa+k+j) p) (arrOf aW)))=out.toList.zipIdx.foldl (fun a (p,j)=>a.setIfInBounds (sa+k+j) p) (arrOf st):=by rw[m.arr]
  refine h _ ⟨HJ,⟨by rw[ea];exact pm.trans hq.perm,m.kind,m.failed,m.pend⟩,by rw[ea];exact vY _ bk.2 bk.1,xB⟩ (by rw[ea];exact bk.2.wide (by lia) (by lia)) (by show (pendingOf aW).size+1=_;rw[m.pend];exact hps)
 by_cases f3:na-k<=k2
 .rw[aq f3];exact aD (xZ hC Lm T fun out aW hp m=>last out aW hp m)
 .rw[ap f3];exact aD (yd hC Lm T fun out aW hp m=>last out aW hp m)
theorem yf[Decidable c]:(if c then x-1 else x)<=x:=by split <;> lia
theorem SR.pw{lo:Nat}{st:SortSt}(h:SR κ a₀ key lo st)(i p:Nat):SR κ a₀ key lo (setPending st ((pendingOf st).modify i fun r=>(r.1,r.2.1,p))):=by
 obtain⟨pd,hq,hr,hl⟩:=h;refine⟨_,⟨hq.perm,hq.kind,hq.failed,rfl⟩,?_,hl⟩;show hJ key (arrOf st) ((pendingOf st).modify i fun r=>(r.1,r.2.1,p)).toList 0 lo;rw[hq.pend,Array.toList_modify];exact hr.pw i p
theorem SR.push{lo n:Nat}{st:SortSt}(h:SR κ a₀ key lo st)(h1:1<=n)(hn:lo+n<=a₀.size)(so:So key (arrOf st) lo (lo+n)):SR κ a₀ key (lo+n) (setPending st ((pendingOf st).push (lo,n,0))):=by
 obtain⟨pd,hq,hr,hl⟩:=h;refine⟨_,⟨hq.perm,hq.kind,hq.failed,rfl⟩,?_,hn⟩;show hJ key (arrOf st) ((pendingOf st).push (lo,n,0)).toList 0 (lo+n);rw[hq.pend,jQ];exact hr.push h1 so
theorem Ds{st:SortSt}{Q:Unit->SortSt->Prop}(hC:wn prog w A s κ a₀ key)(hp:(arrOf st).Perm a₀)(hk:kindOf st=κ)(hf:failedOf st=none)(hpd:pendingOf st=#[])(h:∀aW,(arrOf aW).Perm a₀->failedOf aW=none->So key (arrOf aW) 0 a₀.size->Q () aW):wpS (model prog w) A E s sortRuns' Q st:=by
 have h0:SR κ a₀ key 0 st:=⟨#[],⟨hp,hk,hf,hpd⟩,rfl,dG _⟩
 have hsz:(arrOf st).size=a₀.size:=hp.size_eq;rw[sortRuns'_eq];refine aD (gN ?_);dsimp only;rw[hsz];refine aD (dY (gx (I:=fun i c aW=>∃lo,c=(none,lo)/\SR κ a₀ key lo aW/\i<=lo) (Q:=fun c aW=>∃lo,c=(none,lo)/\SR κ a₀ key lo aW/\a₀.size<=lo) ?_ (fun c aW ⟨lo,a,b,c⟩=>⟨lo,a,b,by lia⟩) ⟨0,rfl,h0,by lia⟩) ?_)
 .rintro i c DU _ _ ⟨lo,rfl,hR,hil⟩;by_cases e1:lo>=a₀.size
  .dsimp only;rw[aq e1];exact aO ⟨lo,rfl,hR,e1⟩
  have xB:lo<a₀.size:=by lia
  obtain⟨pd,hq,hr,hl⟩:=hR;dsimp only;rw[ap e1];refine aD (Dr hC (by lia) (by lia) hq fun n i6 Uu n1 n2 so ou=>?_);have PM:hJ key (arrOf i6) pd.toList 0 lo:=hr.keep fun i _ h2=>ou i (.inl h2);dsimp only;by_cases hm:n<minRun' a₀.size a₀.size 0
  .rw[aq hm];refine aD (my (jv ⟨rfl,?_⟩));refine aD (Jj hC (by lia) (by lia) Uu so fun vF Z6 so3 Fq=>?_);simp only[vq,mY,fZ];have w_:SR κ a₀ key lo vF:=⟨pd,Z6,PM.keep fun i _ h2=>Fq i (.inl h2),hl⟩
   refine aD (gN ?_);cases hb:(pendingOf vF).back? with
   |none=>
    dsimp only;exact aD (fY (aO ⟨_,rfl,SR.push w_ (by lia) (by lia) so3,by lia⟩))
   |some r=>
    obtain⟨s1,n1',pw1⟩:=r;dsimp only;refine aD (dY (gx (I:=fun _ c aW=>c=(none,())/\SR κ a₀ key lo aW/\So key (arrOf aW) lo (lo+min (a₀.size-lo) (minRun' a₀.size a₀.size 0))) (Q:=fun c aW=>c=(none,())/\SR κ a₀ key lo aW/\So key (arrOf aW) lo (lo+min (a₀.size-lo) (minRun' a₀.size a₀.size 0))) ?_ (fun c aW hh=>hh) ⟨rfl,w_,so3⟩) ?_)
    .rintro x c sZ _ _ ⟨rfl,s_,Fv⟩;refine aD (gN ?_);by_cases hs:(pendingOf sZ).size > 1
     .rw[aq hs,dF (pendingOf sZ) ((pendingOf sZ).size-2) (by lia)];generalize (pendingOf sZ)[(pendingOf sZ).size-2]=r4;obtain⟨_,_,Ro⟩:=r4;dsimp only;split
      .exact aO ⟨rfl,s_,Fv⟩
      .refine aD (kP hC s_ (by lia) fun Bi Rp ou _=>?_);simp only[vq,mY,fZ];exact aO ⟨rfl,Rp,Fv.keep fun i h1 _=>ou i (.inr h1)⟩
     .rw[ap hs];exact aO ⟨rfl,s_,Fv⟩
    .rintro c sZ ⟨rfl,s_,Fv⟩;dsimp only;exact aD (fY (aD (fY (aO ⟨_,rfl,(s_.pw _ _).push (by lia) (by lia) Fv,by lia⟩))))
  .rw[ap hm];have w_:SR κ a₀ key lo i6:=⟨pd,Uu,PM,hl⟩
   refine aD (gN ?_);cases hb:(pendingOf i6).back? with
   |none=>
    dsimp only;exact aD (fY (aO ⟨_,rfl,SR.push w_ n1 (by lia) so,by lia⟩))
   |some r=>
    obtain⟨s1,n1',pw1⟩:=r;dsimp only;refine aD (dY (gx (I:=fun _ c aW=>c=(none,())/\SR κ a₀ key lo aW/\So key (arrOf aW) lo (lo+n)) (Q:=fun c aW=>c=(none,())/\SR κ a₀ key lo aW/\So key (arrOf aW) lo (lo+n)) ?_ (fun c aW hh=>hh) ⟨rfl,w_,so⟩) ?_)
    .rintro x c sZ _ _ ⟨rfl,s_,Fv⟩;refine aD (gN ?_);by_cases hs:(pendingOf sZ).size > 1
     .rw[aq hs,dF (pendingOf sZ) ((pendingOf sZ).size-2) (by lia)];generalize (pendingOf sZ)[(pendingOf sZ).size-2]=r4;obtain⟨_,_,Ro⟩:=r4;dsimp only;split
      .exact aO ⟨rfl,s_,Fv⟩
      .refine aD (kP hC s_ (by lia) fun Bi Rp ou _=>?_);simp only[vq,mY,fZ];exact aO ⟨rfl,Rp,Fv.keep fun i h1 _=>ou i (.inr h1)⟩
     .rw[ap hs];exact aO ⟨rfl,s_,Fv⟩
    .rintro c sZ ⟨rfl,s_,Fv⟩;dsimp only;exact aD (fY (aD (fY (aO ⟨_,rfl,(s_.pw _ _).push n1 (by lia) Fv,by lia⟩))))
 .rintro c DU ⟨lo,rfl,hR,xB⟩;dsimp only;refine aD (dY (gx (I:=fun i c aW=>c=(none,())/\SR κ a₀ key lo aW/\(pendingOf aW).size<=max 1 (a₀.size-i)) (Q:=fun c aW=>c=(none,())/\SR κ a₀ key lo aW/\(pendingOf aW).size<=1) ?_ ?_ ⟨rfl,hR,?_⟩) ?_)
  .rintro x c sZ _ _ ⟨rfl,s_,hz⟩;refine aD (gN ?_);by_cases hs:(pendingOf sZ).size<=1
   .rw[aq hs];exact aO ⟨rfl,s_,hs⟩
   rw[ap hs];refine aD (kP hC s_ ?_ fun Bi Rp _ hz5=>?_)
   .exact gu (Nat.succ_le_succ yf) (show (pendingOf sZ).size-2+1<(pendingOf sZ).size by lia)
   .simp only[vq,mY,fZ];exact aO ⟨rfl,Rp,by lia⟩
  .rintro c sZ ⟨rfl,s_,hz⟩;exact⟨rfl,s_,by lia⟩
  .obtain⟨pd,hq,hr,hl⟩:=hR;have:=hr.le;rw[hq.pend];simp at this;lia
  .rintro c sZ ⟨rfl,⟨pd,hq,hr,hl⟩,hz⟩;refine aO (h _ hq.perm hq.failed ?_);rw[hq.pend] at hz;have Ww:pd.toList.length<=1:=by simpa using hz
   have e:lo=a₀.size:=by lia
   subst e;revert Ww;revert hr;cases pd.toList with
   |nil=>intro hr _ i j _ _ hj;have:0=a₀.size:=hr;lia
   |cons r rs=>
    cases rs with
    |nil=>intro hr _;obtain⟨_,_,so,e⟩:=hr;have e:0+r.2.1=a₀.size:=e;rw[<-e];exact so
    |cons r2 rs=>intro _ hz;simp at hz
end
end PyProof.Rows
namespace L2
open PySem PySem.Spec PyProof.Rows PySem.W
def jG(h:Heap)(g:Addr->Int×Int)(vs:List Value):Prop:=∀v∈vs,∃a o n t u,v=Value.ref a/\h.get? a=some o/\o.cls=.type "tuple"/\o.data=.seq #[.int (g a).1 t,.int (g a).2 u] n/\0<=(g a).2/\(g a).2<64
def pk(u:Int×Int):Int:=64*u.1+u.2
def kv(g:Addr->Int×Int)(v:Value):Int:=match v with
 |.ref a=>pk (g a)
 |_=>0
theorem jG.mz:∀ {vs:List Value},jG h g vs->∃fs,KatTups h vs fs/\fs.length=vs.length/\∀v∈fs,∃n t,v=Value.int n t
 |[],_=>⟨[],trivial,rfl,fun v hv=>nomatch hv⟩
 |v::vs,hp=>by
  obtain⟨fs,k1,k2,k3⟩:=jG.mz (vs:=vs) fun b hb=>hp b (cN _ hb);obtain⟨a,o,n,t,u,rfl,e,c,d,_⟩:=hp v cA;refine⟨.int (g a).1 t::fs,KatTups.cons e c d rfl k1,by simp[k2],fun v hv=>?_⟩;rcases bZ.mp hv with z|z
  .exact⟨_,t,z⟩
  .exact k3 v z
section
variable {prog:Program} {w:World} {A:Around} {E:Value->Shared->Prop} {s:Shared} {g:Addr->Int×Int}
theorem Dt(hp:jG s.heap g vs):wn prog w A s (tuples' true) (vs.toArray.zip vs.toArray) (fun x=>kv g x.1):=by
 have mem:∀x∈(vs.toArray.zip vs.toArray).toList,x.1∈vs:=by
  intro x hx;rw[zT] at hx;exact(oa hx).1
 intro x y hx hy Q E' q;obtain⟨a,o,n,t1,t2,e1,eo,_,ed,a1,a2⟩:=hp x.1 (mem x hx);obtain⟨b,o',n',u1,u2,e2,eo',_,ed',b1,b2⟩:=hp y.1 (mem y hy);replace q:∀c,c=decide (kv g x.1<kv g y.1)->Q c s:=fun c e=>e ▸ q;rw[e1,e2] at q;rw[e1,e2];replace q:∀c,c=decide (64*(g a).1+(g a).2<64*(g b).1+(g b).2)->Q c s:=q;generalize (g a).1=x1 at *;generalize (g a).2=x2 at *;generalize (g b).1=y1 at *;generalize (g b).2=y2 at *;refine kat_lt eo ed eo' ed' (kat_cons (z5 ?_));by_cases h1:x1=y1
 .rw[gZ.mpr h1];refine kat_yes (kat_cons (z5 ?_));by_cases h2:x2=y2
  .rw[gZ.mpr h2];exact kat_yes (kat_nil (q _ (by
    have e:decide (64*x1+x2<64*y1+y2)=false:=dk (by lia);rw[e];rfl)))
  .rw[lM.mpr h2];exact kat_no (kat_one _ _ (lt_int (q _ (by congr 1;rw[eq_iff_iff];lia))))
 .rw[lM.mpr h1];exact kat_no (oneLt_int (q _ (by congr 1;rw[eq_iff_iff];lia)))
theorem Js{vs:List Value}:((vs.toArray.zip vs.toArray).map (·.2)).toList=vs:=by
 rw[qU,zT];show (vs.zip vs).map (·.2)=vs;rw[<-List.unzip_snd,List.unzip_zip_right (bf _)]
theorem Fw{l:List Value}{p:Value×Value}:p∈l.zip l->p.2=p.1:=by
 induction l with
 |nil=>intro h;cases h
 |cons x l ih=>
  intro h;rw[List.zip_cons_cons] at h;rcases bZ.mp h with z|z
  .rw[z]
  .exact ih z
theorem p9(ho:s.heap.get? a=some (seqObj "list" vs.toArray n))(hp:jG s.heap g vs)(hz:vs.length<=4096)(h:∀ (out:Array Value),out.toList.Perm vs->out.toList.Pairwise (fun u v=>kv g u<=kv g v)->P (.done (.ret .none)) { s with heap:=sortedHeap s.heap a vs out }):
  wpAny (model prog w) A (Builtin.«list.sort» ⟨[.ref a],[]⟩) P E s:=by
 rw[list_sort_plain];have ha:a<s.heap.objs.size:=bn ho;have UH:vs.toArray.size<=sizeLine:=by rw[dj,ju];lia
 refine aN (listItems_at ho rfl ?_);refine aN (listUpdate_at ho rfl ?_ UH (dG _));obtain⟨e1,UI⟩:∃e1,(s.heap.update a (Obj.mapSeq fun _=>#[])).get? a=some (seqObj "list" #[] e1):=⟨_,get?_update_seq ho (fun _=>#[])⟩
 refine aN (seqEpoch_at UI rfl ?_);refine aN (wpAny_newTuple ?_ (by show vs.length<=_;rw[ju];lia));refine aN (wpAny_newList ?_ (dG _));refine ig ?_;have PN:(((s.heap.update a (Obj.mapSeq fun _=>#[])).push (seqObj "tuple" vs.toArray 0)).push (seqObj "list" #[] 0)).get? a=some (seqObj "list" #[] e1):=by
  rw[jR _ _ _ (by rw[mx,lO];exact bg (fH ha)),jR _ _ _ (by rw[lO];exact bg ha)];exact UI
 have hp6:jG (((s.heap.update a (Obj.mapSeq fun _=>#[])).push (seqObj "tuple" vs.toArray 0)).push (seqObj "list" #[] 0)) g vs:=by
  intro v hv;obtain⟨b,o,n,t,u,ev,e,c,d⟩:=hp v hv;have hb:b<s.heap.objs.size:=bn e;have ji:b≠a:=by
   rintro rfl;rw[ho] at e;cases e;exact absurd (Value.type.inj c) (by decide)
  refine⟨b,o,n,t,u,ev,?_,c,d⟩;rw[jR _ _ _ (by rw[mx,lO];exact bg (fH hb)),jR _ _ _ (by rw[lO];exact bg hb),qP _ _ _ _ ji];exact e
 show wpAny (model prog w) A _ P E { s with heap:=((s.heap.update a (Obj.mapSeq fun _=>#[])).push (seqObj "tuple" vs.toArray 0)).push (seqObj "list" #[] 0) };dsimp only;have fin:∀aW:SortSt,(arrOf aW).Perm (vs.toArray.zip vs.toArray)->So (fun x=>kv g x.1) (arrOf aW) 0 (arrOf aW).size->P (.done (.ret .none)) { s with heap:=sortedHeap s.heap a vs ((arrOf aW).map (·.2)) }:=by
  intro aW PP so;refine h _ ?_ ?_
  .have:=(lJ.mp PP).map (·.2);rw[<-qU,<-qU,Js] at this;exact this
  .have same:∀p∈(arrOf aW).toList,p.2=p.1:=by
    intro p hp;have:=(lJ.mp PP).mem_iff.mp hp;rw[zT] at this;exact Fw this
   rw[qU,jO];refine tT.mpr fun i j hi hj Jk=>?_;rw[same _ (gv hi),same _ (gv hj)];have:=so i j (by lia) (by lia) (by simpa using hj);rw[c_ (by simpa using hi),c_ (by simpa using hj)] at this;simpa using this
 have WM:(vs.toArray.zip vs.toArray).size=vs.length:=by simp
 by_cases h2:vs.toArray.size<2
 .rw[aq h2,aq h2];refine aN (wpAny_pure ?_);rw[StateT.run_pure];refine aN (wpAny_pure ?_);dsimp only;refine aN (seqEpoch_at PN rfl ?_);refine aN (listUpdate_at PN rfl ?_ (dG _) (by show ((vs.toArray.zip vs.toArray).map (·.2)).size<=_;rw[jo,WM,ju];lia));simp only[bne_self_eq_false,mY,fZ];exact wpAny_pure (fin (SortSt.mk' general' (vs.toArray.zip vs.toArray) #[] 7 none) (Array.Perm.refl _) fun i j _ h3 h4=>by
   have h4:j<(vs.toArray.zip vs.toArray).size:=h4;rw[WM] at h4;rw[dj] at h2;rw[show i=j by lia];exact mr _)
 .rw[ap h2,ap h2];have eW:2<=vs.length:=by rw[dj] at h2;lia
  obtain⟨fs,k1,k2,k3⟩:=hp6.mz;refine aN (kat_kind (T:=.type "int") k1 (by lia) (fun v hv=>?_) rfl ?_)
  .obtain⟨m,t,rfl⟩:=k3 v hv;exact .now
  refine aN (iQ (Ds (a₀:=vs.toArray.zip vs.toArray) (κ:=tuples' true) (st:=SortSt.mk' (tuples' true) (vs.toArray.zip vs.toArray) #[] 7 none)
   (Q:=fun _ aW=>(arrOf aW).Perm (vs.toArray.zip vs.toArray)/\failedOf aW=none/\So (fun x=>kv g x.1) (arrOf aW) 0 (vs.toArray.zip vs.toArray).size) (Dt hp6) (Array.Perm.refl _) rfl rfl rfl fun aW b1 b2 b3=>⟨b1,b2,b3⟩) ?_ fun _ _ e=>e)
  rintro⟨⟨⟩,aW⟩ s' ⟨rfl,PP,hf,so⟩;dsimp only;refine aN (seqEpoch_at PN rfl ?_);refine aN (listUpdate_at PN rfl ?_ (dG _) (by refine bj (vw ((jo ..).trans (PP.size_eq.trans WM))) ?_;rw[ju];lia));rw[hf];simp only[bne_self_eq_false,mY,fZ];exact wpAny_pure (fin aW PP (by rw[PP.size_eq];exact so))
theorem wu(hl:s.heap.IsList l vs.toArray)(hp:jG s.heap g vs)(hz:vs.length<=4096)(h:∀ (out:Array Value),out.toList.Perm vs->out.toList.Pairwise (fun u v=>kv g u<=kv g v)->Q (.ref (s.heap.objs.size+1)) { s with heap:=sortedAll s.heap vs out }):
  wpAny (model prog w) A (call (.builtin "sorted") [.ref l]) Q E s:=by
 have UH:vs.length<=sizeLine:=by rw[ju];lia
 refine Calls.call_function_entry kind_sorted plain_sorted entry_sorted (args_sorted1 _) ?_;unfold Builtin.«sorted»;refine aN (m:=checkCount "sorted" 1 1 _) (wpAny_pure ?_);refine aN (collect_list hl ?_ UH);refine aN (wpAny_newList ?_ UH);have hsz:((s.heap.push (seqObj "list" #[] 0)).update s.heap.objs.size (Obj.mapSeq (·++vs.toArray))).objs.size=s.heap.objs.size+1:=by
  rw[lO,mx]
 have K9:(((s.heap.push (seqObj "list" #[] 0)).update s.heap.objs.size (Obj.mapSeq (·++vs.toArray))).push (seqObj "list" vs.toArray 0)).get? (s.heap.objs.size+1)=some (seqObj "list" vs.toArray 0):=by
  rw[<-hsz];exact dC _ rfl
 have WD:jG (((s.heap.push (seqObj "list" #[] 0)).update s.heap.objs.size (Obj.mapSeq (·++vs.toArray))).push (seqObj "list" vs.toArray 0)) g vs:=by
  intro v hv;obtain⟨b,o,n,t,u,ev,e,c,d⟩:=hp v hv;have hb:b<s.heap.objs.size:=bn e;refine⟨b,o,n,t,u,ev,?_,c,d⟩;rw[jR _ _ _ (by rw[hsz];exact bg (fH hb)),qP _ _ _ _ (bg hb),jR _ _ _ (bg hb)];exact e
 show wpAny _ _ _ _ _ { s with heap:=((s.heap.push (seqObj "list" #[] 0)).update s.heap.objs.size (Obj.mapSeq (·++vs.toArray))).push (seqObj "list" vs.toArray 0) };rw[hsz];refine aN (ig (qY slot_list_sort ⟨_,K9,rfl⟩ entry_list_sort (p9 K9 WD hz fun out a1 a2=>⟨_,rfl,?_⟩) (args_list_sort _)));exact wpAny_pure ⟨_,rfl,h out a1 a2⟩
end
theorem yg:∀ {as:List Addr} {its:List Value},aY (as.map V.ref) its->its=as.map Value.ref
 |[],_,r=>by cases r;rfl
 |a::as,_,r=>by
  cases r with
  |cons r rr=>
   obtain rfl:=(show _=Value.ref a from r)
   rw[yg rr];rfl
theorem uy:∀ {as:List Addr},aY (as.map V.ref) (as.map Value.ref)
 |[]=>.nil
 |_::_=>.cons rfl uy
theorem Dv(h:vs.Perm (as.map Value.ref)):∃nX:List Addr,vs=nX.map Value.ref/\nX.Perm as:=by
 let un:Value->Addr:=fun v=>match v with|.ref a=>a|_=>0
 refine⟨vs.map un,?_,?_⟩
 .rw[fV];have:∀v∈vs,(Value.ref ∘ un) v=v:=by
   intro v hv;obtain⟨a,_,rfl⟩:=bO.mp (h.mem_iff.mp hv);rfl
  conv=>lhs;rw[<-kB vs]
  exact kg fun v hv=>(this v hv).symm
 .have:=h.map un;rw[fV] at this;have e:as.map (un ∘ Value.ref)=as:=by
   conv=>rhs;rw[<-kB as]
   exact kg fun a _=>rfl
  rw[e] at this;exact this
def Fx(K:PySem.W.Frag):List V->Hp->VK->Prop:=fun xs H Q=>∃ (l:Addr) (as:List Addr) (g:Addr->Int×Int),xs=[.ref l]/\aU K H l (as.map V.ref)/\(∀a∈as,cK K H a [.int (g a).1,.int (g a).2]/\0<=(g a).2/\(g a).2<64)/\as.length<=4096/\
 ∀ (D:Addr) (nX:List Addr),H D=none->nX.Perm as->nX.Pairwise (fun a b=>pk (g a)<=pk (g b))->Q (.ref D) (upd H D (.lst (nX.map V.ref)))
theorem sd:fA X (.builtin "sorted") (Fx X.K):=by
 intro ae s σ H xs us Q I r h;obtain⟨l,as,g,rfl,hl,hp,hz,q⟩:=h;obtain⟨u1,rfl,r1⟩:=r.one;obtain rfl:u1=Value.ref l:=r1;obtain⟨its,rv,pl,_⟩:=I.list hl;have Ay:=yg rv;subst Ay;have hpv:jG s.heap g (as.map Value.ref):=by
  intro v hv;obtain⟨a,ha,rfl⟩:=bO.mp hv;obtain⟨HG,b1,b2⟩:=hp a ha;obtain⟨its,r,⟨o,e,c,n,d⟩,_⟩:=I.tuple HG;obtain⟨u1,u2,rfl,r1,r2⟩:=r.two;obtain⟨t,rfl⟩:=r1;obtain⟨t',rfl⟩:=r2;exact⟨a,o,n,t,t',rfl,e,c,d,b1,b2⟩
 refine wu pl.isList hpv (by rw[aF];exact hz) fun out Rq Rt=>?_;obtain⟨nX,eo,pa⟩:=Dv Rq;have Df:out=(nX.map Value.ref).toArray:=by rw[<-eo]
 subst Df;have ho:nX.Pairwise (fun a b=>pk (g a)<=pk (g b)):=by
  rw[eo,jO] at Rt;exact Rt
 have WN:((s.heap.push (seqObj "list" #[] 0)).update s.heap.objs.size (Obj.mapSeq (·++(as.map Value.ref).toArray))).objs.size=s.heap.objs.size+1:=by rw[lO,mx]
 have k1:∀b u,s.heap.get? b=some u->(((s.heap.push (seqObj "list" #[] 0)).update s.heap.objs.size (Obj.mapSeq (·++(as.map Value.ref).toArray))).push (seqObj "list" (as.map Value.ref).toArray 0)).get? b=some u:=fun b u e=>by
  have hb:b<s.heap.objs.size:=bn e;rw[jR _ _ _ (by rw[WN];exact bg (fH hb)),qP _ _ _ _ (bg hb),jR _ _ _ (bg hb)];exact e
 have K9:(((s.heap.push (seqObj "list" #[] 0)).update s.heap.objs.size (Obj.mapSeq (·++(as.map Value.ref).toArray))).push (seqObj "list" (as.map Value.ref).toArray 0)).get? (s.heap.objs.size+1)=some (seqObj "list" (as.map Value.ref).toArray 0):=by
  rw[<-WN];exact dC _ rfl
 have PQ:(((s.heap.push (seqObj "list" #[] 0)).update s.heap.objs.size (Obj.mapSeq (·++(as.map Value.ref).toArray))).push (seqObj "list" (as.map Value.ref).toArray 0)).objs.size=s.heap.objs.size+2:=by rw[mx,WN]
 show EP X ae σ Q (.ref (s.heap.objs.size+1)) { s with heap:=sortedHeap (((s.heap.push (seqObj "list" #[] 0)).update s.heap.objs.size (Obj.mapSeq (·++(as.map Value.ref).toArray))).push (seqObj "list" (as.map Value.ref).toArray 0)) (s.heap.objs.size+1) (as.map Value.ref) (nX.map Value.ref).toArray };revert k1 K9 PQ;generalize ((s.heap.push (seqObj "list" #[] 0)).update s.heap.objs.size (Obj.mapSeq (·++(as.map Value.ref).toArray))).push (seqObj "list" (as.map Value.ref).toArray 0)=h1;intro k1 K9 PQ;obtain⟨e1,UI⟩:∃e1,(h1.update (s.heap.objs.size+1) (Obj.mapSeq fun _=>(#[]:Array Value))).get? (s.heap.objs.size+1)=some (seqObj "list" #[] e1):=⟨_,get?_update_seq K9 (fun _=>#[])⟩
 have PN:(((h1.update (s.heap.objs.size+1) (Obj.mapSeq fun _=>(#[]:Array Value))).push (seqObj "tuple" (as.map Value.ref).toArray 0)).push (seqObj "list" #[] 0)).get? (s.heap.objs.size+1)=some (seqObj "list" #[] e1):=by
  rw[jR _ _ _ (by rw[mx,lO,PQ];exact bg (fH (kl _))),jR _ _ _ (by rw[lO,PQ];exact bg (kl _))];exact UI
 obtain⟨e2,ho7⟩:∃e2,(sortedHeap h1 (s.heap.objs.size+1) (as.map Value.ref) (nX.map Value.ref).toArray).get? (s.heap.objs.size+1)=some (seqObj "list" (nX.map Value.ref).toArray e2):=⟨_,get?_update_seq PN (fun _=>(nX.map Value.ref).toArray)⟩
 have keep:∀b u,s.heap.get? b=some u->(sortedHeap h1 (s.heap.objs.size+1) (as.map Value.ref) (nX.map Value.ref).toArray).get? b=some u:=fun b u e=>by
  have hb:b<s.heap.objs.size:=bn e;unfold sortedHeap;rw[qP _ _ _ _ (bg (fH hb)),jR _ _ _ (by rw[mx,lO,PQ];exact bg (fH (fH (fH hb)))),jR _ _ _ (by rw[lO,PQ];exact bg (fH (fH hb))),qP _ _ _ _ (bg (fH hb))];exact k1 b u e
 have Lz:s.heap.get? (s.heap.objs.size+1)=none:=n6 (by lia);refine⟨.ref (s.heap.objs.size+1),_,I.Bs (t':=s.toks) (o:=.lst (nX.map V.ref)) keep Lz ⟨?_,nX.map Value.ref,e2,uy,ho7⟩,rfl,q _ nX (I.bS.vW Lz) pa ho⟩;rw[aF,pa.length_eq];exact bj hz (by decide)
open PySem PySem.Spec PyProof.Rows
section
variable {prog:Program} {w:World} {A:Around} {E:Value->Shared->Prop} {s:Shared}
end
section
variable {X:Cx}
end
end L2
namespace wv
abbrev Ts:=List (Int×Int)
def T(ts:Ts)(a b:Nat):Prop:=(((a:Nat):Int),((b:Nat):Int))∈ts
instance (ts:Ts) (a b:Nat):Decidable (T ts a b):=inferInstanceAs (Decidable (_∈_))
def e_(ts:Ts):Nat->Nat->Nat->Prop
 |0,a,b=>a=b
 |k+1,a,b=>∃c,e_ ts k a c/\T ts c b
theorem e_.trans(h:e_ ts k a b):∀ {l:Nat} {c:Nat},e_ ts l b c->e_ ts (k+l) a c
 |0,_,e=>by cases e;exact h
 |l+1,_,⟨d,w,t⟩=>⟨d,h.trans w,t⟩
theorem e_.one(h:T ts a b):e_ ts 1 a b:=⟨a,rfl,h⟩
theorem e_.cons(h:T ts a b)(w:e_ ts k b c):e_ ts (k+1) a c:=by
 have:=(e_.one h).trans w;rwa [Nat.add_comm] at this
theorem e_.Fy{ts:Ts}:∀ {k:Nat} {a c:Nat},e_ ts (k+1) a c->∃b,T ts a b/\e_ ts k b c
 |0,a,c,⟨d,e,t⟩=>by cases e;exact⟨c,t,rfl⟩
 |k+1,a,c,⟨d,w,t⟩=>by
  obtain⟨b,t',w'⟩:=e_.Fy w;exact⟨b,t',d,w',t⟩
def nB(ts:Ts)(a b d:Nat):Prop:=e_ ts d a b/\∀k,e_ ts k a b->d<=k
theorem nB.uniq(h:nB ts a b d)(g:nB ts a b e):d=e:=Nat.le_antisymm (h.2 _ g.1) (g.2 _ h.1)
theorem No{ts:Ts}{a b:Nat}:∀k,e_ ts k a b->∃d,nB ts a b d:=by
 intro k;induction k using Nat.strongRecOn with
 |ind k ih=>
  intro w;by_cases h:∃j,j<k/\e_ ts j a b
  .obtain⟨j,hj,wj⟩:=h;exact ih j hj wj
  .exact⟨k,w,fun j wj=>uW fun z=>h ⟨j,by lia,wj⟩⟩
open Classical in
noncomputable def far(ts:Ts)(a b:Nat):Nat:=if h:∃d,nB ts a b d then h.choose else 0
theorem AH(h:nB ts a b d):far ts a b=d:=by
 unfold far;have hx:∃d,nB ts a b d:=⟨d,h⟩
 rw[dif_pos hx];exact hx.choose_spec.uniq h
theorem Np{ts:Ts}{a b k:Nat}(w:e_ ts k a b):nB ts a b (far ts a b):=by
 obtain⟨d,h⟩:=No k w;rw[AH h];exact h
structure gI(n:Nat)(ts:Ts):Prop where
 n1:2<=n
 n2:n<=32
 nd:ts.Nodup
 rg:∀t∈ts,(0<=t.1/\t.1<n)/\(0<=t.2/\t.2<n)
 ne:∀t∈ts,t.1≠t.2
 Jt:∀h:Int,(ts.filter fun t=>decide (t.1=h)).length=(ts.filter fun t=>decide (t.2=h)).length
 most:∀h:Int,(ts.filter fun t=>decide (t.1=h)).length<=8
 con:∀a b,a<n->b<n->∃k,e_ ts k a b
theorem Dw(f:α->Int):∀ (l:List α) (n:Nat),(∀x∈l,0<=f x/\f x<n)->(∀h:Int,(l.filter fun t=>decide (f t=h)).length<=8)->l.length<=8*n:=by
 intro l n;induction n generalizing l with
 |zero=>
  intro h _;cases l with
  |nil=>simp
  |cons x xs=>have:=h x cA;lia
 |succ n ih=>
  intro h h8;have e:l.length=(l.filter fun t=>decide (f t=(n:Int))).length+(l.filter fun t=>!decide (f t=(n:Int))).length:=by
   induction l with
   |nil=>rfl
   |cons x xs ih2=>
    have:=ih2 (fun y hy=>h y (cN _ hy)) (fun hh=>bj (by rw[iZ];split <;> simp) (h8 hh));by_cases q:f x=(n:Int) <;> simp[iZ,q] <;> lia
  have i2:=ih (l.filter fun t=>!decide (f t=(n:Int))) (fun x hx=>by
   have a:=h x (cf.mp hx |>.1);have b:=(cf.mp hx).2;simp at b;lia) (fun hh=>by
   refine bj ?_ (h8 hh);exact(List.filter_sublist.filter _).length_le)
  have:=h8 (n:Int);lia
theorem gI.len(F:gI n ts):ts.length<=256:=by
 have:=Dw (·.1) ts n (fun t ht=>(F.rg t ht).1) F.most;have:=F.n2;lia
theorem gI.LC(F:gI n ts)(h:T ts a b):a<n/\b<n/\a≠b:=by
 have q:=F.rg _ h;have q2:=F.ne _ h;refine⟨by have:=q.1;simp at this;lia,by have:=q.2;simp at this;lia,fun e=>q2 (by rw[e])⟩
theorem gI.Nq{n:Nat}{ts:Ts}(F:gI n ts){a b:Nat}(ha:a<n)(hb:b<n):nB ts a b (far ts a b):=
 let ⟨_,w⟩:=F.con a b ha hb;Np w
def fP(n:Nat)(ts:Ts)(h:Nat):List Nat:=((List.range n).map fun s=>(h+s) % n).filter fun o=>decide (T ts h o)
theorem kQ(F:gI n ts)(hh:h<n):o∈fP n ts h↔T ts h o:=by
 unfold fP;rw[cf,l7];refine⟨fun z=>z.2,fun z=>⟨?_,z⟩⟩;obtain⟨_,h2,_⟩:=F.LC z;refine bO.mpr ⟨if h<=o then o-h else o+n-h,bu.mpr (by split <;> lia),?_⟩;split
 .rw[show h+(o-h)=o by lia,l9 h2]
 .rw[show h+(o+n-h)=o+n by lia,Nat.add_mod_right,l9 h2]
theorem BZ(F:gI n ts)(hh:h<n)(ho:o∈fP n ts h):o<n:=(F.LC ((kQ F hh).mp ho)).2.1
def key(n h o:Nat):Int:=((o:Int)-(h:Int)) % (n:Int)
theorem mH(hh:h<n)(hs:s<n):key n h ((h+s) % n)=(s:Int):=by
 unfold key;by_cases c:h+s<n
 .rw[l9 c,show (((h+s:Nat):Int)-(h:Int))=(s:Int) by lia];exact vf (by lia) (by lia)
 .have e:(h+s) % n=h+s-n:=by
   rw[Nat.mod_eq_sub_mod (by lia),l9 (by lia)]
  rw[e,show ((((h+s-n:Nat)):Int)-(h:Int))=(s:Int)-(n:Int) by lia,Int.sub_emod_right];exact vf (by lia) (by lia)
theorem yh(hh:h<n):(fP n ts h).Pairwise fun a b=>key n h a<key n h b:=by
 unfold fP;refine l3 _ ?_;refine jO.mpr ?_;refine zh ?_ (List.pairwise_lt_range (n:=n));intro a b ha hb Ru;rw[mH hh (bu.mp ha),mH hh (bu.mp hb)];lia
theorem pN{α:Type}{k:α->Int}:∀ {a b:List α},a.Pairwise (fun x y=>k x<k y)->b.Pairwise (fun x y=>k x<k y)->(∀x,x∈a↔x∈b)->a=b
 |[],[],_,_,_=>rfl
 |[],y::ys,_,_,h=>absurd ((h y).mpr cA) (by simp)
 |x::xs,[],_,_,h=>absurd ((h x).mp cA) (by simp)
 |x::xs,y::ys,ha,hb,h=>by
  obtain⟨a1,a2⟩:=List.pairwise_cons.mp ha;obtain⟨b1,b2⟩:=List.pairwise_cons.mp hb;have e:x=y:=by
   rcases bZ.mp ((h x).mp cA) with z|z
   .exact z
   .rcases bZ.mp ((h y).mpr cA) with z'|z'
    .exact z'.symm
    .have q1:=b1 x z;have q2:=a1 y z';lia
  subst e;refine congrArg (x::·) (pN a2 b2 fun z=>⟨fun hz=>?_,fun hz=>?_⟩)
  .rcases bZ.mp ((h z).mp (cN _ hz)) with q|q
   .subst q;exact absurd (a1 _ hz) (by lia)
   .exact q
  .rcases bZ.mp ((h z).mpr (cN _ hz)) with q|q
   .subst q;exact absurd (b1 _ hz) (by lia)
   .exact q
structure yZ(n:Nat)(ts:Ts)(s i:Nat)(R:List Nat)(f:Nat->Nat):Prop where
 nd:R.Nodup
 lt:∀x∈R,x<n
 st:s∈R
 z:f s=0
 wk:∀x∈R,e_ ts (f x) s x
 up:R.Pairwise fun a b=>f a<=f b
 bd:∀u,R[i]?=some u->∀x∈R,f x<=f u+1
 cl:∀j u,j<i->R[j]?=some u->∀v,T ts u v->v∈R/\f v<=f u+1
theorem yZ.start(hs:s<n):yZ n ts s 0 [s] (fun _=>0):=
 ⟨by simp,fun x hx=>by simp at hx;lia,by simp,rfl,fun x hx=>by simp at hx;subst hx;rfl,by simp,fun u _ x _=>by lia,fun j u h=>absurd h (by lia)⟩
def put(f:Nat->Nat)(v k:Nat):Nat->Nat:=fun y=>if y=v then k else f y
theorem ip:put f v k v=k:=by simp[put]
theorem fz(h:x≠v):put f v k x=f x:=by simp[put,h]
theorem yZ.add(B:yZ n ts s i R f)(hu:R[i]?=some u)(hv:v<n)(t:T ts u v)(hn:v∉R):yZ n ts s i (R++[v]) (put f v (f u+1)):=by
 have hur:u∈R:=eB hu;have nv:∀x∈R,x≠v:=fun x hx e=>hn (e ▸ hx);have hi:i<R.length:=(cI.mp hu).1;refine⟨?_,fun x hx=>?_,iE _ B.st,by rw[fz (nv s B.st)];exact B.z,fun x hx=>?_,?_,fun w hw x hx=>?_,fun j w hj hw x hx=>?_⟩
 .rw[lN];exact⟨B.nd,by simp,fun a ha b hb e=>by simp at hb;subst hb;exact hn (e ▸ ha)⟩
 .rcases bV.mp hx with z|z
  .exact B.lt x z
  .simp at z;lia
 .rcases bV.mp hx with z|z
  .rw[fz (nv x z)];exact B.wk x z
  .simp at z;subst z;rw[ip];exact⟨u,B.wk u hur,t⟩
 .rw[u5];refine⟨B.up.imp_of_mem fun {a b} ha hb h=>by rw[fz (nv a ha),fz (nv b hb)];exact h,by simp,fun a ha b hb=>?_⟩;simp at hb;subst hb;rw[fz (nv a ha),ip];exact B.bd u hu a ha
 .have hw':w=u:=by
   rw[iC hi,hu] at hw;exact(ba hw).symm
  subst hw';rw[fz (nv w hur)];rcases bV.mp hx with z|z
  .rw[fz (nv x z)];exact B.bd w hu x z
  .simp at z;subst z;rw[ip];exact bf _
 .rw[iC (by lia)] at hw;obtain⟨a,b⟩:=B.cl j w hj hw x hx;refine⟨iE _ a,?_⟩;rw[fz (nv x a),fz (nv w (eB hw))];exact b
theorem yZ.next(B:yZ n ts s i R f)(hu:R[i]?=some u)(h:∀v,T ts u v->v∈R/\f v<=f u+1):yZ n ts s (i+1) R f:=by
 refine⟨B.nd,B.lt,B.st,B.z,B.wk,B.up,fun w hw x hx=>?_,fun j w hj hw v hv=>?_⟩
 .have h1:=B.bd u hu x hx;have h2:f u<=f w:=by
   have hi:i<R.length:=(cI.mp hu).1;have kO:i+1<R.length:=(cI.mp hw).1;have:=tT.mp B.up i (i+1) hi kO (by lia);rw[b9 hi] at hu;rw[b9 kO] at hw;rw[ba hu,ba hw] at this;exact this
  lia
 .by_cases e:j=i
  .subst e;rw[hu] at hw;cases hw;exact h v hv
  .exact B.cl j w (by lia) hw v hv
theorem fc:∀ {n:Nat} {R:List Nat},R.Nodup->(∀x∈R,x<n)->R.length<=n:=by
 intro n R hn hl;have key:∀ (a b:List Nat),a.Nodup->(∀x∈a,x∈b)->a.length<=b.length:=by
  intro a;induction a with
  |nil=>intro b _ _;exact dG _
  |cons x xs ih=>
   intro b hn hs;obtain⟨h1,h2⟩:=dQ.mp hn;have hx:x∈b:=hs x cA;have:=ih (b.erase x) h2 fun y hy=>(zu (fun (e:y=x)=>h1 (e ▸ hy))).mpr (hs y (cN _ hy));rw[zf hx] at this;have:0<b.length:=qM hx;rw[cx];lia
 have:=key R (List.range n) hn fun x hx=>bu.mpr (hl x hx);rwa [dD] at this
theorem yZ.done(B:yZ n ts s i R f)(F:gI n ts)(hi:R.length<=i)(hx:x<n):x∈R/\f x=far ts s x:=by
 have cl:∀u∈R,∀v,T ts u v->v∈R/\f v<=f u+1:=fun u hu v hv=>by
  obtain⟨j,hj,e⟩:=lL.mp hu;exact B.cl j u (by lia) (by rw[b9 hj,e]) v hv
 have walk:∀k x,e_ ts k s x->x∈R/\f x<=k:=by
  intro k;induction k with
  |zero=>intro x e;cases e;exact⟨B.st,by rw[B.z];exact bf _⟩
  |succ k ih=>
   rintro x ⟨c,w,t⟩;obtain⟨c1,c2⟩:=ih c w;obtain⟨d1,d2⟩:=cl c c1 x t;exact⟨d1,by lia⟩
 obtain⟨k,w⟩:=F.con s x (B.lt s B.st) hx;obtain⟨m,_⟩:=walk k x w;exact⟨m,(AH ⟨B.wk x m,fun k w=>(walk k x w).2⟩).symm⟩
abbrev ci(x:Nat):Int:=(x:Int)
theorem gI.Nr{n:Nat}{ts:Ts}(F:gI n ts){a b k:Nat}(ha:a<n)(hb:b<n)(w:e_ ts k a b):far ts a b<=k:=(F.Nq ha hb).2 k w
end wv
namespace L2
open PySem PySem.Spec PyProof.Rows
section
variable {X:Cx}
end
end L2
namespace wv
end wv
namespace eT
open PySem L2
def gR(i:Nat):Stmt:=PySem.Challenge.pw_neverwait_k66_nearest_first_on_any_net.main.body.getD i (.Pass ⟨0,0,0,0⟩)
abbrev oX:Stmt:=gR 8
abbrev lr:Stmt:=gR 9
abbrev AI:Stmt:=gR 10
abbrev Nt:Stmt:=gR 12
structure Bl(mg:Str->Option Value):Prop where
 DV:mg "isinstance"=none
 int:mg "int"=none
 bool:mg "bool"=none
 tup:mg "tuple"=none
 lst:mg "list"=none
 str:mg "str"=none
 set:mg "set"=none
 len:mg "len"=none
 range:mg "range"=none
 sorted:mg "sorted"=none
 any:mg "any"=none
 max:mg "max"=none
 min:mg "min"=none
 aah:mg "ValueError"=none
 all:mg "all"=none
def Fz(K:PySem.W.Frag)(H:Hp)(x:V):Prop:=∃t,QO K H x t/\(PySem.W.kitOne K t (.type "int")=some false\/(PySem.W.kitOne K t (.type "int")=some true/\PySem.W.kitOne K t (.type "bool")=some true))
theorem iK:PySem.W.kitOne K (.type "int") (.type "int")=some true:=by kernel_rfl
theorem hU:PySem.W.kitOne K (.type "int") (.type "bool")=some false:=by kernel_rfl
inductive Wh (K:PySem.W.Frag) (H:Hp):V->Option Int->Prop where
 |int (i:Int):Wh K H (.int i) (some i)
 |no {x:V} (h:Fz K H x):Wh K H x none
def jH(K:PySem.W.Frag):Sp:=fun vs H Q _=>∃x o,vs=[x]/\Wh K H x o/\Q (.bl o.isSome) H
section
variable {P:Program} {w:World} {K:PySem.W.Frag} {mg:Str->Option Value} {base:Heap}
theorem ww:aJ ["thing"] ["thing"] (am oX):=⟨rfl,rfl,rfl,by decide +kernel,rfl,by decide +kernel,by decide +kernel⟩
theorem sf(F:fW K "is_whole" "is_whole" oX f fd)(B:Bl mg):bC P w K mg base bi 1 f fd ["thing"] (jH K):=by
 refine F.ok ww (fun vs H Q E h=>?_) (fun dE A outer s H vs Q E hr h=>?_)
 .obtain⟨x,o,rfl,_⟩:=h;rfl
 .obtain⟨x,o,rfl,W,k⟩:=h;refine⟨_,al (aH (f_ (av eX (by rfl) B.DV j7 (aa (pv 0) (aa (fK (v:=.ty "int") rfl B.int mV rfl) ag)))
   (gO (z9 (av eX (by rfl) B.DV j7 (aa (pv 0) (aa (fK (v:=.ty "bool") rfl B.bool uY rfl) ag))))))),?_⟩
  cases W with
  |int i=>
   refine⟨_,rfl,_,_,_,.type "int",true,rfl,⟨rfl,iK⟩,.of (.int _),true,rfl,?_⟩;exact⟨_,rfl,_,_,_,.type "int",false,rfl,⟨rfl,hU⟩,.of (.int _),false,rfl,k⟩
  |no h=>
   obtain⟨t,ty,h|⟨h1,h2⟩⟩:=h
   .exact⟨_,rfl,_,_,_,t,false,rfl,⟨rfl,h⟩,ty,false,rfl,k⟩
   .refine⟨_,rfl,_,_,_,t,true,rfl,⟨rfl,h1⟩,ty,true,rfl,?_⟩;exact⟨_,rfl,_,_,_,t,true,rfl,⟨rfl,h2⟩,ty,true,rfl,k⟩
def iV(o:Option Int)(lo hi:Int):Bool:=match o with
 |some i=>decide (lo<=i)&&decide (i<=hi)
 |none=>false
def gJ(K:PySem.W.Frag):Sp:=fun vs H Q _=>∃x o lo hi,vs=[x,.int lo,.int hi]/\Wh K H x o/\Q (.bl (iV o lo hi)) H
theorem sg:aJ ["thing","least","most"] ["thing","least","most"] (am lr):=⟨rfl,rfl,rfl,by decide +kernel,rfl,by decide +kernel,by decide +kernel⟩
theorem oY(F:fW K "is_whole_within" "is_whole_within" lr f fd)(W:cE P w K mg base bi 1 "is_whole" ["thing"] (jH K)):bC P w K mg base bi 2 f fd ["thing","least","most"] (gJ K):=by
 refine F.ok sg (fun vs H Q E h=>?_) (fun dE A outer s H vs Q E hr h=>?_)
 .obtain⟨x,o,lo,hi,rfl,_⟩:=h;rfl
 .obtain⟨x,o,lo,hi,rfl,wh,k⟩:=h;refine⟨_,al (aH (f_ (aB W hr aM (aa (pv 0) ag)) (gO (xq Bm Bm (pv 1) (pv 0) (pv 2))))),?_⟩;refine⟨_,rfl,x,o,rfl,wh,?_⟩;cases wh with
  |no h=>exact⟨false,rfl,k⟩
  |int i=>
   refine⟨true,rfl,_,rfl,_,rfl,_,_,rfl,rfl,_,rfl,?_⟩;show if decide (lo<=i)=true then _ else _
   have k':Q (.bl (decide (lo<=i)&&decide (i<=hi))) H:=k;by_cases h:lo<=i
   .rw[bE h] at k' |-;exact⟨_,rfl,_,_,rfl,rfl,k'⟩
   .rw[dk h] at k' |-;exact k'
def qA(K:PySem.W.Frag):Sp:=fun vs H Q _=>∃x o n,vs=[.int n,x]/\Wh K H x o/\Q (.bl (iV o 0 (n-1))) H
theorem Ju:aJ ["many","thing"] ["many","thing"] (am AI):=⟨rfl,rfl,rfl,by decide +kernel,rfl,by decide +kernel,by decide +kernel⟩
theorem FB(F:fW K "is_house" "is_house" AI f fd)(W:cE P w K mg base bi 2 "is_whole_within" ["thing","least","most"] (gJ K)):bC P w K mg base bi 3 f fd ["many","thing"] (qA K):=by
 refine F.ok Ju (fun vs H Q E h=>?_) (fun dE A outer s H vs Q E hr h=>?_)
 .obtain⟨x,o,n,rfl,_⟩:=h;rfl
 .obtain⟨x,o,n,rfl,wh,k⟩:=h;refine⟨_,al (aH (aB W hr aM (aa (pv 1) (aa ao (aa (a_ jA (pv 0) ao) ag))))),?_⟩;exact⟨_,rfl,_,rfl,_,_,rfl,rfl,x,o,0,n-1,rfl,wh,k⟩
inductive Rw (K:PySem.W.Frag) (H:Hp):V->Option (List V)->Prop where
 |tup {p:Addr} {xs:List V} (h:H p=some (.tup xs)):Rw K H (.ref p) (some xs)
 |no {x:V} {t:Value} (ty:QO K H x t) (h:PySem.W.kitOne K t (.type "tuple")=some false):Rw K H x none
def Rv(o:Option (List V))(m:Int):Bool:=match o with
 |some xs=>decide ((xs.length:Int)=m)
 |none=>false
theorem Jv:PySem.W.kitOne K (.type "tuple") (.type "tuple")=some true:=by kernel_rfl
def FE(K:PySem.W.Frag):Sp:=fun vs H Q _=>∃x o m,vs=[x,.int m]/\Rw K H x o/\Q (.bl (Rv o m)) H
theorem Rx:aJ ["thing","length"] ["thing","length"] (am Nt):=⟨rfl,rfl,rfl,by decide +kernel,rfl,by decide +kernel,by decide +kernel⟩
theorem Nu(F:fW K "is_row" "is_row" Nt f fd)(B:Bl mg):bC P w K mg base bi 1 f fd ["thing","length"] (FE K):=by
 refine F.ok Rx (fun vs H Q E h=>?_) (fun dE A outer s H vs Q E hr h=>?_)
 .obtain⟨x,o,m,rfl,_⟩:=h;rfl
 .obtain⟨x,o,m,rfl,W,k⟩:=h;refine⟨_,al (aH (f_ (av eX (by rfl) B.DV j7 (aa (pv 0) (aa (fK (v:=.ty "tuple") rfl B.tup qK rfl) ag)))
   (gO (cy eN (av aE (by rfl) B.len cL (aa (pv 0) ag)) (pv 1) (aG _))))),?_⟩
  cases W with
  |@tup p xs h=>
   refine⟨_,rfl,_,_,_,.type "tuple",true,rfl,⟨rfl,Jv⟩,.of (.tup h),true,rfl,?_⟩;refine⟨_,rfl,_,_,rfl,.inr (cK.of h),_,rfl,rfl,?_⟩;have e:decide (V.int ((xs.length:Nat):Int)=V.int m)=decide (((xs.length:Nat):Int)=m):=by simp
   rw[e];exact k
  |no ty h=>exact⟨_,rfl,_,_,_,_,false,rfl,⟨rfl,h⟩,ty,false,rfl,k⟩
end
theorem cG(s:aI H H')(hD:H D=none):aI H (upd H' D o):=fun b u e=>by rw[ak (ai e hD)];exact s b u e
abbrev IV(ns:List Int):List V:=ns.map V.int
abbrev NV(ns:List Nat):List V:=ns.map fun (x:Nat)=>V.int (x:Int)
abbrev Zs:=List (Addr×(Int×Int))
abbrev HK(u:Int×Int):HO:=.tup [.int u.1,.int u.2]
def zr(zs:Zs):List V:=zs.map fun z=>V.ref z.1
def zp(zs:Zs):List (Int×Int):=zs.map (·.2)
def PO(H:Hp)(zs:Zs):Prop:=∀z∈zs,H z.1=some (HK z.2)
theorem i_:zr (a++b)=zr a++zr b:=bK
theorem ja:zp (a++b)=zp a++zp b:=bK
theorem jI:(zr a).length=a.length:=aF _
theorem eK:(zp a).length=a.length:=aF _
theorem wx:zr a=(a.map (·.1)).map V.ref:=by unfold zr;rw[fV];rfl
theorem AJ{zs:Zs}{i:Nat}{x:V}(h:(zr zs)[i]?=some x):∃z,zs[i]?=some z/\x=.ref z.1:=by
 unfold zr at h;rw[bp] at h;cases e:zs[i]? with
 |none=>rw[e] at h;cases h
 |some z=>rw[e] at h;exact⟨z,rfl,(ba h).symm⟩
theorem PO.nil:PO H []:=fun z hz=>(nomatch hz)
theorem PO.same(h:PO H zs)(s:aI H H'):PO H' zs:=fun z hz=>s _ _ (h z hz)
theorem PO.putL(h:PO H zs)(e:H D=some (.lst xs)):PO (upd H D o) zs:=fun z hz=>by
 have:=h z hz;rw[ak (by rintro rfl;rw[e] at this;cases this)];exact this
theorem PO.putN(h:PO H zs)(e:H D=none):PO (upd H D o) zs:=h.same (aj e)
theorem PO.append(h:PO H a)(h':PO H b):PO H (a++b):=fun z hz=>(bV.mp hz).elim (h z) (h' z)
theorem PO.one(h:H p=some (HK u)):PO H [(p,u)]:=fun z hz=>by rw[cH.mp hz];exact h
theorem FF{zs:Zs}{i:Nat}(h:i<zs.length):(zs.map (·.1)).getD i 0=zs[i].1:=by
 rw[bH,bp,b9 h];rfl
theorem Jw(h:i<zs.length):(zp zs).getD i (0,0)=zs[i].2:=by
 unfold zp;rw[bH,bp,b9 h];rfl
theorem Dx{H:Hp}{zs:Zs}(ho:PO H zs):∃g:Addr->Int×Int,(∀z∈zs,g z.1=z.2)/\∀ {as:List Addr},as.Perm (zs.map (·.1))->∃mT:Zs,mT.Perm zs/\as=mT.map (·.1):=by
 classical
 let f:Addr->Int×Int:=fun a=>match H a with
  |some (.tup [.int x,.int y])=>(x,y)
  |_=>(0,0)
 have e2:∀z∈zs,f z.1=z.2:=fun z hz=>by
  show (match H z.1 with|some (.tup [.int x,.int y])=>(x,y)|_=>(0,0))=z.2;rw[ho z hz]
 have e:(zs.map (·.1)).map (fun a=>(a,f a))=zs:=by
  rw[fV];conv=>rhs;rw[<-kB zs]
  refine kg fun z hz=>?_;show (z.1,f z.1)=z;rw[e2 z hz]
 refine⟨f,e2,fun {as} h=>⟨as.map fun a=>(a,f a),?_,?_⟩⟩
 .have:=h.map (fun a=>(a,f a));rw[e] at this;exact this
 .rw[fV];exact(kB as).symm
abbrev UJ(us:List (Int×Int)):Prop:=us.Pairwise fun u v=>pk u<=pk v
theorem wy{K:PySem.W.Frag}{H:Hp}{l:Addr}{zs:Zs}{Q:VK}(hl:H l=some (.lst (zr zs)))(ho:PO H zs)(hz:zs.length<=4096)(hb:∀u∈zp zs,0<=u.2/\u.2<64)(q:∀ (D:Addr) (mT:Zs),H D=none->mT.Perm zs->UJ (zp mT)->Q (.ref D) (upd H D (.lst (zr mT)))):Fx K [.ref l] H Q:=by
 obtain⟨g,hg,WO⟩:=Dx ho;refine⟨l,zs.map (·.1),g,rfl,aU.of (by rw[<-wx];exact hl),fun a ha=>?_,by rw[aF];exact hz,fun D nX hD hp so=>?_⟩
 .obtain⟨z,hz,rfl⟩:=bO.mp ha;rw[hg z hz];exact⟨cK.of (ho z hz),hb _ (bO.mpr ⟨z,hz,rfl⟩)⟩
 .obtain⟨mT,h1,rfl⟩:=WO hp;rw[<-wx];refine q D mT hD h1 ?_;unfold zp UJ;rw[jO] at so |-;refine so.imp_of_mem fun {a b} ha hb h=>?_;rw[hg a (h1.mem_iff.mp ha),hg b (h1.mem_iff.mp hb)] at h;exact h
theorem FG{K:PySem.W.Frag}{a D:Addr}{HL:Zs}{g:TG}{tt:TT}{te:TE}{fin:Hp->Prop}{σB:St}{H0:Hp}(F:Int×Int->Int×Int)(dU:St->Prop)(ha:H0 a=some (.lst (zr HL)))(hp0:PO H0 HL)(hD:H0 D=none)(hn:HL.length<=100000)(h0:dU σB)(hs:∀z σ H (R:V->St->Hp->Prop) (Kf:St->Hp->Prop),z∈HL->dU σ->H z.1=some (HK z.2)->(∀σ2 p,dU σ2->H p=none->R (.ref p) σ2 (upd H p (HK (F z.2))))->g (.ref z.1) σ H fun σ2 H2=>tt σ2 H2 fun b H3=>if b=true then te σ2 H3 fun v H4=>R v σ2 H4 else Kf σ2 H3)(hd:∀zs H,aI H0 H->H D=some (.lst (zr zs))->PO H zs->zp zs=(zp HL).map F->(∀z∈zs,H0 z.1=none)->fin H):iG (EA K a) g tt te D fin σB (upd H0 D (.lst [])):=by
 refine eG (xs:=zr HL) (fun i ys σ H=>dU σ/\aI H0 H/\H D=some (.lst ys)/\∃zs:Zs,ys=zr zs/\PO H zs/\zp zs=((zp HL).take i).map F/\∀z∈zs,H0 z.1=none) ⟨h0,aj hD,af,[],rfl,PO.nil,rfl,fun z hz=>nomatch hz⟩ (fun i ys σ H _ z=>aU.of (z.2.1 _ _ ha)) ?_ ?_
 .rintro i x ys σ H Kt Kf hx ⟨sh,sm,oZ,zs,rfl,po,ep,fr⟩ kt kf;obtain⟨z,hz,rfl⟩:=AJ hx;have hi:i<HL.length:=(cI.mp hz).1;have LF:z∈HL:=eB hz;have hl:zs.length=i:=by rw[<-eK,ep,aF,iF,eK];lia
  refine hs z σ H Kt Kf LF sh (sm _ _ (hp0 z LF)) (fun σ2 p Dy hp=>?_)
  .have nD:D≠p:=ai oZ hp;refine kt _ _ _ (by rw[ak nD];exact oZ) (by rw[jI,hl];exact bT hi (bj hn (by decide))) ⟨Dy,cG (sm.trans (aj hp)) hD,af,zs++[(p,F z.2)],?_,?_,?_,?_⟩
   .rw[i_];rfl
   .refine PO.putL (xs:=zr zs) ?_ (by rw[ak nD];exact oZ);exact(po.putN hp).append (PO.one af)
   .have e2:(zp HL)[i]?=some z.2:=by unfold zp;rw[bp,hz];rfl
    rw[ja,ep,gX,e2,zI,bK];rfl
   .intro z hz;rcases bV.mp hz with z'|z'
    .exact fr z z'
    .rw[cH.mp z'];exact sm.free hp
 .rintro ys σ H ⟨_,sm,oZ,zs,rfl,po,ep,fr⟩;rw[jI,<-eK,iY] at ep;exact hd zs H sm oZ po ep fr
open wv
abbrev B0:Stmt:=qt (gR 29) 0
abbrev yi:Stmt:=qt (gR 29) 4
abbrev FH:Stmt:=qt (gR 29) 6
abbrev AK:Stmt:=qt (gR 29) 8
theorem n12:¬ (("house_count":Str)="tie_list"):=by decide +kernel
theorem n13:¬ (("house_count":Str)="out_lists"):=by decide +kernel
theorem n14:¬ (("house_count":Str)="distances"):=by decide +kernel
theorem n34:¬ (("out_lists":Str)="distances"):=by decide +kernel
def p_(n:Int)(tl ol ds:Addr):List (Str×V):=d9 "distances" (.ref ds) (d9 "out_lists" (.ref ol) (d9 "tie_list" (.ref tl) (d9 "house_count" (.int n) [])))
theorem Jx(n:Int)(tl ol ds:Addr):(p_ n tl ol ds).lookup ("house_count":Str)=some (.int n):=by
 unfold p_;rw[bv,ap n14,bv,ap n13,bv,ap n12,bv,aq rfl]
theorem wz(n:Int)(tl ol ds:Addr){m:Str}(h1:¬ m="house_count")(h2:¬ m="tie_list")(h3:¬ m="out_lists")(h4:¬ m="distances"):(p_ n tl ol ds).lookup m=none:=by
 unfold p_;rw[bv,ap h4,bv,ap h3,bv,ap h2,bv,ap h1];all_goals rfl
theorem Jy(n:Int)(tl ol ds:Addr):(p_ n tl ol ds).lookup ("out_lists":Str)=some (.ref ol):=by
 unfold p_;rw[bv,ap n34,bv,aq rfl]
theorem B1(n:Int)(tl ol ds:Addr):(p_ n tl ol ds).lookup ("distances":Str)=some (.ref ds):=by
 unfold p_;rw[bv,aq rfl]
def mL(H:Hp)(L:Addr->Prop)(l:Addr)(n:Nat)(r:Nat->List Nat):Prop:=∃bs:List Addr,H l=some (.lst (bs.map V.ref))/\(∀b∈bs,L b)/\Holds H bs n (fun h=>.lst (NV (r h)))
theorem mL.keep(R:mL H L l n r)(hl:L l)(k:∀b o,L b->H b=some o->H' b=some o):mL H' L l n r:=
 let ⟨bs,a,b,c⟩:=R
 ⟨bs,k _ _ hl a,b,c.mono fun j hj e=>k _ _ (b _ (by rw[bH,b9 (by rw[c.1];exact hj)];exact gv _)) e⟩
theorem mL.row(R:mL H L l n r)(hh:h<n):∃ (bs:List Addr) (b:Addr),H l=some (.lst (bs.map V.ref))/\(bs.map V.ref)[h]?=some (V.ref b)/\H b=some (.lst (NV (r h)))/\L b:=by
 obtain⟨bs,a,b,c⟩:=R;have hl:h<bs.length:=by rw[c.1];exact hh
 refine⟨bs,bs[h],a,by rw[bp,b9 hl];rfl,?_,b _ (gv _)⟩;have:=c.2 h hh;rw[bH,b9 hl] at this;exact this
def Jz(H:Hp)(L:Addr->Prop)(tl:Addr)(ts:Ts):Prop:=L tl/\∃zs:Zs,H tl=some (.lst (zr zs))/\PO H zs/\(∀z∈zs,L z.1)/\(zp zs).Perm ts/\UJ (zp zs)
theorem Jz.keep(h:Jz H L tl ts)(k:∀b o,L b->H b=some o->H' b=some o):Jz H' L tl ts:=
 let ⟨a,zs,b,c,d,e⟩:=h;⟨a,zs,k _ _ a b,fun z hz=>k _ _ (d z hz) (c z hz),d,e⟩
structure eD(C:Addr)(H:Hp)(L:Addr->Prop)(p:Addr)(n:Nat)(ts:Ts):Prop where
 nC:gI n ts
 ob:∃dx tl ol ds,H p=some (.ins C dx (p_ n tl ol ds))/\L ol/\L ds/\mL H L ol n (fP n ts)/\mL H L ds n (fun h=>(List.range n).map (far ts h))/\Jz H L tl ts
theorem eD.keep(N:eD C H L p n ts)(k:∀b o,L b->H b=some o->H' b=some o)(kp:∀o,H p=some o->H' p=some o):eD C H' L p n ts:=
 let ⟨dx,tl,ol,ds,a,l1,l2,b,c,d⟩:=N.ob
 ⟨N.nC,dx,tl,ol,ds,kp _ a,l1,l2,b.keep l1 k,c.keep l2 k,d.keep k⟩
theorem eD.same(N:eD C H L p n ts)(s:aI H H'):eD C H' L p n ts:=N.keep (fun b o _ e=>s b o e) (fun o e=>s _ o e)
structure NT(K:PySem.W.Frag)(mg:Str->Option Value)(C:Addr):Prop where
 cl:HD K C
 nH:iS K C "house_count"
 nT:iS K C "tie_list"
 nO:iS K C "out_lists"
 nD:iS K C "distances"
 mgC:mg "Net"=some (.ref C)
structure o6(P:Program)(w:World)(K:PySem.W.Frag)(mg:Str->Option Value)(base:Heap)(CX:xr)(k:Nat)(C:Addr)(x:Str)(ps:List Str)(sp:Sp):Prop where
 ex:∃f fd,MH K C x f/\kH K fd ps []/\bC P w K mg base CX k f fd ps sp
section
variable {P:Program} {w:World} {K:PySem.W.Frag} {mg:Str->Option Value} {base:Heap}
theorem JA:aJ ["self","thing"] ["self","thing"] (am AK):=⟨rfl,rfl,rfl,by decide +kernel,rfl,by decide +kernel,by decide +kernel⟩
theorem uz{i n:Nat}(h:i<n):iV (some (i:Int)) 0 ((n:Int)-1)=true:=by unfold iV;simp;lia
def si(C:Addr):Sp:=fun vs H Q _=>∃ (L:Addr->Prop) (p:Addr) (n:Nat) (ts:Ts) (i:Nat),vs=[.ref p,.int i]/\eD C H L p n ts/\i<n/\Q .bR H
theorem Dz{f C:Addr}{fd:FuncData}(F:fW K "check_house" "Net.check_house" AK f fd)(T:NT K mg C)(HH:cE P w K mg base bi 3 "is_house" ["many","thing"] (qA K)):
  bC P w K mg base bi 4 f fd ["self","thing"] (si C):=by
 refine F.ok JA (fun vs H Q E h=>?_) (fun dE A outer s H vs Q E hr h=>?_)
 .obtain⟨L,p,n,ts,i,rfl,_⟩:=h;rfl
 .obtain⟨L,p,n,ts,i,rfl,N,hi,k⟩:=h;obtain⟨dx,tl,ol,ds,h1,_⟩:=N.ob;refine⟨_,al (bA (eI (dA (aB HH hr aM (aa (oI (pv 0) rfl) (aa (pv 1) ag))))) dI aR),?_⟩;refine⟨_,rfl,p,C,dx,_,_,rfl,h1,T.cl,T.nH,Jx _ _ _ _,_,rfl,_,some (i:Int),n,rfl,.int _,_,rfl,?_⟩;rw[uz hi];exact lG k
theorem Ry(n:Int)(tl ol ds:Addr):(p_ n tl ol ds).lookup ("check_house":Str)=none:=wz n tl ol ds (by decide +kernel) (by decide +kernel) (by decide +kernel) (by decide +kernel)
theorem DA(n:Int)(tl ol ds:Addr):(p_ n tl ol ds).lookup ("far":Str)=none:=wz n tl ol ds (by decide +kernel) (by decide +kernel) (by decide +kernel) (by decide +kernel)
theorem sj:(NV xs).length=xs.length:=aF _
theorem pO:aJ ["self","one","other"] ["self","one","other"] (am yi):=⟨rfl,rfl,rfl,by decide +kernel,rfl,by decide +kernel,by decide +kernel⟩
def o7(C:Addr):Sp:=fun vs H Q _=>∃ (L:Addr->Prop) (p:Addr) (n:Nat) (ts:Ts) (i j:Nat),vs=[.ref p,.int i,.int j]/\eD C H L p n ts/\i<n/\j<n/\Q (.int (far ts i j:Nat)) H
theorem JB(F:fW K "far" "Net.far" yi f fd)(T:NT K mg C)(M:o6 P w K mg base bi 4 C "check_house" ["self","thing"] (si C)):
  bC P w K mg base bi 5 f fd ["self","one","other"] (o7 C):=by
 obtain⟨fM,fdM,mM,bM,GM⟩:=M.ex;refine F.ok pO (fun vs H Q E h=>?_) (fun dE A outer s H vs Q E hr h=>?_)
 .obtain⟨L,p,n,ts,i,j,rfl,_⟩:=h;rfl
 .obtain⟨L,p,n,ts,i,j,rfl,N,hi,hj,k⟩:=h;obtain⟨dx,tl,ol,ds,h1,_,_,_,R,_⟩:=N.ob;refine⟨_,ah (cg (jB (pv 0) T.cl mM GM hr bM .nil aM (aa (pv 1) ag)))
   (ah (cg (jB (pv 0) T.cl mM GM hr bM .nil aM (aa (pv 2) ag)))
   (al (aH (az aA (az aA (oI (pv 0) rfl) (pv 1) (fun _ _=>rfl)) (pv 2) (fun _ _=>rfl))))),?_⟩
  refine⟨_,rfl,p,dx,_,rfl,h1,Ry _ _ _ _,_,rfl,L,p,n,ts,i,rfl,N,hi,?_⟩;refine⟨_,rfl,p,dx,_,rfl,h1,Ry _ _ _ _,_,rfl,L,p,n,ts,j,rfl,N,hj,?_⟩;obtain⟨bs,b,r1,r2,r3,_⟩:=R.row hi;have hg:(NV ((List.range n).map (far ts i)))[j]?=some (.int (far ts i j:Nat)):=by
   rw[bp,bp,kh hj];rfl
  exact⟨_,rfl,p,C,dx,_,_,rfl,h1,T.cl,T.nD,B1 _ _ _ _,_,rfl,ds,_,_,_,rfl,rfl,aU.of r1,br r2,_,rfl,b,_,_,_,rfl,rfl,aU.of r3,br hg,k⟩
end
open PySem L2 wv
abbrev AL:Stmt:=gR 30
abbrev Nv:Stmt:=gR 31
abbrev Nw:Stmt:=gR 32
section
variable {P:Program} {w:World} {K:PySem.W.Frag} {mg:Str->Option Value} {base:Heap}
abbrev Nx:Stmt:=gR 11
theorem Rz:aJ ["many","one","other"] ["many","one","other"] (am Nx):=⟨rfl,rfl,rfl,by decide +kernel,rfl,by decide +kernel,by decide +kernel⟩
def FI:Sp:=fun vs H Q _=>∃ (n a b:Int),vs=[.int n,.int a,.int b]/\0<=a/\a<n/\0<=b/\b<n/\a≠b/\Q (.bl true) H
theorem Ny(F:fW K "are_unlike_houses" "are_unlike_houses" Nx f fd)(HH:cE P w K mg base bi 3 "is_house" ["many","thing"] (qA K)):
  bC P w K mg base bi 4 f fd ["many","one","other"] FI:=by
 refine F.ok Rz (fun vs H Q E h=>?_) (fun dE A outer s H vs Q E hr h=>?_)
 .obtain⟨n,a,b,rfl,_⟩:=h;rfl
 .obtain⟨n,a,b,rfl,a1,a2,b1,b2,ji,k⟩:=h;refine⟨_,al (aH (f_ (aB HH hr aM (aa (pv 0) (aa (pv 1) ag))) (f_ (aB HH hr aM (aa (pv 0) (aa (pv 2) ag))) (gO (cy m4 (pv 1) (pv 2) (aG _)))))),?_⟩;refine⟨_,rfl,_,rfl,_,_,n,rfl,.int a,_,rfl,?_⟩;rw[aq (show iV (some a) 0 (n-1)=true by unfold iV;simp;lia)];refine⟨_,rfl,_,rfl,_,_,n,rfl,.int b,_,rfl,?_⟩;rw[aq (show iV (some b) 0 (n-1)=true by unfold iV;simp;lia)];refine⟨_,rfl,_,rfl,rfl,?_⟩;have e:(!decide (V.int a=V.int b))=true:=by simp[ji]
  rw[e];exact k
theorem RA:aJ ["many","thing"] ["many","thing"] (am Nv):=⟨rfl,rfl,rfl,by decide +kernel,rfl,by decide +kernel,by decide +kernel⟩
def FJ:Sp:=fun vs H Q _=>∃ (n:Int) (p:Addr) (a b:Int),vs=[.int n,.ref p]/\H p=some (.tup [.int a,.int b])/\0<=a/\a<n/\0<=b/\b<n/\a≠b/\Q (.bl true) H
theorem Nz(F:fW K "is_tie" "is_tie" Nv f fd)(R:cE P w K mg base bi 1 "is_row" ["thing","length"] (FE K))(U:cE P w K mg base bi 4 "are_unlike_houses" ["many","one","other"] FI):
  bC P w K mg base bi 5 f fd ["many","thing"] FJ:=by
 refine F.ok RA (fun vs H Q E h=>?_) (fun dE A outer s H vs Q E hr h=>?_)
 .obtain⟨n,p,a,b,rfl,_⟩:=h;rfl
 .obtain⟨n,p,a,b,rfl,hp,a1,a2,b1,b2,ji,k⟩:=h;refine⟨_,al (aH (f_ (aB R (hr.mono (by decide)) aM (aa (pv 1) (aa ao ag)))
   (gO (aB U hr aM (aa (pv 0) (aa (az aZ (pv 1) ao (fun _ _=>rfl)) (aa (az aZ (pv 1) ao (fun _ _=>rfl)) ag))))))),?_⟩
  refine⟨_,rfl,_,_,_,rfl,.tup hp,true,rfl,?_⟩;exact⟨_,rfl,_,rfl,p,_,_,_,rfl,rfl,cK.of hp,br (j:=0) rfl,_,rfl,p,_,_,_,rfl,rfl,cK.of hp,br (j:=1) rfl,n,a,b,rfl,a1,a2,b1,b2,ji,k⟩
theorem B2:aJ ["many","ties","tie"] ["many","ties"] (am AL):=⟨rfl,rfl,rfl,by decide +kernel,rfl,by decide +kernel,by decide +kernel⟩
theorem FK:PySem.W.kitOne K (.type "list") (.type "list")=some true:=by kernel_rfl
structure fQ(H:Hp)(l:Addr)(n:Nat)(zs:Zs):Prop where
 nC:gI n (zp zs)
 at_:H l=some (.lst (zr zs))
 po:PO H zs
theorem fQ.same(h:fQ H l n zs)(s:aI H H'):fQ H' l n zs:=⟨h.nC,s _ _ h.at_,h.po.same s⟩
def lu:Sp:=fun vs H Q _=>∃ (n:Nat) (l:Addr) (zs:Zs),vs=[.int n,.ref l]/\fQ H l n zs/\∀H',aI H H'->Q .bR H'
theorem FL(F:fW K "check_ties" "check_ties" AL f fd)(B:Bl mg)(gF:∃t,mg "FEWEST_HOUSES"=some (.int 2 t))(gM:∃t,mg "MOST_HOUSES"=some (.int 32 t))(W:cE P w K mg base bi 2 "is_whole_within" ["thing","least","most"] (gJ K))(T:cE P w K mg base bi 5 "is_tie" ["many","thing"] FJ):
  bC P w K mg base bi 6 f fd ["many","ties"] lu:=by
 obtain⟨tF,gF⟩:=gF;obtain⟨tM,gM⟩:=gM;refine F.ok B2 (fun vs H Q E h=>?_) (fun dE A outer s H vs Q E hr h=>?_)
 .obtain⟨n,l,zs,rfl,_⟩:=h;rfl
 .refine⟨_,ah (bA (eI (dA (aB W (hr.mono (by decide)) aM (aa (pv 0) (aa (vA (v:=.int 2) rfl gF ⟨_,rfl⟩) (aa (vA (v:=.int 32) rfl gM ⟨_,rfl⟩) ag)))))) dI aR)
   (ah (bA (eI (dA (av eX (by rfl) B.DV j7 (aa (pv 1) (aa (fK (v:=.ty "list") rfl B.lst uX rfl) ag))))) dI aR)
   (ah (cT dR rfl (b_ (pv 1)) (au (i:=2) B2.nd rfl (Or.inl rfl)) (al (bA (eI (dA (aB T hr aM (aa (pv 0) (aa (pv 2) ag))))) dI aR)))
   (al (bA (aL m4 (av xK (by rfl) B.len cL (aa (cr (Da rfl (by have:=hr.un;show (A.deeper _).units+8<_;lia)) (by rfl) B.set PyProof.Rows.boot_set (aa (pv 1) ag)) ag)) (av aE (by rfl) B.len cL (aa (pv 1) ag)) (aG _)) dI aR)))),?_⟩
  obtain⟨n,l,zs,rfl,tt,k⟩:=h;obtain⟨fi,hl,po⟩:=id tt;have n1:=fi.n1;have n2:=fi.n2;refine⟨_,rfl,_,_,2,32,rfl,.int n,_,rfl,?_⟩;rw[show iV (some (n:Int)) 2 32=true by unfold iV;simp;lia];refine lG ?_;refine⟨_,rfl,_,_,_,.type "list",true,rfl,⟨rfl,FK⟩,.of (.lst hl),_,rfl,lG ?_⟩;refine⟨_,rfl,l,rfl,⟨_,aU.of hl⟩,ij (K:=K) (a:=l) (xs:=zr zs) (fun i σ H2=>H2=H/\∃v,σ=[some (.int n),some (.ref l),v]) ⟨rfl,none,rfl⟩ (fun i σ H2 _ ⟨e,_⟩=>by rw[e];exact aU.of hl) ?_ ?_⟩
  .rintro i x σ H2 hx ⟨rfl,v,rfl⟩;obtain⟨z,hz,rfl⟩:=AJ hx;have LF:z∈zs:=eB hz;have hzp:z.2∈zp zs:=bO.mpr ⟨z,LF,rfl⟩;have r:=fi.rg _ hzp;exact⟨_,rfl,_,rfl,n,_,_,_,rfl,po z LF,r.1.1,r.1.2,r.2.1,r.2.2,fi.ne _ hzp,_,rfl,lG ⟨rfl,_,rfl⟩⟩
  .rintro σ H2 ⟨rfl,v,rfl⟩;have eW:(zp zs).length<=256:=fi.len;refine⟨_,rfl,l,zs.map (·.1),zp zs,rfl,aU.of (by rw[<-wx];exact hl),by rw[aF,eK],fun i hi=>?_,fi.nd,fun y hy=>?_,by lia,fun D hD=>?_⟩
   .rw[eK] at hi;rw[FF hi,Jw hi];exact cK.of (po _ (gv hi))
   .have r:=fi.rg _ hy;lia
   .have nl:l≠D:=ai hl hD;refine⟨D,_,rfl,af,by lia,_,rfl,l,zr zs,rfl,.inl (aU.of (by rw[ak nl];exact hl)),rfl,_,rfl,?_⟩;have ez:(!decide (V.int (((zp zs).length:Nat):Int)=V.int (((zr zs).length:Nat):Int)))=false:=by rw[eK,jI];simp
    rw[ez];exact lG (k _ (aj hD))
end
abbrev yj:Stmt:=gR 33
section
variable {P:Program} {w:World} {K:PySem.W.Frag} {mg:Str->Option Value} {base:Heap}
theorem o8(S:St->Prop)(p q:Int×Int->Int)(h:Int)(hD:H D=none)(hl:H l=some (.lst (zr zs)))(po:PO H zs)(hn:zs.length<=1000)(s0:S σB)(hg:∀z σ H2 (Kt:V->St->Hp->Prop) (Kf:St->Hp->Prop),z∈zs->S σ->H2 z.1=some (HK z.2)->(∀σ2,S σ2->p z.2=h->Kt (.int (q z.2)) σ2 H2)->(∀σ2,S σ2->p z.2≠h->Kf σ2 H2)->
   g (.ref z.1) σ H2 fun σ2 H2=>tt σ2 H2 fun b H3=>if b=true then te σ2 H3 fun v H4=>Kt v σ2 H4 else Kf σ2 H3)(hd:fin (upd H D (.lst (IV (((zp zs).filter fun y=>decide (p y=h)).map q))))):iG (EA K l) g tt te D fin σB (upd H D (.lst [])):=by
 have nl:l≠D:=ai hl hD;have tk:∀ {i:Nat} {z:Addr×(Int×Int)},zs[i]?=some z->(zp zs).take (i+1)=(zp zs).take i++[z.2]:=fun {i z} hz=>by
  rw[gX,show (zp zs)[i]?=some z.2 by unfold zp;rw[bp,hz];rfl];rfl
 refine eG (xs:=zr zs) (fun i ys σ H2=>S σ/\ys=IV ((((zp zs).take i).filter fun y=>decide (p y=h)).map q)/\H2=upd H D (.lst ys)) ⟨s0,by simp,rfl⟩ (fun i ys σ H2 _ ⟨_,_,e⟩=>by rw[e];exact aU.of (by rw[ak nl];exact hl)) ?_ ?_
 .rintro i x ys σ H2 Kt Kf hx ⟨hS,ey,rfl⟩ kt kf;obtain⟨z,hz,rfl⟩:=AJ hx;have LF:z∈zs:=eB hz;have hp:=po z LF;have na:z.1≠D:=ai hp hD;have hi:i<zs.length:=(cI.mp hz).1;refine hg z σ _ Kt Kf LF hS (by rw[ak na];exact hp) (fun σ2 s2 e=>?_) (fun σ2 s2 e=>?_)
  .refine kt _ _ _ af ?_ ⟨s2,?_,?_⟩
   .rw[ey,aF,aF];exact gu (jN _ _) (gu (u_ _ _) (bT (show i<1000 by lia) (by decide)))
   .rw[ey,tk hz,ic,bK];have:decide (p z.2=h)=true:=by simp[e]
    simp[iZ,this]
   .rw[fu]
  .refine kf _ _ ⟨s2,?_,rfl⟩;have:decide (p z.2=h)=false:=by simp[e]
   rw[ey,tk hz,ic];simp[iZ,this]
 .rintro ys σ H2 ⟨_,ey,rfl⟩;rw[jI,<-eK,iY] at ey;rw[ey];exact hd
theorem PR:(["one","other","house"]:List Str).Nodup:=by decide +kernel
theorem B3:aJ ["many","ties","house","leading_out","leading_in"] ["many","ties"] (am Nw):=⟨rfl,rfl,rfl,by decide +kernel,rfl,by decide +kernel,by decide +kernel⟩
theorem NA(F:fW K "check_balance" "check_balance" Nw f fd)(B:Bl mg)(gM:∃t,mg "MOST_TIES_OUT"=some (.int 8 t)):
  bC P w K mg base bi 1 f fd ["many","ties"] lu:=by
 obtain⟨tM,gM⟩:=gM;refine F.ok B3 (fun vs H Q E h=>?_) (fun dE A outer s H vs Q E hr h=>?_)
 .obtain⟨n,l,zs,rfl,_⟩:=h;rfl
 .obtain⟨n,l,zs,rfl,T,k⟩:=h;have fi:=T.nC;have n1:=fi.n1;have n2:=fi.n2;have eW:zs.length<=256:=by have:=fi.len;rw[eK] at this;exact this
  refine'⟨_,al (cT dR rfl (cq rfl B.range (aa (pv 0) ag)) (au (i:=2) B3.nd rfl (Or.inr rfl))
   (ah (aK (i:=3) B3.nd rfl (Or.inl rfl) (av aE (by rfl) B.len cL (aa ?c1 ag)))
   (ah (aK (i:=4) B3.nd rfl (Or.inl rfl) (av aE (by rfl) B.len cL (aa ?c2 ag)))
   (ah (bA (aL m4 (pv 3) (pv 4) (aG _)) dI aR)
   (al (bA (aL rq (pv 3) (vA (v:=.int 8) rfl gM ⟨_,rfl⟩) (aG _)) dI aR)))))),?_⟩
  case c1=>
   refine' cm (g:=rh K 2 (fq (bo 0) (fq (bo 1) rf))) (NB:=["one","other","house"]) (src:=[none,none,some 2]) (bY (by kernel_rfl)) rfl (b_ (pv 1)) ?g ?t ?e;case g=>exact fun cl C s₃ H₃ fp=>fw (n:=2) rfl (a9 (au (i:=0) PR rfl (Or.inl rfl) (Or.inr rfl)) (a9 (au (i:=1) PR rfl (Or.inl rfl) (Or.inr rfl)) dZ))
   case t=>exact fun cl C s₃ H₃ fp=>eR (aL eN (pv 0) (pv 2) (aG _))
   case e=>exact fun cl C s₃ H₃ fp=>pv 0
  case c2=>
   refine' cm (g:=rh K 2 (fq (bo 0) (fq (bo 1) rf))) (NB:=["one","other","house"]) (src:=[none,none,some 2]) (bY (by kernel_rfl)) rfl (b_ (pv 1)) ?g ?t ?e;case g=>exact fun cl C s₃ H₃ fp=>fw (n:=2) rfl (a9 (au (i:=0) PR rfl (Or.inl rfl) (Or.inr rfl)) (a9 (au (i:=1) PR rfl (Or.inl rfl) (Or.inr rfl)) dZ))
   case t=>exact fun cl C s₃ H₃ fp=>eR (aL eN (pv 1) (pv 2) (aG _))
   case e=>exact fun cl C s₃ H₃ fp=>pv 1
  refine⟨_,rfl,n,rfl,by lia,by lia,df (n:=n) (lo:=0) (fun i σ H2=>aI H H2/\∃a b c,σ=[some (.int n),some (.ref l),a,b,c]) ⟨aI.refl _,none,none,none,rfl⟩ ?_ ?_⟩
  .rintro i σ H2 hi ⟨sm,a,b,c,rfl⟩;have T2:=T.same sm;refine⟨_,rfl,l,rfl,⟨_,aU.of T2.at_⟩,fun D hD=>o8 (fun σ=>∃a b,σ=[a,b,some (.int (0+(i:Int)))]) (·.1) (·.1) (0+(i:Int)) hD T2.at_ T2.po (by lia) ⟨_,_,rfl⟩ ?_ ?_⟩
   .rintro z σ H3 Kt Kf hj ⟨x,y,rfl⟩ ha kt kf;refine⟨z.1,_,rfl,cK.of ha,rfl,_,_,rfl,_,_,rfl,rfl,?_⟩;refine⟨_,rfl,_,rfl,rfl,_,rfl,?_⟩;refine bW (fun e=>?_) (fun e=>?_)
    .exact⟨_,rfl,kt _ ⟨_,_,rfl⟩ (by simpa using e)⟩
    .exact kf _ ⟨_,_,rfl⟩ (by simpa using e)
   .refine⟨D,_,rfl,.inl (aU.of af),?_⟩;have RB:=cG (o:=.lst (IV (((zp zs).filter fun y=>decide (y.1=0+(i:Int))).map (·.1)))) (sm.trans (aI.refl _)) (H:=H) (by cases z:H D with|none=>rfl|some o=>rw[sm _ _ z] at hD;cases hD);have T3:=T.same RB;refine⟨_,rfl,l,rfl,⟨_,aU.of T3.at_⟩,fun D' DW=>o8 (fun σ=>∃a b,σ=[a,b,some (.int (0+(i:Int)))]) (·.2) (·.2) (0+(i:Int)) DW T3.at_ T3.po (by lia) ⟨_,_,rfl⟩ ?_ ?_⟩
    .rintro z σ H3 Kt Kf hj ⟨x,y,rfl⟩ ha kt kf;refine⟨z.1,_,rfl,cK.of ha,rfl,_,_,rfl,_,_,rfl,rfl,?_⟩;refine⟨_,rfl,_,rfl,rfl,_,rfl,?_⟩;refine bW (fun e=>?_) (fun e=>?_)
     .exact⟨_,rfl,kt _ ⟨_,_,rfl⟩ (by simpa using e)⟩
     .exact kf _ ⟨_,_,rfl⟩ (by simpa using e)
    .refine⟨D',_,rfl,.inl (aU.of af),?_⟩;rw[gL] at *;have q1:(IV (((zp zs).filter fun y=>decide (y.1=(i:Int))).map (·.1))).length=(IV (((zp zs).filter fun y=>decide (y.2=(i:Int))).map (·.2))).length:=by
      rw[aF,aF,aF,aF];exact fi.Jt i
     have q2:(IV (((zp zs).filter fun y=>decide (y.1=(i:Int))).map (·.1))).length<=8:=by
      rw[aF,aF];exact fi.most i
     refine⟨_,rfl,_,rfl,rfl,_,rfl,?_⟩;rw[<-q1];rw[show (!decide (V.int (((IV (((zp zs).filter fun y=>decide (y.1=(i:Int))).map (·.1))).length:Nat):Int)=V.int (((IV (((zp zs).filter fun y=>decide (y.1=(i:Int))).map (·.1))).length:Nat):Int)))=false by simp];refine lG ?_;refine⟨_,rfl,_,_,rfl,rfl,_,rfl,?_⟩;rw[show decide ((((IV (((zp zs).filter fun y=>decide (y.1=(i:Int))).map (·.1))).length:Nat):Int) > 8)=false by rw[decide_eq_false_iff_not];lia];exact lG ⟨RB.trans (aj DW),_,_,_,rfl⟩
  .rintro σ H2 ⟨sm,a,b,c,rfl⟩;exact k H2 sm
end
def JC:Expr:=match (cz yj).getD 1 (.Pass ⟨0,0,0,0⟩) with
 |.Return (some (.Call _ _ (k::_) _)) _=>k.value
 |_=>.Name "x" ⟨0,0,0,0⟩
def JD:Arguments:=match JC with
 |.Lambda a _ _ _=>a
 |_=>{ posonlyargs:=[],args:=[],vararg:=none,kwonlyargs:=[],kw_defaults:=[],kwarg:=none,defaults:=[] }
def JE:Expr:=match JC with
 |.Lambda _ b _ _=>b
 |e=>e
def RD:Scope:=match JC with
 |.Lambda _ _ s _=>s
 |_=>{ kind:=.function,names:=[],isGenerator:=false,isCoroutine:=false }
def NC:Pos:=match JC with
 |.Lambda _ _ _ p=>p
 |_=>⟨0,0,0,0⟩
def LH:Str:=("houses_out":Str)++".<locals>."++"<lambda>"
abbrev qB(Pt:Addr)(H:Hp):Prop:=kM NC LH Pt H
def dv(Pt:Addr)(H H':Hp):Prop:=∀b o,H b=some o->b≠Pt->H' b=some o
theorem dv.trans{Pt:Addr}{H H1 H2:Hp}(a:dv Pt H H1)(b:dv Pt H1 H2):dv Pt H H2:=fun c o h n=>b c o (a c o h n) n
theorem dv.of(a:aI H H'):dv Pt H H':=fun c o h _=>a c o h
theorem qB.not(t:qB Pt H)(h:H b=some o)(n:∀ps,o≠.oq ps):b≠Pt:=by
 rintro rfl;rcases t with z|⟨c,z,_⟩ <;> · rw[h] at z;exact n _ (ba z)
theorem qB.same(t:qB Pt H)(e:aI H H'):qB Pt H':=by
 rcases t with z|⟨c,z,y⟩
 .exact .inl (e _ _ z)
 .exact .inr ⟨c,e _ _ z,e _ _ y⟩
theorem JF{n a b h:Int}(hn:0<n)(a0:0<=a)(a1:a<n)(b0:0<=b)(b1:b<n)(e:(a-h) % n=(b-h) % n):a=b:=by
 have h1:=Int.emod_emod_of_dvd (a-h) (Int.dvd_refl n);have q:(a-b) % n=0:=by
  have:a-b=(a-h)-(b-h):=by lia
  rw[this,Int.sub_emod,e,Int.sub_self,Int.zero_emod]
 obtain⟨c,hc⟩:=Int.dvd_of_emod_eq_zero q;have c0:c=0:=by
  rcases Int.lt_trichotomy c 0 with z|z|z
  .have:n*c<=n*(-1):=Eb (by lia) (by lia);lia
  .exact z
  .have:n*1<=n*c:=Eb (by lia) (by lia);lia
 rw[c0] at hc;lia
theorem tP{ts:Ts}{h:Int}(nd:ts.Nodup):((ts.filter fun y=>decide (y.1=h)).map (·.2)).Nodup:=by
 refine L2.oQ (nd.filter _) fun x hx y hy e=>?_;have a:=(cf.mp hx).2;have b:=(cf.mp hy).2;simp at a b;exact Prod.ext (a.trans b.symm) e
theorem DB{n:Nat}{ts:Ts}{h:Nat}(F:gI n ts)(hh:h<n){out:List Int}(ko:M5 (h:Int) (n:Int) ((ts.filter fun y=>decide (y.1=(h:Int))).map (·.2)) out):out.map V.int=NV (fP n ts h):=by
 obtain⟨ps,hp,rfl,hs⟩:=ko;have Df:(ps.map (·.2)).Perm ((ts.filter fun y=>decide (y.1=(h:Int))).map (·.2)):=by
  have:=hp.map (·.2);rw[fV] at this;refine this.trans (vk ?_);conv=>rhs;rw[<-kB ((ts.filter fun y=>decide (y.1=(h:Int))).map (·.2))]
  rfl
 have mem:∀z,z∈ps.map (·.2)↔((h:Int),z)∈ts:=fun z=>by
  rw[Df.mem_iff,bO];constructor
  .rintro⟨y,hy,rfl⟩;obtain⟨y1,y2⟩:=cf.mp hy;have:y.1=(h:Int):=by simpa using y2
   rw[<-this];exact y1
  .intro hz;exact⟨_,cf.mpr ⟨hz,by simp⟩,rfl⟩
 have nd:(ps.map (·.2)).Nodup:=Df.nodup_iff.mpr (tP F.nd);have key:∀q∈ps,q.1=(q.2-(h:Int)) % (n:Int):=fun q hq=>by
  obtain⟨z,_,e⟩:=bO.mp (hp.mem_iff.mp hq);rw[<-e]
 have hn:(0:Int)<n:=by have:=F.n1;lia
 have sorted:(ps.map (·.2)).Pairwise fun x y=>(x-(h:Int)) % (n:Int)<(y-(h:Int)) % (n:Int):=by
  refine jO.mpr ?_;have nd2:=jO.mp nd;refine(hs.and nd2).imp_of_mem fun {x y} hx hy HG=>?_;have l1:=HG.1;rw[key x hx,key y hy] at l1;have ax:=F.rg _ ((mem x.2).mp (bO.mpr ⟨x,hx,rfl⟩));have ay:=F.rg _ ((mem y.2).mp (bO.mpr ⟨y,hy,rfl⟩));have ne:(x.2-(h:Int)) % (n:Int)≠(y.2-(h:Int)) % (n:Int):=fun z=>HG.2 (JF hn ax.2.1 ax.2.2 ay.2.1 ay.2.2 z);lia
 have e:ps.map (·.2)=(fP n ts h).map fun (o:Nat)=>(o:Int):=by
  refine pN (k:=fun z=>(z-(h:Int)) % (n:Int)) sorted ?_ fun z=>?_
  .refine jO.mpr ?_;exact yh hh
  .rw[mem,bO];constructor
   .intro hz;have r:=F.rg _ hz;refine⟨z.toNat,(kQ F hh).mpr ?_,by lia⟩;show (((h:Nat):Int),((z.toNat:Nat):Int))∈ts;rw[show ((z.toNat:Nat):Int)=z by lia];exact hz
   .rintro⟨o,ho,rfl⟩;exact(kQ F hh).mp ho
 rw[e,fV];rfl
section
variable {P:Program} {w:World} {K:PySem.W.Frag} {mg:Str->Option Value} {base:Heap}
theorem FM:aJ ["many","ties","house","others"] ["many","ties","house"] (am yj):=⟨rfl,rfl,rfl,by decide +kernel,rfl,by decide +kernel,by decide +kernel⟩
def wA(Pt:Addr):Sp:=fun vs H Q _=>∃ (n:Nat) (l:Addr) (h:Nat) (zs:Zs),vs=[.int n,.ref l,.int h]/\h<n/\fQ H l n zs/\qB Pt H/\
 ∀ (r:Addr) (H':Hp),qB Pt H'->dv Pt H H'->H r=none->H' r=some (.lst (NV (fP n (zp zs) h)))->Q (.ref r) H'
theorem JG(F:xN K "houses_out" "houses_out" yj f fd c)(B:Bl mg)(kb:K.In base)(hb:tK mg base)(hc:PySem.W.codeHdIn K c Pt=true):
  bC P w K mg base bi 1 f fd ["many","ties","house"] (wA Pt):=by
 refine F.ok FM (fun vs H Q E h=>?_) (fun A outer s H vs Q E hr h=>?_)
 .obtain⟨n,l,h,zs,rfl,_⟩:=h;rfl
 .obtain⟨n,l,h,zs,rfl,hh,T,tb,k⟩:=h;have fi:=T.nC;have n1:=fi.n1;have eW:zs.length<=256:=by have:=fi.len;rw[eK] at this;exact this
  have LS:Q3 (vL bi P w K mg base ["many","ties","house","others"] "houses_out" (am yj) f (.ref c) A outer s H E).Lb LH JD JE RD "other" "house" "many" 2 0:=
   ⟨⟨_,_,_,_,_,rfl⟩,fun _ _ _ _ _=>rfl,rfl,rfl,rfl,rfl,rfl,rfl,rfl,by decide +kernel,by decide +kernel,by decide +kernel,rfl,rfl,rfl,by decide,⟨by decide,by decide⟩,⟨by decide,by decide⟩⟩
  refine'⟨_,ah (gc (i:=3) (g:=rh K 2 (fq (bo 0) (fq (bo 1) rf))) (NB:=["one","other","house"]) (src:=[none,none,some 2]) (bY (by kernel_rfl)) rfl (b_ (pv 1)) ?g ?t ?e FM.nd rfl rfl rfl)
   (al (aH (Dd (Az LS hr) rfl B.sorted ze (aa (pv 3) ag) (Iy (E_ (NB:=["other","house","many"]) (src:=[none,some 2,some 0]) (BG kb hb hc) (bY (by kernel_rfl))) MN)))),?_⟩
  case g=>exact fun cl C s₃ H₃ fp=>fw (n:=2) rfl (a9 (au (i:=0) PR rfl (Or.inl rfl) (Or.inr rfl)) (a9 (au (i:=1) PR rfl (Or.inl rfl) (Or.inr rfl)) dZ))
  case t=>exact fun cl C s₃ H₃ fp=>eR (aL eN (pv 0) (pv 2) (aG _))
  case e=>exact fun cl C s₃ H₃ fp=>pv 1
  refine⟨_,rfl,l,rfl,⟨_,aU.of T.at_⟩,fun D hD=>o8 (fun σ=>∃a b,σ=[a,b,some (.int (h:Int))]) (·.1) (·.2) (h:Int) hD T.at_ T.po (by lia) ⟨_,_,rfl⟩ ?_ ?_⟩
  .rintro z σ H3 Kt Kf hj ⟨x,y,rfl⟩ ha kt kf;refine⟨z.1,_,rfl,cK.of ha,rfl,_,_,rfl,_,_,rfl,rfl,?_⟩;refine⟨_,rfl,_,rfl,rfl,_,rfl,?_⟩;refine bW (fun e=>?_) (fun e=>?_)
   .exact⟨_,rfl,kt _ ⟨_,_,rfl⟩ (by simpa using e)⟩
   .exact kf _ ⟨_,_,rfl⟩ (by simpa using e)
  .generalize hos:((zp zs).filter fun y=>decide (y.1=(h:Int))).map (·.2)=os;have Ln:os.length<=8:=by rw[<-hos,aF];exact fi.most h
   have sm:aI H (upd H D (.lst (IV os))):=aj hD;refine⟨_,rfl,tb.same sm,fun f' c' H2 WP old Es C8=>?_⟩;have t2:qB Pt H2:=WP;have jj:H2 D=some (.lst (IV os)):=old _ _ af ((tb.same sm).not af (by intro ps z;cases z));refine⟨D,f',c',os,h,n,rfl,rfl,aU.of jj,(by lia),C8,Es,rfl,rfl,by lia,fun r out vY ko=>?_⟩;rw[<-hos] at ko;rw[DB fi hh ko];have RB:aI H2 (upd H2 r (.lst (NV (fP n (zp zs) h)))):=aj vY;refine k r _ (t2.same RB) (fun b o e hb=>RB _ _ (old b o (sm _ _ e) hb)) ?_ af;cases z:H r with
   |none=>rfl
   |some o=>
    by_cases hP:r=Pt
    .rcases t2 with q|⟨_,q,_⟩ <;> · rw[<-hP,vY] at q;cases q
    .rw[old r o (sm _ _ z) hP] at vY;cases vY
end
abbrev FN:Stmt:=gR 34
abbrev AM:Stmt:=gR 35
def lH(n:Nat)(R:List Nat)(f:Nat->Nat):List V:=(List.range n).map fun x=>if x∈R then V.int ((f x:Nat):Int) else .bR
theorem kR:(lH n R f).length=n:=by unfold lH;rw[aF,dD]
theorem kS(h:x<n):(lH n R f)[x]?=some (if x∈R then V.int ((f x:Nat):Int) else .bR):=by
 unfold lH;rw[bp,kh h];rfl
theorem AN(hs:s<n):(List.replicate n V.bR).set s (V.int 0)=lH n [s] (fun _=>0):=by
 apply zN;intro x;by_cases hx:x<n
 .rw[kS hx];by_cases e:x=s
  .subst e;rw[qN (by rw[qI];exact hx),aq (by simp)];rfl
  .rw[u7 (fun z=>e z.symm),zi,aq hx,ap (by simp[e])]
 .rw[iD (by rw[md,qI];lia),iD (by rw[kR];lia)]
theorem FO(hv:v<n):(lH n R f).set v (V.int ((k:Nat):Int))=lH n (R++[v]) (put f v k):=by
 apply zN;intro x;by_cases hx:x<n
 .rw[kS hx];by_cases e:x=v
  .subst e;rw[qN (by rw[kR];exact hx),aq (by simp),ip]
  .rw[u7 (fun z=>e z.symm),kS hx,fz e];by_cases h:x∈R
   .rw[aq h,aq (iE _ h)]
   .rw[ap h,ap (fun z=>(bV.mp z).elim h fun z=>e (by simpa using z))]
 .rw[iD (by rw[md,kR];lia),iD (by rw[kR];lia)]
def LI(σ:St):Nat:=match σ[4]? with
 |some (some (V.int z))=>z.toNat
 |_=>0
theorem nbO:(["others"]:List Str).Nodup:=by decide +kernel
def bb(H:Hp)(ol:Addr)(n:Nat)(ts:Ts):Prop:=∃bs:List Addr,H ol=some (.lst (bs.map V.ref))/\Holds H bs n (fun h=>.lst (NV (fP n ts h)))
theorem bb.same(x:bb H ol n ts)(e:aI H H'):bb H' ol n ts:=let ⟨bs,a,b⟩:=x;⟨bs,e _ _ a,b.mono fun _ _ z=>e _ _ z⟩
theorem yk{as:List Addr}{i:Nat}{x:V}(h:(as.map V.ref)[i]?=some x):i<as.length/\x=.ref (as.getD i 0):=by
 rw[bp] at h;cases e:as[i]? with
 |none=>rw[e] at h;cases h
 |some a=>
  rw[e] at h;refine⟨(cI.mp e).1,?_⟩;rw[bH,e];exact(ba h).symm
section
variable {P:Program} {w:World} {K:PySem.W.Frag} {mg:Str->Option Value} {base:Heap}
theorem mN:aJ ["out_lists","start","distances","reached","at","house","other"] ["out_lists","start"] (am FN):=⟨rfl,rfl,rfl,by decide +kernel,rfl,by decide +kernel,by decide +kernel⟩
def wB:Sp:=fun vs H Q _=>∃ (ol:Addr) (n s:Nat) (ts:Ts),vs=[.ref ol,.int s]/\gI n ts/\s<n/\bb H ol n ts/\
 ∀ (r:Addr) (H':Hp),aI H H'->H r=none->H' r=some (.lst (NV ((List.range n).map (far ts s))))->Q (.ref r) H'
theorem JH{f:Addr}{fd:FuncData}(F:fW K "distances_from" "distances_from" FN f fd)(B:Bl mg):bC P w K mg base bi 1 f fd ["out_lists","start"] wB:=by
 refine F.ok mN (fun vs H Q E h=>?_) (fun dE A outer s H vs Q E hr h=>?_)
 .obtain⟨ol,n,s,ts,rfl,_⟩:=h;rfl
 .obtain⟨ol,n,st,ts,rfl,fi,hs,O,k⟩:=h;have n1:=fi.n1;have n2:=fi.n2;refine'⟨_,ah (gc (i:=2) (g:=bo 0) (NB:=["others"]) (src:=[none]) (bY (by kernel_rfl)) rfl (b_ (pv 0)) ?g ?t ?e mN.nd rfl rfl rfl)
   (ah (iR ao (oF (pv 2) (pv 1) i8))
   (ah (aK (i:=3) mN.nd rfl (Or.inl rfl) (cZ (aa (pv 1) ag)))
   (ah (aK (i:=4) mN.nd rfl (Or.inl rfl) ao)
   (ah (rj dR (aL pC (pv 4) (av aE (by rfl) B.len cL (aa (pv 3) ag)) (aG _))
    (ah (aK (i:=5) mN.nd rfl (Or.inl rfl) (az aA (pv 3) (pv 4) (fun _ _=>rfl)))
    (ah (cT dR rfl (b_ (az aA (pv 0) (pv 5) (fun _ _=>rfl))) (au (i:=6) mN.nd rfl (Or.inl rfl))
     (al (bA (aL kG (az aA (pv 2) (pv 6) (fun _ _=>rfl)) cS (aG _))
      (ah (iR (a_ cY (az aA (pv 2) (pv 5) (fun _ _=>rfl)) ao) (oF (pv 2) (pv 6) i8))
      (al (cg (im h_ j_ j8 dg (pv 3) (aa (pv 6) ag))))) aR)))
    (al (Eu (i:=4) mN.nd rfl (Or.inl rfl) ao Ew)))))
   (al (aH (pv 2))))))),?_⟩
  case g=>exact fun cl C s₃ H₃ fp=>au (i:=0) nbO rfl (Or.inl rfl) (Or.inr rfl)
  case t=>exact fun cl C s₃ H₃ fp=>eQ
  case e=>exact fun cl C s₃ H₃ fp=>cS
  obtain⟨bs,Ln,WQ,PJ⟩:=id O;refine⟨_,rfl,ol,rfl,⟨_,aU.of Ln⟩,fun D hD=>?_⟩;have nol:ol≠D:=ai Ln hD;refine eG (xs:=bs.map V.ref) (fun i ys σ H2=>(∃a,σ=[a])/\ys=List.replicate i V.bR/\H2=upd H D (.lst ys)) ⟨⟨_,rfl⟩,rfl,rfl⟩ (fun i ys σ H2 _ ⟨_,_,e⟩=>by rw[e];exact aU.of (by rw[ak nol];exact Ln)) ?_ ?_
  .rintro i x ys σ H2 Kt Kf hx ⟨⟨a,rfl⟩,rfl,rfl⟩ kt kf;have hi:=(yk hx).1;refine kt _ _ _ af ?_ ⟨⟨_,rfl⟩,?_,by rw[fu]⟩
   .rw[qI];exact bT hi (by rw[WQ];exact bj n2 (by decide))
   .rw[List.replicate_succ']
  .rintro ys σ H2 ⟨_,rfl,rfl⟩;rw[aF,WQ];refine⟨_,rfl,_,rfl,D,_,st,st,rfl,rfl,af,by rw[qI];exact lq hs,?_⟩;rw[fu,AN hs];refine⟨_,rfl,by show 1<=sizeLine;decide,fun R hR=>?_⟩;have LJ:D≠R:=ai (H:=upd H D (.lst (lH n [st] (fun _=>0)))) af hR;have RE:H R=none:=by rw[ak LJ.symm] at hR;exact hR
   refine xo (fun σ H2=>∃ (i:Nat) (Rs:List Nat) (f:Nat->Nat),i<=Rs.length/\yZ n ts st i Rs f/\(∃a b,σ=[some (.ref ol),some (.int st),some (.ref D),some (.ref R),some (.int (i:Int)),a,b])/\aI H H2/\H2 D=some (.lst (lH n Rs f))/\H2 R=some (.lst (NV Rs)))
    (fun σ _=>n-LI σ) ⟨0,[st],fun _=>0,dG _,yZ.start hs,⟨none,none,rfl⟩,cG (aj hD) RE,?_,af⟩ ?_ ?_
   .rw[ak LJ,af]
   .rintro σ H2 ⟨i,Rs,f,hi,Bf,⟨a,b,rfl⟩,sm,jj,PU⟩;have hRn:Rs.length<=n:=fc Bf.nd Bf.lt;refine⟨_,rfl,_,rfl,R,_,rfl,.inl (aU.of PU),_,_,rfl,rfl,_,rfl,?_⟩;rw[sj];by_cases uw:i<Rs.length
    .rw[show decide ((i:Int)<((Rs.length:Nat):Int))=true by simp;lia];refine IH ?_;have hu:Rs[i]?=some Rs[i]:=b9 uw;generalize Rs[i]=u at hu;have JI:u<n:=Bf.lt u (eB hu);have UK:(NV Rs)[i]?=some (.int (u:Int)):=by rw[bp,hu];rfl
     refine⟨_,rfl,_,rfl,R,_,_,_,rfl,rfl,aU.of PU,br UK,?_⟩;have RF:(bs.map V.ref)[u]?=some (.ref (bs.getD u 0)):=by
      rw[bp,bH,b9 (by rw[WQ];exact JI)];rfl
     have ND:=sm _ _ (PJ _ JI);refine⟨_,rfl,_,rfl,ol,_,_,_,rfl,rfl,aU.of (sm _ _ Ln),br RF,_,rfl,⟨_,aU.of ND⟩,?_⟩;have nbD:bs.getD u 0≠D:=ai (PJ _ JI) hD;have nbR:bs.getD u 0≠R:=ai (PJ _ JI) RE;refine ij (K:=K) (xs:=NV (fP n ts u)) (fun j σ H3=>∃ (gT:List Nat) (f':Nat->Nat),yZ n ts st i gT f'/\gT[i]?=some u/\(∀v∈(fP n ts u).take j,v∈gT/\f' v<=f' u+1)/\
      (∃b,σ=[some (.ref ol),some (.int st),some (.ref D),some (.ref R),some (.int (i:Int)),some (.int (u:Int)),b])/\aI H H3/\H3 D=some (.lst (lH n gT f'))/\H3 R=some (.lst (NV gT)))
      ⟨Rs,f,Bf,hu,fun v hv=>by simp at hv,⟨_,rfl⟩,sm,jj,PU⟩ (fun j σ H3 _ ⟨_,_,_,_,_,_,tf,_⟩=>aU.of (tf _ _ (PJ _ JI))) ?_ ?_
     .rintro j x σ H3 hx ⟨gT,f',uA,xD,dn,⟨b',rfl⟩,tf,jY,w_⟩;rw[bp] at hx;cases hv:(fP n ts u)[j]? with
      |none=>rw[hv] at hx;cases hx
      |some v=>
       rw[hv] at hx;obtain rfl:V.int ((v:Nat):Int)=x:=ba hx;have PV:v∈fP n ts u:=eB hv;have FP:v<n:=BZ fi JI PV;have WR:T ts u v:=(kQ fi JI).mp PV;have tk:(fP n ts u).take (j+1)=(fP n ts u).take j++[v]:=by rw[gX,hv];rfl
       have FQ:u∈gT:=eB xD;refine⟨_,rfl,_,rfl,D,_,_,_,rfl,rfl,aU.of jY,br (kS FP),rfl,_,rfl,?_⟩;by_cases AO:v∈gT
       .rw[aq AO];refine lG ⟨gT,f',uA,xD,fun x hx=>?_,⟨_,rfl⟩,tf,jY,w_⟩;rw[tk] at hx;rcases bV.mp hx with z|z
        .exact dn x z
        .simp at z;subst z;exact⟨AO,uA.bd u xD _ AO⟩
       .rw[ap AO];refine IH ?_;have hg2:(lH n gT f')[u]?=some (.int ((f' u:Nat):Int)):=by rw[kS JI,aq FQ]
        refine⟨_,rfl,_,rfl,D,_,_,_,rfl,rfl,aU.of jY,br hg2,_,_,rfl,rfl,_,rfl,_,rfl,D,_,_,_,rfl,rfl,jY,by rw[kR];exact lq FP,?_⟩;have e1:(lH n gT f').set v (.int (((f' u:Nat):Int)+1))=lH n (gT++[v]) (put f' v (f' u+1)):=by
         rw[show ((f' u:Nat):Int)+1=((f' u+1:Nat):Int) by lia,FO FP]
        rw[e1];have s_:(upd H3 D (.lst (lH n (gT++[v]) (put f' v (f' u+1))))) R=some (.lst (NV gT)):=by rw[ak LJ.symm];exact w_
        have FS:gT.length<=n:=fc uA.nd uA.lt;refine⟨_,rfl,.inl ⟨rfl,_,aU.of s_⟩,_,rfl,R,_,_,rfl,rfl,s_,by rw[sj];exact bT (show gT.length<33 by lia) (by decide),?_⟩;have kO:i<gT.length:=(cI.mp xD).1;have WS:u≠v:=fun z=>AO (z ▸ FQ);refine⟨gT++[v],put f' v (f' u+1),uA.add xD FP WR AO,by rw[iC kO];exact xD,fun x hx=>?_,⟨_,rfl⟩,cG (cG tf hD) RE,?_,?_⟩
        .rw[fz WS];rw[tk] at hx;rcases bV.mp hx with z|z
         .obtain⟨q1,q2⟩:=dn x z;exact⟨iE _ q1,by rw[fz (fun (z:x=v)=>AO (z ▸ q1))];exact q2⟩
         .simp at z;subst z;exact⟨by simp,by rw[ip];exact bf _⟩
        .rw[ak LJ,af]
        .rw[af];show _=some (HO.lst (NV (gT++[v])));rw[show NV (gT++[v])=NV gT++[.int (v:Int)] by unfold NV;rw[bK];rfl]
     .rintro σ H3 ⟨gT,f',uA,xD,dn,⟨b',rfl⟩,tf,jY,w_⟩;rw[sj,iY] at dn;have kO:i<gT.length:=(cI.mp xD).1;have FS:gT.length<=n:=fc uA.nd uA.lt;refine⟨_,rfl,_,_,rfl,rfl,⟨⟨i+1,gT,f',kO,uA.next xD (fun v t=>dn v ((kQ fi JI).mpr t)),⟨_,_,rfl⟩,tf,jY,w_⟩,?_⟩⟩;show n-((i:Int)+1).toNat<n-(i:Int).toNat;lia
    .rw[show decide ((i:Int)<((Rs.length:Nat):Int))=false by rw[decide_eq_false_iff_not];lia];have e:lH n Rs f=NV ((List.range n).map (far ts st)):=by
      unfold lH NV;rw[fV];refine kg fun x hx=>?_;obtain⟨q1,q2⟩:=Bf.done fi (by lia) (bu.mp hx);rw[aq q1,q2];rfl
     rw[e] at jj;refine lG ⟨_,rfl,k D H2 sm hD jj⟩
   .rintro σ H2 Q1 Q2 imp ⟨v,e1,v2,e2,p,ys,e3,e4,i1,i2,e5,e6,kk,e7,q⟩;exact⟨v,e1,v2,e2,p,ys,e3,e4,i1,i2,e5,e6,kk,e7,imp _ _ q⟩
end
theorem RG:(["row"]:List Str).Nodup:=by decide +kernel
section
variable {P:Program} {w:World} {K:PySem.W.Frag} {mg:Str->Option Value} {base:Heap}
theorem JJ:aJ ["distances"] ["distances"] (am AM):=⟨rfl,rfl,rfl,by decide +kernel,rfl,by decide +kernel,by decide +kernel⟩
def wC:Sp:=fun vs H Q _=>∃ (l:Addr) (ds:List Addr) (n:Nat) (o:Nat->List V),vs=[.ref l]/\H l=some (.lst (ds.map V.ref))/\n<=32/\Holds H ds n (fun j=>.lst (o j))/\(∀j,j<n->∀x∈o j,∃i,x=.int i)/\∀H',aI H H'->Q .bR H'
theorem FT(F:fW K "check_reached" "check_reached" AM f fd)(B:Bl mg):bC P w K mg base bi 1 f fd ["distances"] wC:=by
 refine F.ok JJ (fun vs H Q E h=>?_) (fun dE A outer s H vs Q E hr h=>?_)
 .obtain⟨l,ds,n,o,rfl,_⟩:=h;rfl
 .obtain⟨l,ds,n,o,rfl,hl,n2,hh,hx,k⟩:=h;refine'⟨_,al (bA (dA (av (Db rfl) (by rfl) B.any PyProof.Rows.boot_any (aa ?c ag))) dI aR),?_⟩;case c=>
   refine' cm (g:=bo 0) (te:=iA (Qz K false) (tC .bR) (aV 0)) (NB:=["row"]) (src:=[none]) (bY (by kernel_rfl)) rfl (b_ (pv 0)) ?g ?t ?e;case g=>exact fun cl C s₃ H₃ fp=>au (i:=0) RG rfl (Or.inl rfl) (Or.inr rfl)
   case t=>exact fun cl C s₃ H₃ fp=>eQ
   case e=>exact fun cl C s₃ H₃ fp=>cy oK cS (pv 0) rfl
  refine⟨_,rfl,l,rfl,⟨_,aU.of hl⟩,fun D hD=>?_⟩;have nl:l≠D:=ai hl hD;refine eG (xs:=ds.map V.ref) (fun i ys σ H2=>(∃a,σ=[a])/\ys=(List.replicate i false).map V.bl/\H2=upd H D (.lst ys)) ⟨⟨_,rfl⟩,rfl,rfl⟩ (fun i ys σ H2 _ ⟨_,_,e⟩=>by rw[e];exact aU.of (by rw[ak nl];exact hl)) ?_ ?_
  .rintro i x ys σ H2 Kt Kf hxi ⟨⟨a,rfl⟩,rfl,rfl⟩ kt kf;obtain⟨hi,rfl⟩:=yk hxi;rw[hh.1] at hi;have hd:=hh.2 i hi;have nd:ds.getD i 0≠D:=ai hd hD;have q1:(o i).all g8=true:=ie.mpr fun x yY=>by obtain⟨z,rfl⟩:=hx i hi x yY;rfl
   have q2:CV .bR (o i)=false:=by
    unfold CV;rw[zO];intro x yY;obtain⟨z,rfl⟩:=hx i hi x yY;exact fun z=>by cases z
   refine⟨_,rfl,_,_,rfl,.inl (aU.of (by rw[ak nd];exact hd)),rfl,q1,?_⟩;refine kt _ _ _ af ?_ ⟨⟨_,rfl⟩,?_,by rw[fu]⟩
   .rw[aF,qI];exact bT hi (bj n2 (by decide))
   .rw[List.replicate_succ',bK,q2];rfl
  .rintro ys σ H2 ⟨_,rfl,rfl⟩;refine⟨D,_,rfl,aU.of af,_,rfl,?_⟩;have e:(List.replicate (ds.map V.ref).length false).any id=false:=by
    rw[zO];intro x yY;rw[(List.mem_replicate.mp yY).2];decide
   rw[e];exact lG (k _ (aj hD))
end
theorem nb2:(["one","other"]:List Str).Nodup:=by decide +kernel
theorem RH:(["house","many","ties"]:List Str).Nodup:=by decide +kernel
theorem WT:(["house","self"]:List Str).Nodup:=by decide +kernel
def lT(p Pt:Addr)(H H':Hp):Prop:=∀b o,H b=some o->b≠p->b≠Pt->H' b=some o
theorem fQ.mono(h:fQ H l n zs)(e:lT p Pt H H')(hp:H p=some (.ins C dx fs))(tb:qB Pt H):fQ H' l n zs:=
 ⟨h.nC,e _ _ h.at_ (cC h.at_ hp (by intro z;cases z)) (tb.not h.at_ (by intro ps z;cases z)),fun z hz=>e _ _ (h.po z hz) (cC (h.po z hz) hp (by intro z;cases z)) (tb.not (h.po z hz) (by intro ps z;cases z))⟩
theorem qB.mono(t:qB Pt H)(e:∀b o,H b=some o->b≠p->H' b=some o)(hp:H p=some (.ins C dx fs)):qB Pt H':=by
 rcases t with z|⟨c,z,y⟩
 .exact .inl (e _ _ z (cC z hp (by intro q;cases q)))
 .exact .inr ⟨c,e _ _ z (cC z hp (by intro q;cases q)),e _ _ y (cC y hp (by intro q;cases q))⟩
theorem qB.full(t:qB Pt H):H Pt≠none:=by
 rcases t with z|⟨c,z,y⟩ <;> rw[z] <;> intro q <;> cases q
theorem lT.free(s:lT p Pt H H')(hp:H' p≠none)(tb:qB Pt H')(h:H' r=none):H r=none:=by
 cases z:H r with
 |none=>rfl
 |some o=>
  by_cases e1:r=p
  .subst e1;exact absurd h hp
  .by_cases e2:r=Pt
   .subst e2;exact absurd h tb.full
   .rw[s r o z e1 e2] at h;cases h
theorem FU(h:k [] H):hE σ H k:=h
theorem lv{H:Hp}{p:Addr}{o:HO}(h:H p=some o):H p≠none:=by rw[h];intro z;cases z
section
variable {P:Program} {w:World} {K:PySem.W.Frag} {mg:Str->Option Value} {base:Heap}
theorem NG:aJ ["self","many","ties"] ["self","many","ties"] (am B0):=⟨rfl,rfl,rfl,by decide +kernel,rfl,by decide +kernel,by decide +kernel⟩
def wD(C Pt:Addr):Sp:=fun vs H Q E=>∃ (p dx:Addr) (n:Nat) (l:Addr) (zs:Zs),vs=[.ref p,.int n,.ref l]/\H p=some (.ins C dx [])/\fQ H l n zs/\qB Pt H/\
  ∀H',eD C H' (fun a=>H a=none) p n (zp zs)->qB Pt H'->lT p Pt H H'->Q .bR H'
theorem JK{f C Pt:Addr}{fd:FuncData}(F:fW K "__init__" "Net.__init__" B0 f fd)(T:NT K mg C)(B:Bl mg)(CT:cE P w K mg base bi 6 "check_ties" ["many","ties"] lu)(CB:cE P w K mg base bi 1 "check_balance" ["many","ties"] lu)(HO':cE P w K mg base bi 1 "houses_out" ["many","ties","house"] (wA Pt))(DF:cE P w K mg base bi 1 "distances_from" ["out_lists","start"] wB)(CR:cE P w K mg base bi 1 "check_reached" ["distances"] wC):
  bC P w K mg base bi 7 f fd ["self","many","ties"] (wD C Pt):=by
 refine F.ok NG (fun vs H Q E h=>?_) (fun dE A outer s H vs Q E hr h=>?_)
 .obtain⟨p,dx,n,l,zs,rfl,_⟩:=h;rfl
 .have DC:cD 1 _:=hr.mono (by decide);refine'⟨_,ah (cg (aB CT hr aM (aa (pv 1) (aa (pv 2) ag))))
   (ah (cg (aB CB DC aM (aa (pv 1) (aa (pv 2) ag))))
   (ah (vJ (pv 0) (pv 1) rfl)
   (ah (vJ (pv 0) (av sd (by rfl) B.sorted ze (aa ?c1 ag)) rfl)
   (ah (vJ (pv 0) ?c2 rfl)
   (ah (vJ (pv 0) ?c3 rfl)
   (al (cg (aB CR DC aM (aa (oI (pv 0) rfl) ag))))))))),?_⟩
  case c1=>
   refine' cm (g:=rh K 2 (fq (bo 0) (fq (bo 1) rf))) (te:=tD (bx (aV 0) (bx (aV 1) hE))) (NB:=["one","other"]) (src:=[none,none]) (bY (by kernel_rfl)) rfl (b_ (pv 2)) ?g ?t ?e;case g=>exact fun cl C s₃ H₃ fp=>fw (n:=2) rfl (a9 (au (i:=0) nb2 rfl (Or.inl rfl) (Or.inr rfl)) (a9 (au (i:=1) nb2 rfl (Or.inl rfl) (Or.inr rfl)) dZ))
   case t=>exact fun cl C s₃ H₃ fp=>eQ
   case e=>exact fun cl C s₃ H₃ fp=>eJ (aa (pv 0) (aa (pv 1) ag))
  case c2=>
   refine' cm (g:=bo 0) (te:=pD (wA Pt) [] E0 (bx (aV 1) (bx (aV 2) (bx (aV 0) hE)))) (NB:=["house","many","ties"]) (src:=[none,some 1,some 2]) (bY (by kernel_rfl)) rfl (cq rfl B.range (aa (pv 1) ag)) ?g ?t ?e;case g=>exact fun cl C s₃ H₃ fp=>au (i:=0) RH rfl (Or.inl rfl) (Or.inr rfl)
   case t=>exact fun cl C s₃ H₃ fp=>eQ
   case e=>exact fun cl C s₃ H₃ fp=>aB HO' DC aM (aa (pv 1) (aa (pv 2) (aa (pv 0) ag)))
  case c3=>
   refine' cm (g:=bo 0) (te:=pD wB [] E0 (bx (MJ K (aV 1) "out_lists") (bx (aV 0) hE))) (NB:=["house","self"]) (src:=[none,some 0]) (bY (by kernel_rfl)) rfl (cq rfl B.range (aa (pv 1) ag)) ?g ?t ?e;case g=>exact fun cl C s₃ H₃ fp=>au (i:=0) WT rfl (Or.inl rfl) (Or.inr rfl)
   case t=>exact fun cl C s₃ H₃ fp=>eQ
   case e=>exact fun cl C s₃ H₃ fp=>aB DF DC aM (aa (oI (pv 1) rfl) (aa (pv 0) ag))
  obtain⟨p,dx,n,l,zs,rfl,hp,TT,tb,k⟩:=h;have fi:=TT.nC;have n1:=fi.n1;have n2:=fi.n2;have eW:zs.length<=256:=by have:=fi.len;rw[eK] at this;exact this
  refine⟨_,rfl,_,rfl,n,l,zs,rfl,TT,fun H1 s1=>?_⟩;refine⟨_,rfl,_,rfl,n,l,zs,rfl,TT.same s1,fun H2 s2=>?_⟩;have NH:aI H H2:=s1.trans s2;refine⟨_,rfl,_,rfl,p,C,dx,[],rfl,NH _ _ hp,T.cl,T.nH,(by show 0<1000;decide),?_⟩
  let G1:Hp:=upd H2 p (.ins C dx (d9 "house_count" (.int n) []))
  have d1:lT p Pt H G1:=fun b o e h1 _=>by show upd _ _ _ _=_;rw[ak h1];exact NH _ _ e
  have UL:G1 p=some (.ins C dx (d9 "house_count" (.int n) [])):=af;have WU:fQ G1 l n zs:=TT.mono d1 hp tb;have RI:qB Pt G1:=tb.mono (fun b o e h1=>by show upd _ _ _ _=_;rw[ak h1];exact NH _ _ e) hp;refine⟨_,rfl,l,rfl,⟨_,aU.of WU.at_⟩,fun D hD=>?_⟩;refine FG (fun y=>y) (fun σ=>∃a b,σ=[a,b]) WU.at_ WU.po hD (by lia) ⟨_,_,rfl⟩ ?_ ?_
  .rintro z σ H3 R Kf hz ⟨a,b,rfl⟩ ha kk;refine⟨_,_,rfl,cK.of ha,rfl,_,_,rfl,_,_,rfl,rfl,?_⟩;exact⟨_,rfl,_,rfl,by show 2<=sizeLine;decide,fun t ht=>kk _ _ ⟨_,_,rfl⟩ ht⟩
  .intro zs2 H3 sm jY xa ez fr2;rw[List.map_id'] at ez;have Us:zs2.length=zs.length:=by rw[<-eK,ez,eK]
   refine FU ?_;refine wy jY xa (by lia) (fun u hu=>by have:=(fi.rg u (ez ▸ hu)).2;lia) fun tl PX WV pm ord=>?_;have WW:H tl=none:=d1.free (lv UL) RI (sm.free WV);have Mz:∀z∈PX,H z.1=none:=fun z hz=>d1.free (lv UL) RI (fr2 z (pm.mem_iff.mp hz));have WX:H3 p=some (.ins C dx (d9 "house_count" (.int n) [])):=sm _ _ UL;have NI:p≠tl:=ai WX WV;refine⟨_,rfl,p,C,dx,_,rfl,by rw[ak NI];exact WX,T.cl,T.nT,by show 1<1000;decide,?_⟩
   let G2:Hp:=upd (upd H3 tl (.lst (zr PX))) p (.ins C dx (d9 "tie_list" (.ref tl) (d9 "house_count" (.int n) [])))
   have q2:∀b o,H3 b=some o->b≠p->G2 b=some o:=fun b o e h1=>by
    show upd _ _ _ _=_;rw[ak h1,ak (ai e WV)];exact e
   have d2:lT p Pt H G2:=fun b o e h1 h2=>q2 _ _ (sm _ _ (d1 _ _ e h1 h2)) h1;have g2t:G2 tl=some (.lst (zr PX)):=by show upd _ _ _ _=_;rw[ak NI.symm,af]
   have WY:PO G2 PX:=fun z hz=>q2 _ _ (xa z (pm.mem_iff.mp hz)) (cC (xa z (pm.mem_iff.mp hz)) WX (by intro z;cases z));have NJ:G2 p=some (.ins C dx (d9 "tie_list" (.ref tl) (d9 "house_count" (.int n) []))):=af;have TT2:fQ G2 l n zs:=TT.mono d2 hp tb;have HN:qB Pt G2:=RI.mono (fun b o e h1=>q2 _ _ (sm _ _ e) h1) UL;refine⟨_,rfl,n,rfl,by lia,by lia,fun D2 jj=>?_⟩;refine gf (n:=n) (lo:=0) (fun i ys σ H4=>(∃a,σ=[a,some (.int n),some (.ref l)])/\∃bs:List Addr,ys=bs.map V.ref/\(∀b∈bs,H b=none)/\Holds H4 bs i (fun h=>.lst (NV (fP n (zp zs) h)))/\dv Pt G2 H4/\qB Pt H4/\H4 D2=some (.lst ys)/\∀b∈bs,b≠D2)
    ⟨⟨_,rfl⟩,[],rfl,(fun _ h=>nomatch h),Holds.nil,dv.of (aj jj),HN.same (aj jj),af,(fun _ h=>nomatch h)⟩ ?_ ?_
   .rintro i ys σ H4 Kt Kf hi ⟨⟨a,rfl⟩,bs,rfl,WZ,hb,sk,LK,uB,W0⟩ kt kf;have TT4:fQ H4 l n zs:=TT2.mono (p:=p) (fun b o e _ h2=>sk _ _ e h2) NJ HN;have PY:=sk _ _ NJ (HN.not NJ (by intro ps z;cases z));refine⟨_,rfl,_,rfl,_,rfl,n,l,i,zs,by rw[gL];rfl,hi,TT4,LK,fun r H5 t5 Bi UM hr5=>?_⟩;have W1:H r=none:=lT.free (fun b o e h1 h2=>sk _ _ (d2 _ _ e h1 h2) h2) (lv PY) LK UM;have UN:H5 D2=some (.lst (bs.map V.ref)):=Bi _ _ uB (LK.not uB (by intro ps z;cases z));have RJ:r≠D2:=by rintro rfl;rw[uB] at UM;cases UM
    have lU:∀b o pY,H5 b=some o->b≠D2->(upd H5 D2 pY) b=some o:=fun b o pY e h=>by rw[ak h];exact e
    refine kt _ _ _ UN (by rw[aF,hb.1];exact bT hi (bj n2 (by decide))) ⟨⟨_,rfl⟩,bs++[r],by rw[bK];rfl,?_,?_,?_,?_,af,?_⟩
    .intro b pK;rcases bV.mp pK with z|z
     .exact WZ b z
     .rw[cH.mp z];exact W1
    .refine Holds.snoc (hb.mono fun j hj e=>?_) (lU _ _ _ hr5 RJ);refine lU _ _ _ (Bi _ _ e (LK.not e (by intro ps z;cases z))) (W0 _ ?_);rw[bH,b9 (by rw[hb.1];exact hj)];exact gv _
    .intro b o e h;exact lU _ _ _ (Bi _ _ (sk _ _ e h) h) (ai e jj)
    .rcases t5 with z|⟨c,z,y⟩
     .exact .inl (lU _ _ _ z (cC z UN (by intro q;cases q)))
     .exact .inr ⟨c,lU _ _ _ z (cC z UN (by intro q;cases q)),lU _ _ _ y (cC y UN (by intro q;cases q))⟩
    .intro b pK;rcases bV.mp pK with z|z
     .exact W0 b z
     .rw[cH.mp z];exact RJ
   .rintro ys σ H4 ⟨_,bs,rfl,WZ,hb,sk,LK,uB,W0⟩;have PY:H4 p=some (.ins C dx (d9 "tie_list" (.ref tl) (d9 "house_count" (.int n) []))):=sk _ _ NJ (HN.not NJ (by intro ps z;cases z));have W2:H D2=none:=d2.free (lv NJ) HN jj;refine⟨_,rfl,p,C,dx,_,rfl,PY,T.cl,T.nO,by have h1:=eV "tie_list" (V.ref tl) (d9 "house_count" (V.int n) []);have h2:=eV "house_count" (V.int n) [];simp at h2;lia,?_⟩
    let G3:Hp:=upd H4 p (.ins C dx (d9 "out_lists" (.ref D2) (d9 "tie_list" (.ref tl) (d9 "house_count" (.int n) []))))
    have q3:∀b o,H4 b=some o->b≠p->G3 b=some o:=fun b o e h1=>by show upd _ _ _ _=_;rw[ak h1];exact e
    have NK:G3 p=some (.ins C dx (d9 "out_lists" (.ref D2) (d9 "tie_list" (.ref tl) (d9 "house_count" (.int n) [])))):=af;have d3:lT p Pt H G3:=fun b o e h1 h2=>q3 _ _ (sk _ _ (d2 _ _ e h1 h2) h2) h1;have HP:qB Pt G3:=LK.mono q3 PY;have hb3:Holds G3 bs n (fun h=>.lst (NV (fP n (zp zs) h))):=hb.mono fun j hj e=>q3 _ _ e (cC e PY (by intro z;cases z));have W3:G3 D2=some (.lst (bs.map V.ref)):=q3 _ _ uB (cC uB PY (by intro z;cases z));have O3:bb G3 D2 n (zp zs):=⟨bs,W3,hb3⟩
    refine⟨_,rfl,n,rfl,by lia,by lia,fun D3 NL=>?_⟩;refine gf (n:=n) (lo:=0) (fun i ys σ H6=>(∃a,σ=[a,some (.ref p)])/\∃ds:List Addr,ys=ds.map V.ref/\(∀b∈ds,H b=none)/\Holds H6 ds i (fun s=>.lst (NV ((List.range n).map (far (zp zs) s))))/\aI G3 H6/\H6 D3=some (.lst ys)/\∀b∈ds,b≠D3)
     ⟨⟨_,rfl⟩,[],rfl,(fun _ h=>nomatch h),Holds.nil,aj NL,af,(fun _ h=>nomatch h)⟩ ?_ ?_
    .rintro i ys σ H6 Kt Kf hi ⟨⟨a,rfl⟩,ds,rfl,W4,hd,DX,LL,Qs⟩ kt kf;refine⟨_,rfl,p,C,dx,_,_,rfl,DX _ _ NK,T.cl,T.nO,by rw[bv,aq rfl],_,rfl,D2,n,i,zp zs,by rw[gL];rfl,fi,hi,O3.same DX,fun r H7 W5 W6 hr7=>?_⟩;have e7D:H7 D3=some (.lst (ds.map V.ref)):=W5 _ _ LL;have RJ:r≠D3:=by rintro rfl;rw[LL] at W6;cases W6
     have W1:H r=none:=lT.free (fun b o e h1 h2=>DX _ _ (d3 _ _ e h1 h2)) (lv (DX _ _ NK)) (HP.same DX) W6;have lU:∀b o pY,H7 b=some o->b≠D3->(upd H7 D3 pY) b=some o:=fun b o pY e h=>by rw[ak h];exact e
     refine kt _ _ _ e7D (by rw[aF,hd.1];exact bT hi (bj n2 (by decide))) ⟨⟨_,rfl⟩,ds++[r],by rw[bK];rfl,?_,?_,?_,af,?_⟩
     .intro b pK;rcases bV.mp pK with z|z
      .exact W4 b z
      .rw[cH.mp z];exact W1
     .refine Holds.snoc (hd.mono fun j hj e=>?_) (lU _ _ _ hr7 RJ);refine lU _ _ _ (W5 _ _ e) (Qs _ ?_);rw[bH,b9 (by rw[hd.1];exact hj)];exact gv _
     .intro b o e;exact lU _ _ _ (W5 _ _ (DX _ _ e)) (ai e NL)
     .intro b pK;rcases bV.mp pK with z|z
      .exact Qs b z
      .rw[cH.mp z];exact RJ
    .rintro ys σ H6 ⟨_,ds,rfl,W4,hd,DX,LL,Qs⟩;have RK:=DX _ _ NK;refine⟨_,rfl,p,C,dx,_,rfl,RK,T.cl,T.nD,by have h1:=eV "tie_list" (V.ref tl) (d9 "house_count" (V.int n) []);have h2:=eV "house_count" (V.int n) [];have h3:=eV "out_lists" (V.ref D2) (d9 "tie_list" (V.ref tl) (d9 "house_count" (V.int n) []));simp at h2;lia,?_⟩;have q4:∀b o u,H6 b=some o->b≠p->(upd H6 p u) b=some o:=fun b o u e h1=>by rw[ak h1];exact e
     refine⟨_,rfl,p,C,dx,_,_,rfl,af,T.cl,T.nD,by rw[bv,aq rfl],D3,ds,n,fun s=>NV ((List.range n).map (far (zp zs) s)),rfl,q4 _ _ _ LL (cC LL RK (by intro z;cases z)),n2,hd.mono fun j hj e=>q4 _ _ _ e (cC e RK (by intro z;cases z)),fun j hj x hx=>?_,fun H8 s8=>?_⟩
     .obtain⟨y,hy,rfl⟩:=bO.mp hx;exact⟨_,rfl⟩
     .have up:∀b o,G3 b=some o->b≠p->H8 b=some o:=fun b o e h1=>s8 _ _ (q4 _ _ _ (DX _ _ e) h1);have W7:H D3=none:=d3.free (lv NK) HP NL;have upT:∀b o,G2 b=some o->b≠p->b≠Pt->H8 b=some o:=fun b o e h1 h2=>up _ _ (q3 _ _ (sk _ _ e h2) h1) h1;refine k H8 ⟨fi,dx,tl,D2,D3,s8 _ _ af,W2,W7,⟨bs,up _ _ W3 (cC W3 NK (by intro z;cases z)),WZ,hb3.mono fun j hj e=>up _ _ e (cC e NK (by intro z;cases z))⟩,
       ⟨ds,s8 _ _ (q4 _ _ _ LL (cC LL RK (by intro z;cases z))),W4,hd.mono fun j hj e=>s8 _ _ (q4 _ _ _ e (cC e RK (by intro z;cases z)))⟩,
       ⟨WW,PX,upT _ _ g2t NI.symm (HN.not g2t (by intro ps z;cases z)),fun z hz=>upT _ _ (WY z hz) (cC (WY z hz) NJ (by intro z;cases z)) (HN.not (WY z hz) (by intro ps z;cases z)),Mz,((show (zp PX).Perm (zp zs2) from pm.map _).trans (vk ez)),ord⟩⟩ ?_ fun b o e h1 h2=>up _ _ (d3 _ _ e h1 h2) h1
      exact HP.mono up NK
end
end eT
namespace AQ
open PySem L2
def gR(i:Nat):Stmt:=PySem.Challenge.pw_neverwait_k66_nearest_first_on_any_net.main.body.getD i (.Pass ⟨0,0,0,0⟩)
abbrev NM:Stmt:=gR 37
abbrev FV:Stmt:=gR 38
abbrev FW:Stmt:=gR 39
structure Bl(mg:Str->Option Value):Prop where
 DV:mg "isinstance"=none
 int:mg "int"=none
 bool:mg "bool"=none
 lst:mg "list"=none
 tup:mg "tuple"=none
 dict:mg "dict"=none
 len:mg "len"=none
 range:mg "range"=none
 enum:mg "enumerate"=none
 all:mg "all"=none
 abs:mg "abs"=none
 max:mg "max"=none
 min:mg "min"=none
 repr:mg "repr"=none
def aX(H:Hp)(p:Addr):Prop:=∃a b:Int,H p=some (.lst [.int a,.int b])/\0<=a/\0<=b/\b<2147483647
theorem aX.same{H H':Hp}{p:Addr}(h:aX H p)(s:aI H H'):aX H' p:=let ⟨a,b,e,r⟩:=h;⟨a,b,s _ _ e,r⟩
theorem aX.upd{H:Hp}{p:Addr}{a b:Int}(h1:0<=a)(h2:0<=b)(h3:b<2147483647):aX (upd H p (.lst [.int a,.int b])) p:=⟨a,b,af,h1,h2,h3⟩
section
variable {P:Program} {w:World} {K:PySem.W.Frag} {mg:Str->Option Value} {base:Heap}
theorem B4:aJ ["_law_script","_law_k","_law_cell","_law_mixed"] ["_law_script","_law_k"] (am NM):=⟨rfl,rfl,rfl,by decide +kernel,rfl,by decide +kernel,by decide +kernel⟩
def FX(K:PySem.W.Frag):Sp:=fun vs H Q _=>∃ (a:Addr) (ns:List Int) (k:Nat),vs=[.ref a,.int k]/\aU K H a (ns.map V.int)/\k<64/\∀ (r:Addr) (H':Hp),aI H H'->H r=none->aX H' r->Q (.ref r) H'
theorem FY{x:Int}(h0:0<=x)(h1:x<2 ^ 63):x.natAbs<2 ^ 64:=by lia
theorem NO{f:Addr}{fd:FuncData}(F:fW K "_law_pot" "_law_pot" NM f fd)(B:Bl mg):bC P w K mg base bi 1 f fd ["_law_script","_law_k"] (FX K):=by
 refine F.ok B4 (fun vs H Q E h=>?_) (fun dE A outer s H vs Q E hr h=>?_)
 .obtain⟨a,ns,k,rfl,_⟩:=h;rfl
 .obtain⟨a,ns,k,rfl,hS,hk,q⟩:=h;refine⟨_,ah (aK (i:=2) B4.nd rfl (Or.inl rfl) ao)
   (ah (bA (aL pC (pv 1) (av aE (by rfl) B.len cL (aa (pv 0) ag)) (aG _)) (al (aK (i:=2) B4.nd rfl (Or.inl rfl) (az aA (pv 0) (pv 1) (fun _ _=>rfl)))) aR)
   (ah (aK (i:=3) B4.nd rfl (Or.inl rfl) (a_ gP (a_ ED (a_ cY (a_ cY (a_ gP (av EF (by rfl) B.abs PyProof.Rows.boot_abs (aa (pv 2) ag)) ao) (a_ ik ao (pv 1))) ao) ao) ao))
   (al (aH (cZ (aa (av (tY rfl) (by rfl) B.max PyProof.Rows.boot_max (aa ao (aa (a_ jA (pv 2) (a_ ED ao ao)) ag))) (aa (pv 3) ag))))))),?_⟩
  refine⟨_,rfl,_,rfl,a,ns.map V.int,rfl,.inl hS,_,_,rfl,rfl,_,rfl,?_⟩;have fin:∀c:Int,0<=(if c<0 then -c else c):=fun c=>by split <;> lia
  refine bW (fun e=>?_) (fun e=>?_)
  .have dL:k<ns.length:=by
    have:(k:Int)<((ns.map V.int).length:Int):=by simpa using e
    rw[aF] at this;lia
   refine⟨_,rfl,_,rfl,a,_,_,_,rfl,rfl,hS,br (v:=.int ns[k]) (by rw[bp,b9 dL];rfl),?_⟩;have m0:0<=(if ns[k]<0 then -ns[k] else ns[k]) % 2147483587:=jm _ (by decide);have m1:(if ns[k]<0 then -ns[k] else ns[k]) % 2147483587<2147483587:=mX _ (by decide);refine⟨_,rfl,_,rfl,_,_,rfl,rfl,(by show (0:Int)<2147483587;decide),_,rfl,_,_,rfl,rfl,.inl ⟨by decide,by decide⟩,_,_,rfl,rfl,_,_,rfl,rfl,_,_,rfl,rfl,⟨by decide,by decide,FY (by lia) (by lia)⟩,_,_,rfl,rfl,(by show (0:Int)<2147483629;decide),?_⟩;refine⟨_,rfl,_,_,rfl,rfl,⟨by decide,by decide,by decide⟩,_,_,rfl,rfl,0,_,rfl,_,rfl,by show 2<=sizeLine;decide,fun r vY=>?_⟩;refine q r _ (aj vY) vY ⟨_,_,af,?_,jm _ (by decide),Int.lt_trans (mX _ (by decide)) (by decide)⟩;split <;> lia
  .have m0:0<=(if (0:Int)<0 then -0 else (0:Int)) % 2147483587:=by decide
   have m1:(if (0:Int)<0 then -0 else (0:Int)) % 2147483587<2147483587:=by decide
   refine⟨_,rfl,_,rfl,_,_,rfl,rfl,(by show (0:Int)<2147483587;decide),_,rfl,_,_,rfl,rfl,.inl ⟨by decide,by decide⟩,_,_,rfl,rfl,_,_,rfl,rfl,_,_,rfl,rfl,⟨by decide,by decide,FY (by lia) (by lia)⟩,_,_,rfl,rfl,(by show (0:Int)<2147483629;decide),?_⟩;refine⟨_,rfl,_,_,rfl,rfl,⟨by decide,by decide,by decide⟩,_,_,rfl,rfl,0,_,rfl,_,rfl,by show 2<=sizeLine;decide,fun r vY=>?_⟩;refine q r _ (aj vY) vY ⟨_,_,af,?_,jm _ (by decide),Int.lt_trans (mX _ (by decide)) (by decide)⟩;split <;> lia
theorem FZ:aJ ["_law_pot_here","_law_many","_law_digit"] ["_law_pot_here","_law_many"] (am FV):=⟨rfl,rfl,rfl,by decide +kernel,rfl,by decide +kernel,by decide +kernel⟩
def jJ:Sp:=fun vs H Q _=>∃ (p:Addr) (m:Int),vs=[.ref p,.int m]/\0<m/\m<1000000/\aX H p/\∀ (d a b:Int),0<=d->d<m->0<=a->0<=b->b<2147483647->Q (.int d) (upd H p (.lst [.int a,.int b]))
theorem JL{f:Addr}{fd:FuncData}(F:fW K "_law_take" "_law_take" FV f fd):bC P w K mg base bi 1 f fd ["_law_pot_here","_law_many"] jJ:=by
 refine F.ok FZ (fun vs H Q E h=>?_) (fun dE A outer s H vs Q E hr h=>?_)
 .obtain⟨p,m,rfl,_⟩:=h;rfl
 .obtain⟨p,m,rfl,m0,m1,⟨a,b,hp,a0,b0,b1⟩,q⟩:=h;refine⟨_,ah (bA (aL rq (az aA (pv 0) ao (fun _ _=>rfl)) ao (aG _))
    (ah (aK (i:=2) FZ.nd rfl (Or.inl rfl) (a_ gP (az aA (pv 0) ao (fun _ _=>rfl)) (pv 1)))
    (ah (iR (a_ vG (az aA (pv 0) ao (fun _ _=>rfl)) (pv 1)) (oF (pv 0) ao i8))
    (al (aH (pv 2))))) aR)
   (ah (iR (a_ gP (a_ cY (a_ ik (az aA (pv 0) ao (fun _ _=>rfl)) ao) ao) ao) (oF (pv 0) ao i8))
   (al (aH (a_ gP (a_ vG (a_ gP (a_ ik (az aA (pv 0) ao (fun _ _=>rfl)) (az aA (pv 0) ao (fun _ _=>rfl))) ao) ao) (pv 1))))),?_⟩
  have g0:fT [V.int a,V.int b] 0=some (.int a):=br (j:=0) rfl;have g1:fT [V.int a,V.int b] 1=some (.int b):=br (j:=1) rfl;refine⟨_,rfl,p,_,_,_,rfl,rfl,aU.of hp,g0,_,_,rfl,rfl,_,rfl,?_⟩;refine bW (fun e=>?_) (fun e=>?_)
  .refine⟨_,rfl,p,_,_,_,rfl,rfl,aU.of hp,g0,_,rfl,_,_,rfl,rfl,m0,?_⟩;refine⟨_,rfl,p,_,_,_,rfl,rfl,aU.of hp,g0,_,rfl,_,_,rfl,rfl,⟨m0,by lia⟩,?_⟩;refine⟨_,rfl,p,_,0,0,rfl,rfl,hp,lq (j:=0) (by show 0<2;decide),?_⟩;refine⟨_,rfl,?_⟩;exact q _ _ _ (jm _ (by lia)) (mX _ m0) (Int.ediv_nonneg a0 (by lia)) b0 b1
  .refine⟨_,rfl,p,_,_,_,rfl,rfl,aU.of hp,g1,_,_,rfl,rfl,.inl ⟨by lia,by lia⟩,_,_,rfl,rfl,_,_,rfl,rfl,(by show (0:Int)<2147483647;decide),?_⟩;refine⟨_,rfl,p,_,1,1,rfl,rfl,hp,lq (j:=1) (by show 1<2;decide),?_⟩;have c0:0<=(b*39373+20011) % 2147483647:=jm _ (by decide);have c1:(b*39373+20011) % 2147483647<2147483647:=mX _ (by decide);refine⟨_,rfl,p,_,_,_,rfl,rfl,aU.of af,br (j:=1) rfl,_,rfl,p,_,_,_,rfl,rfl,aU.of af,br (j:=1) rfl,_,_,rfl,rfl,.inl ⟨by lia,by lia⟩,_,_,rfl,rfl,(by show (0:Int)<2147483563;decide),_,_,rfl,rfl,⟨by decide,by decide⟩,_,rfl,_,_,rfl,rfl,m0,?_⟩;exact q _ _ _ (jm _ (by lia)) (mX _ m0) a0 c0 c1
theorem AR:aJ ["_law_pot_here","_law_some","_law_found","_law_one"] ["_law_pot_here","_law_some"] (am FW):=⟨rfl,rfl,rfl,by decide +kernel,rfl,by decide +kernel,by decide +kernel⟩
def wE(K:PySem.W.Frag):Sp:=fun vs H Q _=>∃ (p l:Addr) (xs:List V),vs=[.ref p,.ref l]/\aX H p/\H l=some (.lst xs)/\l≠p/\xs.length<4096/\∀ (r:Addr) (ys:List V) (H':Hp),ys.Perm xs->aP p H H'->aX H' p->H r=none->H' r=some (.lst ys)->Q (.ref r) H'
theorem JM{f:Addr}{fd:FuncData}(F:fW K "_law_shuffled" "_law_shuffled" FW f fd)(B:Bl mg)(T:cE P w K mg base bi 1 "_law_take" ["_law_pot_here","_law_many"] jJ):bC P w K mg base bi 2 f fd ["_law_pot_here","_law_some"] (wE K):=by
 refine F.ok AR (fun vs H Q E h=>?_) (fun dE A outer s H vs Q E hr h=>?_)
 .obtain⟨p,l,xs,rfl,_⟩:=h;rfl
 .obtain⟨p,l,xs,rfl,hp,hl,hlp,hz,q⟩:=h;refine⟨_,ah (aK (i:=2) AR.nd rfl (Or.inl rfl) (cZ ag))
   (ah (cT dR rfl (b_ (pv 1)) (au (i:=3) AR.nd rfl (Or.inl rfl))
    (al (cg (im h_ PySem.F.slot_list_insert PySem.F.type_list_insert Dk (pv 2) (aa (aB T hr aM (aa (pv 0) (aa (a_ cY (av aE (by rfl) B.len cL (aa (pv 2) ag)) ao) ag))) (aa (pv 3) ag))))))
   (al (aH (pv 2)))),?_⟩
  refine⟨by show 0<=sizeLine;decide,fun D hD=>?_⟩;have nl:l≠D:=ai hl hD;have np:p≠D:=by obtain⟨a,b,e,_⟩:=hp;exact ai e hD
  refine⟨_,rfl,l,rfl,⟨_,aU.of (by rw[ak nl];exact hl)⟩,ij (K:=K) (a:=l) (xs:=xs) (fun i σ H2=>(∃v,σ=[some (.ref p),some (.ref l),some (.ref D),v])/\aP p H H2/\aX H2 p/\∃ys,H2 D=some (.lst ys)/\ys.Perm (xs.take i)) ⟨⟨_,rfl⟩,aP.of (aj hD),hp.same (aj hD),[],af,by simp⟩ (fun i σ H2 _ ⟨_,sm,_⟩=>aU.of (sm _ _ hl hlp)) ?_ ?_⟩
  .rintro i x σ H2 hx ⟨⟨v,rfl⟩,sm,p2,ys,jj,pm⟩;have hi:=(cI.mp hx).1;have hly:ys.length=i:=by rw[pm.length_eq,iF];lia
   refine⟨_,rfl,.inl ⟨rfl,_,aU.of jj⟩,_,rfl,_,rfl,D,ys,rfl,.inl (aU.of jj),_,_,rfl,rfl,p,_,rfl,by lia,by lia,p2,fun d a b d0 d1 a0 b0 b1=>?_⟩;refine⟨_,rfl,D,ys,d,d.toNat,x,rfl,rfl,by lia,by rw[ak np.symm];exact jj,by lia,by lia,?_⟩;refine⟨⟨_,rfl⟩,fun b' o e h=>?_,⟨a,b,by rw[ak np,af],a0,b0,b1⟩,_,af,?_⟩
   .rw[ak (ai e hD),ak h];exact sm _ _ e h
   .have e1:xs.take (i+1)=xs.take i++[x]:=by rw[gX,hx];rfl
    rw[e1];have e2:(ys.take d.toNat++[x]++ys.drop d.toNat).Perm (ys++[x]):=by
     have h1:(ys.take d.toNat++[x]++ys.drop d.toNat).Perm (ys.take d.toNat++(ys.drop d.toNat++[x])):=by
      rw[jP];exact List.Perm.append_left _ pj
     rw[<-jP,zo] at h1;exact h1
    exact e2.trans (pm.append_right [x])
  .rintro σ H2 ⟨⟨v,rfl⟩,sm,p2,ys,jj,pm⟩;rw[iY] at pm;exact⟨_,rfl,q D ys H2 pm sm p2 hD jj⟩
end
abbrev NV(js:List Nat):List V:=js.map fun (j:Nat)=>V.int j
def inn(g:Nat->List Nat)(n x:Nat):Nat:=(List.range n).countP fun o=>decide (x∈g o)
def hV(g:Nat->List Nat)(p:Nat×Nat):Nat->List Nat:=fun h=>if h=p.1 then g h++[p.2] else g h
theorem nE{g:Nat->List Nat}{a b:Nat}:hV g (a,b) a=g a++[b]:=by unfold hV;rw[aq rfl]
theorem jK{g:Nat->List Nat}{p:Nat×Nat}{h:Nat}(e:h≠p.1):hV g p h=g h:=by unfold hV;rw[ap e]
theorem ym{g:Nat->List Nat}{p:Nat×Nat}{x:Nat}:(hV g p x).length=(g x).length+(if p.1=x then 1 else 0):=by
 unfold hV;by_cases e:x=p.1
 .rw[aq e,aq e.symm,cu];rfl
 .rw[ap e,ap (fun z=>e z.symm)];lia
theorem B5{g:Nat->List Nat}{a b x:Nat}(hb:b∉g a):∀n,inn (hV g (a,b)) n x=inn g n x+(if a<n/\b=x then 1 else 0)
 |0=>by simp[inn]
 |n+1=>by
  have ih:=B5 (x:=x) hb n;unfold inn at ih |-;rw[fJ,zJ,zJ,ih];have e1:∀g:Nat->List Nat,List.countP (fun o=>decide (x∈g o)) [n]=if x∈g n then 1 else 0:=by
   intro g;rw[List.countP_singleton];simp
  rw[e1,e1];by_cases ha:a=n
  .subst ha;rw[nE];by_cases hx:b=x
   .subst hx;have i1:b∈g a++[b]:=bV.mpr (.inr (cH.mpr rfl));have i2:¬ (a<a/\b=b):=fun z=>absurd z.1 (jU _);have i3:a<a+1/\b=b:=⟨kl _,rfl⟩
    rw[ap hb,aq i1,ap i2,aq i3]
   .have h1:(x∈g a++[b])↔x∈g a:=by
     rw[bV,cH];exact⟨fun h=>h.elim id (fun z=>absurd z.symm hx),.inl⟩
    simp only[h1];have i2:¬ (a<a/\b=x):=fun z=>hx z.2;have i3:¬ (a<a+1/\b=x):=fun z=>hx z.2;simp only[ap i2,ap i3];lia
  .rw[jK (fun z=>ha z.symm)];have:(a<n/\b=x)↔(a<n+1/\b=x):=by lia
   simp only[this];lia
structure fE(n:Nat)(g:Nat->List Nat):Prop where
 nd:∀h,h<n->(g h).Nodup
 lt:∀h,h<n->∀o∈g h,o<n/\o≠h
 le:∀h,h<n->(g h).length<=8
 Jt:∀h,h<n->(g h).length=inn g n h
theorem LM:∀ (ps:List (Nat×Nat)) (g:Nat->List Nat) (n:Nat),(ps.map (·.1)).Nodup->(∀p∈ps,p.1<n/\p.2<n/\p.2≠p.1/\p.2∉g p.1/\(g p.1).length<8)->
  (∀h,h<n->(g h).Nodup)->(∀h,h<n->∀o∈g h,o<n/\o≠h)->(∀h,h<n->(g h).length<=8)->
  (∀h,h<n->(ps.foldl hV g h).Nodup)/\(∀h,h<n->∀o∈ps.foldl hV g h,o<n/\o≠h)/\(∀h,h<n->(ps.foldl hV g h).length<=8)/\
  (∀h,(ps.foldl hV g h).length=(g h).length+(ps.map (·.1)).count h)/\(∀h,inn (ps.foldl hV g) n h=inn g n h+(ps.map (·.2)).count h)/\(∀h,h∉ps.map (·.1)->ps.foldl hV g h=g h)
 |[],g,n,_,_,a,b,c=>⟨a,b,c,fun h=>by simp,fun h=>by simp,fun h _=>rfl⟩
 |(x,y)::ps,g,n,hn,hp,a,b,c=>by
  obtain⟨h1,h2,h3,h4,h5⟩:=hp (x,y) cA;dsimp only at h1 h2 h3 h4 h5;have hx:x∉ps.map (·.1):=(dQ.mp hn).1;have nx:∀p∈ps,p.1≠x:=fun p hp z=>hx (z ▸ zC hp);obtain⟨r1,r2,r3,r4,r5,r6⟩:=LM ps (hV g (x,y)) n (dQ.mp hn).2
   (fun p q=>by
    rw[jK (nx p q)];exact hp p (cN _ q))
   (fun h hh=>by
    by_cases e:h=x
    .subst e;rw[nE];exact lN.mpr ⟨a _ hh,(dQ.mpr ⟨(fun z=>nomatch z),jT⟩),fun u hu v hv z=>h4 (by rw[cH] at hv;rw[<-hv,<-z];exact hu)⟩
    .rw[jK e];exact a h hh)
   (fun h hh o ho=>by
    by_cases e:h=x
    .subst e;rw[nE] at ho;rcases bV.mp ho with q|q
     .exact b _ hh o q
     .rw[cH.mp q];exact⟨h2,h3⟩
    .rw[jK e] at ho;exact b h hh o ho)
   (fun h hh=>by
    by_cases e:h=x
    .subst e;rw[nE,cu];exact h5
    .rw[jK e];exact c h hh)
  refine⟨r1,r2,r3,fun h=>?_,fun h=>?_,fun h hh=>?_⟩
  .rw[jk,r4,ym,cM,zX];simp only[gZ];lia
  .rw[jk,r5,B5 h4,cM,zX];simp only[gZ];have:(x<n/\y=h)↔y=h:=⟨fun z=>z.2,fun z=>⟨h1,z⟩⟩
   simp only[this];lia
  .rw[jk,r6 h (fun z=>hh (cN _ z)),jK (fun z=>hh (by rw[z];exact cA))]
def qa(row:List Nat):List Nat:=row.getLast?.toList++row.dropLast
theorem ft{row:List Nat}:(qa row).Perm row:=by
 rcases nZ row with e|⟨l,x,e⟩
 .subst e;exact .refl _
 .subst e;rw[n5];unfold qa;rw[zw,zx];exact pj
def uC(row:List Nat):List (Nat×Nat):=List.zip (qa row) row
theorem nF{row:List Nat}:(uC row).map (·.1)=qa row:=by
 unfold uC;rw[<-List.unzip_fst,List.unzip_zip_left (by rw[ft.length_eq];exact bf _)]
theorem B6{row:List Nat}:(uC row).map (·.2)=row:=by
 unfold uC;rw[<-List.unzip_snd,List.unzip_zip_right (by rw[ft.length_eq];exact bf _)]
theorem wF{row:List Nat}:(uC row).length=row.length:=by unfold uC;rw[List.length_zip,ft.length_eq];exact Nat.min_self _
theorem F0{row:List Nat}{k:Nat}(h:k<row.length):fT (NV row) ((k:Int)-1)=some (.int ((qa row).getD k 0:Nat)):=by
 rcases nZ row with e|⟨l,x,e⟩
 .subst e;exact absurd h (by simp)
 .subst e;rw[n5] at h |-;have er:qa (l++[x])=x::l:=by unfold qa;rw[zw,zx];rfl
  rw[er];cases k with
  |zero=>
   have e2:NV (l++[x])=NV l++[.int x]:=by unfold NV;rw[bK];rfl
   rw[e2];exact kJ _ _
  |succ k=>
   have hk:k<l.length:=by rw[cu] at h;simp at h;lia
   have e2:(((k+1:Nat):Int)-1)=(k:Int):=by lia
   rw[e2];refine br ?_;rw[bp,iC hk,vc,bH,b9 hk];rfl
theorem wG{row:List Nat}{k:Nat}(h:k<row.length):(uC row)[k]?=some ((qa row).getD k 0,row.getD k 0):=by
 unfold uC;rw[Ei];have h2:k<(qa row).length:=by rw[ft.length_eq];exact h
 dsimp only;constructor
 .rw[bH,b9 h2];rfl
 .rw[bH,b9 h];rfl
theorem NP{row:List Nat}(hn:row.Nodup)(h2:2<=row.length):∀p∈uC row,p.2≠p.1:=by
 intro p hp e;obtain⟨k,hk⟩:=List.getElem?_of_mem hp;have W8:k<row.length:=by rw[<-wF];exact(cI.mp hk).1
 rw[wG W8] at hk;have HF:=ba hk;subst HF;dsimp only at e;rcases nZ row with z|⟨l,x,z⟩
 .subst z;exact absurd h2 (by decide)
 .subst z;rw[n5] at *;have er:qa (l++[x])=x::l:=by unfold qa;rw[zw,zx];rfl
  rw[er] at e;obtain⟨n1,n2,n3⟩:=lN.mp hn;rw[cu] at h2 W8;have hl:1<=l.length:=by simp at h2;lia
  cases k with
  |zero=>
   rw[List.getD_cons_zero,bH,iC (by lia),b9 (by lia)] at e;exact n3 _ (gv (h:=(by lia:0<l.length))) x (cH.mpr rfl) e
  |succ k=>
   have xU:k<l.length:=by simp at W8;lia
   rw[vc,bH,bH,b9 xU] at e;by_cases Fp:k+1<l.length
   .rw[iC Fp,b9 Fp] at e;have:=(uU.mp n1 |> fun h=>(tT.mp h) k (k+1) xU Fp (kl _)) (show l[k+1]=l[k] from e).symm;exact this.elim
   .have e3:k+1=l.length:=by lia
    rw[e3,mU (bf _),Nat.sub_self] at e;exact n3 _ (gv (h:=xU)) x (cH.mpr rfl) (show x=l[k] from e).symm
def gq(g:Nat->List Nat)(row:List Nat):Bool:=(uC row).all fun p=>decide (p.2∉g p.1)&&decide ((g p.1).length<8)
def fD(g:Nat->List Nat)(row:List Nat):Nat->List Nat:=if gq g row=true then (uC row).foldl hV g else g
theorem o9{g:Nat->List Nat}{row:List Nat}{n:Nat}(G:fE n g)(hn:row.Nodup)(h2:2<=row.length)(hl:∀x∈row,x<n):
  fE n (fD g row)/\(∀h,h∉row->fD g row h=g h)/\∀h,(fD g row h).length<=(g h).length+1:=by
 unfold fD;by_cases hc:gq g row=true
 .rw[aq hc];have Es:=ie.mp hc;have nr:(qa row).Nodup:=ft.nodup_iff.mpr hn;obtain⟨r1,r2,r3,r4,r5,r6⟩:=LM (uC row) g n (by rw[nF];exact nr) (fun p hp=>by
   have:=Es p hp;rw[cX,dP,dP] at this;refine⟨hl _ (ft.mem_iff.mp (by rw[<-nF];exact zC hp)),hl _ (by rw[<-B6 (row:=row)];exact zC hp),NP hn h2 p hp,this.1,this.2⟩) G.nd G.lt G.le
  refine⟨⟨r1,r2,r3,fun h hh=>?_⟩,fun h hh=>?_,fun h=>?_⟩
  .rw[r4,r5,nF,B6,ft.count_eq,G.Jt h hh]
  .refine r6 h (fun z=>hh ?_);rw[nF] at z;exact ft.mem_iff.mp z
  .rw[r4,nF];have:=List.nodup_iff_count.mp nr h;lia
 .rw[ap hc];exact⟨G,fun h _=>rfl,fun h=>by lia⟩
theorem yk{as:List Addr}{i:Nat}{x:V}(h:(as.map V.ref)[i]?=some x):i<as.length/\x=.ref (as.getD i 0):=by
 rw[bp] at h;cases e:as[i]? with
 |none=>rw[e] at h;cases h
 |some a=>
  rw[e] at h;refine⟨(cI.mp e).1,?_⟩;rw[bH,e];exact(ba h).symm
def aS(as:List Addr)(n:Nat):List (dS×V):=(List.range n).map fun (h:Nat)=>(Sum.inl (h:Int),V.ref (as.getD h 0))
theorem nG{as:List Addr}:∀ {n h:Nat},h<n->gg (aS as n) (.inl (h:Int))=some (.ref (as.getD h 0)):=by
 have no:∀n m:Nat,n<=m->gg (aS as n) (.inl (m:Int))=none:=by
  intro n;induction n with
  |zero=>intro m _;rfl
  |succ n ih=>
   intro m hm;unfold aS at ih |-;rw[fJ,bK,cM,ii,oT _ _ _ _ (ih n (bf _)),ap,ih m (by lia)];intro z;have:=mq z;lia
 intro n;induction n with
 |zero=>intro h hh;lia
 |succ n ih=>
  intro h hh;have e:aS as (n+1)=aS as n++[(.inl (n:Int),.ref (as.getD n 0))]:=by unfold aS;rw[fJ,bK];rfl
  rw[e,oT _ _ _ _ (no n n (bf _))];by_cases z:h=n
  .rw[aq (by rw[z]),z]
  .rw[ap (fun y=>z (by have:=mq y;lia)),ih (by lia)]
structure bb(H:Hp)(O:Addr)(as:List Addr)(n:Nat)(g:Nat->List Nat):Prop where
 dict:H O=some (.dK (aS as n))
 rows:Holds H as n (fun h=>.lst (NV (g h)))
 inj:∀i j,i<n->j<n->as.getD i 0=as.getD j 0->i=j
theorem bb.same{H H':Hp}{O:Addr}{as:List Addr}{n:Nat}{g:Nat->List Nat}(h:bb H O as n g)(s:aI H H'):bb H' O as n g:=⟨s _ _ h.dict,h.rows.mono fun j _ e=>s _ _ e,h.inj⟩
def tQ(as:List Addr)(n:Nat)(p:Addr):Prop:=∀h,h<n->p≠as.getD h 0
theorem bb.eE{H H':Hp}{O p:Addr}{as:List Addr}{n:Nat}{g:Nat->List Nat}(h:bb H O as n g)(s:aP p H H')(hp:aX H p)(f:tQ as n p):bb H' O as n g:=by
 obtain⟨a,b,e,_⟩:=hp;exact⟨s _ _ h.dict (cC h.dict e (by intro z;cases z)),h.rows.mono fun j hj x=>s _ _ x (f j hj).symm,h.inj⟩
def jb(as:List Addr)(n:Nat)(H H':Hp):Prop:=∀b o,H b=some o->tQ as n b->H' b=some o
theorem jb.of{as:List Addr}{n:Nat}{H H':Hp}(s:aI H H'):jb as n H H':=fun b o e _=>s b o e
theorem jb.trans{as:List Addr}{n:Nat}{H H1 H2:Hp}(a:jb as n H H1)(b:jb as n H1 H2):jb as n H H2:=fun c o e f=>b c o (a c o e f) f
theorem bb.off{H:Hp}{O b:Addr}{as:List Addr}{n:Nat}{g:Nat->List Nat}(h:bb H O as n g){o:HO}(e:H b=some o)(no:∀xs,o≠.lst xs):tQ as n b:=fun j hj=>cC e (h.rows.2 j hj) (no _)
theorem bb.AS{H:Hp}{O b:Addr}{as:List Addr}{n:Nat}{g:Nat->List Nat}(h:bb H O as n g)(e:H b=none):tQ as n b:=fun j hj=>(ai (h.rows.2 j hj) e).symm
theorem bb.get{H:Hp}{O:Addr}{as:List Addr}{n:Nat}{g:Nat->List Nat}(h:bb H O as n g){x:Nat}(hx:x<n):iT H O (.int x) (some (.ref (as.getD x 0))):=by
 have:=iT.k (k:=.inl (x:Int)) h.dict;rw[nG hx] at this;exact this
theorem bb.app{H:Hp}{O:Addr}{as:List Addr}{n:Nat}{g:Nat->List Nat}(h:bb H O as n g){x y:Nat}(hx:x<n):
  bb (upd H (as.getD x 0) (.lst (NV (g x)++[.int (y:Nat)]))) O as n (hV g (x,y))/\jb as n H (upd H (as.getD x 0) (.lst (NV (g x)++[.int (y:Nat)]))):=by
 refine⟨⟨?_,⟨h.rows.1,fun j hj=>?_⟩,h.inj⟩,fun b o e f=>by rw[ak (f x hx)];exact e⟩
 .rw[ak (cC h.dict (h.rows.2 x hx) (by intro z;cases z))];exact h.dict
 .by_cases e:j=x
  .subst e;rw[af];show _=some (HO.lst (NV (hV g (j,y) j)));rw[nE];unfold NV;rw[bK];rfl
  .rw[ak (fun z=>e (h.inj j x hj hx z))];show _=some (HO.lst (NV (hV g (x,y) j)));rw[jK (p:=(x,y)) e];exact h.rows.2 j hj
theorem qC{x:Nat}:∀ {js:List Nat},CV (.int x) (NV js)=decide (x∈js)
 |[]=>by simp[CV,NV]
 |j::js=>by
  have ih:=qC (x:=x) (js:=js);unfold CV NV at ih |-;rw[cM,kq,ih];have e:vO (.int (j:Int)) (.int (x:Int))=decide (x=j):=by
   show ((j:Int)==(x:Int))=_;by_cases z:x=j
   .subst z;simp
   .rw[dk z,lM];lia
  rw[e];by_cases z:x=j
  .subst z;simp
  .simp[z]
theorem sn{js:List Nat}:(NV js).all g8=true:=by
 rw[ie];intro v hv;obtain⟨j,_,rfl⟩:=bO.mp hv;rfl
theorem sr{js:List Nat}{k:Nat}(h:k<js.length):fT (NV js) (k:Int)=some (.int (js.getD k 0:Nat)):=by
 refine br ?_;rw[bp,b9 h,bH,b9 h];rfl
abbrev B7:Stmt:=gR 40
theorem W9:(["_law_k","_law_row"]:List Str).Nodup:=by decide +kernel
theorem LP:(["_law_house","_law_other","_law_outs"]:List Str).Nodup:=by decide +kernel
section
variable {P:Program} {w:World} {K:PySem.W.Frag} {mg:Str->Option Value} {base:Heap}
theorem wH:aJ ["_law_outs","_law_row","_law_pairs","_law_house","_law_other"] ["_law_outs","_law_row"] (am B7):=⟨rfl,rfl,rfl,by decide +kernel,rfl,by decide +kernel,by decide +kernel⟩
def AT:Sp:=fun vs H Q _=>∃ (O l:Addr) (as:List Addr) (n:Nat) (g:Nat->List Nat) (row:List Nat),vs=[.ref O,.ref l]/\bb H O as n g/\H l=some (.lst (NV row))/\tQ as n l/\(∀x∈row,x<n)/\row.length<=32/\(∀h,h<n->(g h).length<=8)/\
 ∀H',bb H' O as n (fD g row)->jb as n H H'->Q .bR H'
theorem yn:∀ (ps:List (Nat×Nat)) (g:Nat->List Nat) (h:Nat),(ps.foldl hV g h).length<=(g h).length+ps.length
 |[],_,_=>by simp
 |p::ps,g,h=>by
  have:=yn ps (hV g p) h;rw[ym] at this;rw[jk,cx];split at this <;> lia
theorem F1{row:List Nat}{n k:Nat}(hl:∀x∈row,x<n)(h:k<row.length):(qa row).getD k 0<n/\row.getD k 0<n:=by
 have h2:k<(qa row).length:=by rw[ft.length_eq];exact h
 constructor
 .rw[bH,b9 h2];exact hl _ (ft.mem_iff.mp (gv h2))
 .rw[bH,b9 h];exact hl _ (gv h)
def NQ(g:Nat->List Nat)(p:Nat×Nat):Bool:=decide (p.2∉g p.1)&&decide ((g p.1).length<8)
theorem JN{f:Addr}{fd:FuncData}(F:fW K "_law_joined" "_law_joined" B7 f fd)(B:Bl mg):bC P w K mg base bi 1 f fd ["_law_outs","_law_row"] AT:=by
 refine F.ok wH (fun vs H Q E h=>?_) (fun dE A outer s H vs Q E hr h=>?_)
 .obtain⟨O,l,as,n,g,row,rfl,_⟩:=h;rfl
 .obtain⟨O,l,as,n,g,row,rfl,hO,hl,ol,rl,rz,gz,q⟩:=h;have hu:(A.deeper (PyProof.Rows.envOfC "_law_joined" (am B7) s.heap.objs.size f dE)).units+1<cLine:=by have:=hr.un;lia
  refine'⟨_,ah (gc (i:=2) (g:=bo 0) (te:=tD (bx (iA (tG K) (aV 1) (iA (xp fun i j=>.int (i-j)) (aV 0) (tC (.int 1)))) (bx (iA (tG K) (aV 1) (aV 0)) hE))) (NB:=["_law_k","_law_row"]) (src:=[none,some 1]) (bY (by kernel_rfl)) rfl
    (cq rfl B.range (aa (av aE (by rfl) B.len cL (aa (pv 1) ag)) ag)) ?g ?t ?e wH.nd rfl rfl rfl)
   (al (bA (dA (av (uv rfl) (by rfl) B.all PyProof.Rows.boot_all (aa ?c2 ag)))
    (al (cT dR rfl (b_ (pv 2)) (fw (n:=2) rfl (a9 (au (i:=3) wH.nd rfl (Or.inl rfl)) (a9 (au (i:=4) wH.nd rfl (Or.inl rfl)) dZ)))
     (al (cg (im h_ j_ j8 dg (bQ hu (pv 0) (pv 3) (fun _ _=>rfl)) (aa (pv 4) ag))))))
    aR)),?_⟩
  case g=>exact fun cl C s₃ H₃ fp=>au (i:=0) W9 rfl (Or.inl rfl) (Or.inr rfl)
  case t=>exact fun cl C s₃ H₃ fp=>eQ
  case e=>exact fun cl C s₃ H₃ fp=>eJ (aa (az aA (pv 1) (a_ jA (pv 0) ao) (fun _ _=>rfl)) (aa (az aA (pv 1) (pv 0) (fun _ _=>rfl)) ag))
  case c2=>
   refine' cm (g:=rh K 2 (fq (bo 0) (fq (bo 1) rf))) (te:=Et (iA (Qz K true) (aV 1) (kN (aV 2) (aV 0))) (iA (xp fun i j=>.bl (decide (i<j))) (PD (fun xs H Q=>∃p ys,xs=[V.ref p]/\(aU K H p ys\/cK K H p ys)/\Q (.int ys.length) H) (bx (kN (aV 2) (aV 0)) hE)) (tC (.int 8)))) (NB:=["_law_house","_law_other","_law_outs"]) (src:=[none,none,some 0]) (bY (by kernel_rfl)) rfl
    (b_ (pv 2)) ?g ?t ?e
   case g=>exact fun cl C s₃ H₃ fp=>fw (n:=2) rfl (a9 (au (i:=0) LP rfl (Or.inl rfl) (Or.inr rfl)) (a9 (au (i:=1) LP rfl (Or.inl rfl) (Or.inr rfl)) dZ))
   case t=>exact fun cl C s₃ H₃ fp=>eQ
   case e=>exact fun cl C s₃ H₃ fp=>f_ (cy vQ (pv 1) (bQ hu (pv 2) (pv 0) (fun _ _=>rfl)) (by rfl)) (gO (cy pC (av aE (by rfl) B.len cL (aa (bQ hu (pv 2) (pv 0) (fun _ _=>rfl)) ag)) ao (aG _)))
  refine⟨_,rfl,l,NV row,rfl,.inl (aU.of hl),row.length,by rw[aF],by lia,by lia,fun D hD=>?_⟩;refine gf (n:=row.length) (lo:=0) (fun i ys σ H2=>(∃k,σ=[k,some (.ref l)])/\∃ts,ys=ts.map V.ref/\Holds H2 ts i (fun j=>.tup [.int ((qa row).getD j 0:Nat),.int (row.getD j 0:Nat)])/\aI H H2/\H2 D=some (.lst ys))
   ⟨⟨_,rfl⟩,[],rfl,Holds.nil,aj hD,af⟩ ?_ ?_
  .rintro i ys σ H2 Kt Kf hi ⟨⟨a,rfl⟩,ts,rfl,hh,sm,jj⟩ kt kf;have Us:=sm _ _ hl;refine⟨_,rfl,_,rfl,_,_,rfl,rfl,l,NV row,_,_,rfl,rfl,aU.of Us,by rw[gL];exact F0 hi,_,rfl,_,rfl,l,NV row,_,_,rfl,rfl,aU.of Us,by rw[gL];exact sr hi,by show 2<=sizeLine;decide,fun t ht=>?_⟩;have RL:D≠t:=ai jj ht;refine kt _ _ _ (by rw[ak RL];exact jj) (by rw[aF,hh.1];exact bT hi (bj rz (by decide))) ⟨⟨_,rfl⟩,ts++[t],by rw[bK];rfl,?_,?_,af⟩
   .refine Holds.snoc (hh.mono fun j hj e=>?_) (by rw[ak RL.symm,af]);rw[ak (cC e jj (by intro z;cases z)),ak (ai e ht)];exact e
   .intro b o e;rw[ak (ai e hD),ak (ai (sm _ _ e) ht)];exact sm _ _ e
  .rintro ys σ H2 ⟨_,ts,rfl,hh,sm,jj⟩;have W_:=hO.same sm;have od:tQ as n D:=hO.AS hD;have ot:∀j,j<row.length->tQ as n (ts.getD j 0):=fun j hj=>W_.off (hh.2 j hj) (by intro xs z;cases z);refine⟨_,rfl,D,rfl,⟨_,aU.of jj⟩,fun D2 sv=>?_⟩;refine eG (xs:=ts.map V.ref) (fun i ys σ H3=>(∃a b,σ=[a,b,some (.ref O)])/\ys=(((uC row).take i).map (NQ g)).map V.bl/\H3=upd H2 D2 (.lst ys))
    ⟨⟨_,_,rfl⟩,rfl,rfl⟩ (fun i ys σ H3 _ ⟨_,_,e⟩=>by rw[e];exact aU.of (by rw[ak (ai jj sv)];exact jj)) ?_ ?_
   .rintro i x ys σ H3 Kt Kf hx ⟨⟨a,b,rfl⟩,tj,rfl⟩ kt kf;obtain⟨hi,rfl⟩:=yk hx;rw[hh.1] at hi;have nt:=ai (hh.2 i hi) sv;have yo:=W_.same (aj (o:=.lst ys) sv);obtain⟨HQ,lt2⟩:=F1 rl hi;refine⟨_,_,rfl,cK.of (by rw[ak nt];exact hh.2 i hi),rfl,_,_,rfl,_,_,rfl,rfl,?_⟩;refine⟨_,rfl,_,rfl,_,rfl,O,_,rfl,yo.get HQ,_,_,rfl,.inl (aU.of (yo.rows.2 _ HQ)),rfl,sn,_,rfl,?_⟩;have hz:ys.length<sizeLine:=by
     rw[tj,aF,aF,iF];exact bT (gu (Nat.min_le_left _ _) hi) (bj rz (by decide))
    have step:∀c:Bool,NQ g ((qa row).getD i 0,row.getD i 0)=c->ys++[.bl c]=(((uC row).take (i+1)).map (NQ g)).map V.bl:=by
     intro c e;rw[gX,wG hi,tj,<-e];simp
    have fin:∀c:Bool,NQ g ((qa row).getD i 0,row.getD i 0)=c->Kt (.bl c) [some (.int ((qa row).getD i 0:Nat)),some (.int (row.getD i 0:Nat)),some (.ref O)] (upd H2 D2 (.lst ys)):=fun c e=>
     kt _ _ _ af hz ⟨⟨_,_,rfl⟩,step c e,fu⟩
    have iv:(!CV (.int (row.getD i 0:Nat)) (NV (g ((qa row).getD i 0))))=decide (row.getD i 0∉g ((qa row).getD i 0)):=by rw[qC];simp
    refine bW (fun e=>?_) (fun e=>?_)
    .have e':(!CV (.int (row.getD i 0:Nat)) (NV (g ((qa row).getD i 0))))=true:=e;rw[iv] at e';refine⟨_,rfl,_,rfl,O,_,rfl,yo.get HQ,_,_,rfl,.inl (aU.of (yo.rows.2 _ HQ)),_,_,rfl,rfl,fin _ ?_⟩;unfold NQ;dsimp only;rw[e',jq];show _=decide (((NV (g ((qa row).getD i 0))).length:Int)<8);rw[aF];exact qT.mpr (by lia)
    .have e':¬ (!CV (.int (row.getD i 0:Nat)) (NV (g ((qa row).getD i 0))))=true:=e;rw[iv] at e';refine fin _ ?_;unfold NQ;dsimp only;rw[qS.mpr e',mi]
   .rintro ys σ H3 ⟨_,tj,rfl⟩;rw[aF,hh.1,<-wF,iY] at tj;have yo:=W_.same (aj (o:=.lst ys) sv);refine⟨D2,_,rfl,aU.of (by rw[af,tj]),_,rfl,?_⟩;have hc:((uC row).map (NQ g)).all id=gq g row:=by
     rw[List.all_map];rfl
    refine bW (fun e=>?_) (fun e=>?_)
    .have cj:gq g row=true:=by rw[<-hc];exact e
     have s3:aI H (upd H2 D2 (.lst ys)):=sm.trans (aj sv);refine⟨_,rfl,D,rfl,⟨_,aU.of (aj sv _ _ jj)⟩,ij (K:=K) (a:=D) (xs:=ts.map V.ref) (fun i σ H4=>(∃u v,σ=[some (.ref O),some (.ref l),some (.ref D),u,v])/\bb H4 O as n (((uC row).take i).foldl hV g)/\jb as n (upd H2 D2 (.lst ys)) H4) ⟨⟨_,_,rfl⟩,yo,jb.of (aI.refl _)⟩ (fun i σ H4 _ ⟨_,_,so⟩=>aU.of (so _ _ (aj sv _ _ jj) od)) ?_ ?_⟩
     .rintro i x σ H4 hx ⟨⟨u,v,rfl⟩,o4,so⟩;obtain⟨hi,rfl⟩:=yk hx;rw[hh.1] at hi;obtain⟨HQ,lt2⟩:=F1 rl hi;refine⟨_,_,rfl,cK.of (so _ _ (aj sv _ _ (hh.2 i hi)) (ot i hi)),rfl,_,_,rfl,_,_,rfl,rfl,?_⟩;refine⟨_,rfl,_,rfl,O,_,rfl,o4.get HQ,.inl ⟨rfl,_,aU.of (o4.rows.2 _ HQ)⟩,_,rfl,_,_,_,rfl,rfl,o4.rows.2 _ HQ,?_,?_⟩
      .rw[aF];have h1:=yn ((uC row).take i) g ((qa row).getD i 0);have h2:=gz _ HQ;have h3:((uC row).take i).length<=32:=by rw[iF];exact bj (Nat.min_le_left _ _) (by lia)
       exact bT (show _<41 by lia) (by decide)
      .obtain⟨p1,p2⟩:=o4.app (y:=row.getD i 0) HQ;refine⟨⟨_,_,rfl⟩,?_,so.trans p2⟩;rw[gX,wG hi];rw[zI,List.foldl_append];exact p1
     .rintro σ H4 ⟨_,o4,so⟩;rw[aF,hh.1,<-wF,iY] at o4;refine q H4 ?_ ((jb.of s3).trans so);unfold fD;rw[aq cj];exact o4
    .have cj:¬ gq g row=true:=by rw[<-hc];exact e
     refine q _ ?_ (jb.of (sm.trans (aj sv)));unfold fD;rw[ap cj];exact yo
end
def lw:List (Int×Int)->TA
 |[]=>hE
 |p::ps=>bx (tD (bx (tC (.int p.1)) (bx (tC (.int p.2)) hE))) (lw ps)
theorem F2:∀ (ps:List (Int×Int)) (σ:St) (H:Hp) (Q:List V->Hp->Prop),(∀ts H',aI H H'->Holds H' ts ps.length (fun j=>.tup [.int (ps.getD j (0,0)).1,.int (ps.getD j (0,0)).2])->Q (ts.map V.ref) H')->lw ps σ H Q
 |[],σ,H,Q,q=>q [] H (aI.refl _) Holds.nil
 |p::ps,σ,H,Q,q=>by
  refine⟨by show 2<=sizeLine;decide,fun t ht=>F2 ps σ _ _ fun ts H' sm hh=>?_⟩;refine q (t::ts) H' ((aj ht).trans sm) ⟨by rw[cx,hh.1,cx],fun j hj=>?_⟩;cases j with
  |zero=>exact sm _ _ af
  |succ j=>exact hh.2 j (by rw[cx] at hj;lia)
def RM:List (Int×Int):=[(1,2),(2,2),(3,2),(4,2),(1,3),(2,3),(1,4),(2,4),(1,5)]
def nI:List (Nat×Nat):=[(1,2),(2,2),(3,2),(4,2),(1,3),(2,3),(1,4),(2,4),(1,5)]
def sw(b h j:Nat):List Nat:=((List.range b).filter fun o=>decide (o≠h / b ^ j % b)).map fun o=>h+o*b ^ j-h / b ^ j % b*b ^ j
def pP(f b h:Nat):List Nat:=(List.range f).flatMap (sw b h)
def LQ(n:Nat)(g:Nat->List Nat):Bool:=(List.range n).all fun h=>decide (g h).Nodup&&((g h).all fun o=>decide (o<n/\o≠h))&&decide ((g h).length<=8)&&decide ((g h).length=inn g n h)
theorem JO{n:Nat}{g:Nat->List Nat}(e:LQ n g=true):fE n g:=by
 have all:∀h,h<n->(((g h).Nodup/\(∀o∈g h,o<n/\o≠h))/\(g h).length<=8)/\(g h).length=inn g n h:=by
  intro h hh;have:=ie.mp e h (bu.mpr hh);rw[cX,cX,cX,dP,dP,dP,ie] at this;exact⟨⟨⟨this.1.1.1,fun o ho=>bU (this.1.1.2 o ho)⟩,this.1.2⟩,this.2⟩
 exact⟨fun h hh=>(all h hh).1.1.1,fun h hh=>(all h hh).1.1.2,fun h hh=>(all h hh).1.2,fun h hh=>(all h hh).2⟩
theorem LU:∀p∈nI,fE (p.2 ^ p.1) (pP p.1 p.2)/\2<=p.2 ^ p.1/\p.2 ^ p.1<=32/\1<=p.1/\p.1<=4/\2<=p.2/\p.2<=5:=by
 have e:(nI.all fun p=>LQ (p.2 ^ p.1) (pP p.1 p.2)&&decide (2<=p.2 ^ p.1/\p.2 ^ p.1<=32/\1<=p.1/\p.1<=4/\2<=p.2/\p.2<=5))=true:=by decide +kernel
 intro p hp;have:=ie.mp e p hp;rw[cX,dP] at this;exact⟨JO this.1,this.2⟩
def y4(b k:Nat):List Nat:=(List.range (k+1)).map fun j=>b ^ j
theorem F5{b k:Nat}:y4 b (k+1)=y4 b k++[b ^ (k+1)]:=by unfold y4;rw[fJ,bK];rfl
theorem yp{b k:Nat}:fT (NV (y4 b k)) (-1)=some (.int (b ^ k:Nat)):=by
 have e:NV (y4 b k)=NV ((List.range k).map fun j=>b ^ j)++[.int (b ^ k:Nat)]:=by unfold y4 NV;rw[fJ,bK,bK];rfl
 rw[e];exact kJ _ _
theorem JP{b k:Nat}:tE (NV (y4 b k)) none (some (-1))=NV ((List.range k).map fun j=>b ^ j):=by
 have e:NV (y4 b k)=NV ((List.range k).map fun j=>b ^ j)++[.int (b ^ k:Nat)]:=by unfold y4 NV;rw[fJ,bK,bK];rfl
 have hl:(NV (y4 b k)).length=k+1:=by rw[e];simp
 unfold tE;have h1:HT.qr (k+1) 0 none=0:=rfl;have h2:HT.qr (k+1) (k+1) (some (-1))=k:=by
  unfold HT.qr;simp;try lia
 rw[hl,h1,h2,qZ,vv,e,List.take_append_of_le_length (by simp)];rw[qL (by simp)]
theorem F6{b f j:Nat}(hb:2<=b)(h:j<=f)(h32:b ^ f<=32):b ^ j<=32/\1<=b ^ j:=⟨bj (Nat.pow_le_pow_right (by lia) h) h32,Nat.one_le_pow _ _ (by lia)⟩
theorem Xa{b h o p:Nat}:(((h+o*p-h / p % b*p:Nat)):Int)=(h:Int)+((o:Int)-((h:Int) / (p:Int) % (b:Int)))*(p:Int):=by
 have h1:h / p % b*p<=h:=bj (Nat.mul_le_mul_right _ (Nat.mod_le _ _)) (Nat.div_mul_le_self _ _);rw[Int.ofNat_sub (by lia),Int.sub_mul,Int.natCast_add,zY,zY,vg,zS];lia
theorem yq{as:List Addr}{t:Addr}{n:Nat}(h:as.length=n):aS (as++[t]) (n+1)=aS as n++[(.inl (n:Int),.ref t)]:=by
 unfold aS;rw[fJ,bK,cM,ii,bD h,aq rfl];congr 1;refine kg fun i hi=>?_;rw[bD h,ap (by have:=bu.mp hi;lia)]
theorem uD{as:List Addr}{n m:Nat}(h:n<=m):gg (aS as n) (.inl (m:Int))=none:=by
 cases e:gg (aS as n) (.inl (m:Int)) with
 |none=>rfl
 |some v=>
  have:=Je e;unfold aS at this;rw[fV] at this;obtain⟨i,hi,z⟩:=bO.mp this;have:=bu.mp hi;have:=mq z;lia
def sB(g:Nat->List Nat)(x:Nat)(ys:List Nat):Nat->List Nat:=fun h=>if h=x then ys else g h
theorem iL{g:Nat->List Nat}{x:Nat}{ys:List Nat}:sB g x ys x=ys:=by unfold sB;rw[aq rfl]
theorem jL{g:Nat->List Nat}{x h:Nat}{ys:List Nat}(e:h≠x):sB g x ys h=g h:=by unfold sB;rw[ap e]
theorem bb.put{H:Hp}{O:Addr}{as:List Addr}{n:Nat}{g:Nat->List Nat}(h:bb H O as n g){x:Nat}{ys:List Nat}(hx:x<n):bb (upd H (as.getD x 0) (.lst (NV ys))) O as n (sB g x ys):=by
 refine⟨?_,⟨h.rows.1,fun j hj=>?_⟩,h.inj⟩
 .rw[ak (cC h.dict (h.rows.2 x hx) (by intro z;cases z))];exact h.dict
 .by_cases e:j=x
  .subst e;rw[af];show _=some (HO.lst (NV (sB g j ys j)));rw[iL]
  .rw[ak (fun z=>e (h.inj j x hj hx z))];show _=some (HO.lst (NV (sB g x ys j)));rw[jL e];exact h.rows.2 j hj
theorem bb.NR{H:Hp}{O:Addr}{as:List Addr}{n:Nat}{g g':Nat->List Nat}(h:bb H O as n g)(e:∀x,x<n->g' x=g x):bb H O as n g':=by
 refine⟨h.dict,⟨h.rows.1,fun j hj=>?_⟩,h.inj⟩;show _=some (HO.lst (NV (g' j)));rw[e j hj];exact h.rows.2 j hj
theorem bb.push{H:Hp}{O t:Addr}{as:List Addr}{n:Nat}{g:Nat->List Nat}{ys:List Nat}(h:bb H O as n g)(ht:H t=some (.lst (NV ys)))(off:tQ as n t):
  bb (upd H O (.dK (fN (aS as n) (.inl (n:Int)) (.ref t)))) O (as++[t]) (n+1) (sB g n ys):=by
 have tO:t≠O:=cC ht h.dict (by intro z;cases z);have eO:∀j,j<n->as.getD j 0≠O:=fun j hj=>cC (h.rows.2 j hj) h.dict (by intro z;cases z);refine⟨by rw[af,nu _ (uD (bf _)),yq h.rows.1],⟨by rw[cu,h.rows.1];rfl,fun j hj=>?_⟩,fun i j hi hj e=>?_⟩
 .rw[bD h.rows.1];show _=some (HO.lst (NV (sB g n ys j)));by_cases e:j=n
  .rw[aq e,e,iL,ak tO];exact ht
  .rw[ap e,jL e,ak (eO j (by lia))];exact h.rows.2 j (by lia)
 .rw[bD h.rows.1,bD h.rows.1] at e;by_cases ei:i=n <;> by_cases ej:j=n
  .lia
  .rw[aq ei,ap ej] at e;exact absurd e (off j (by lia))
  .rw[ap ei,aq ej] at e;exact absurd e.symm (off i (by lia))
  .rw[ap ei,ap ej] at e;exact h.inj i j (by lia) (by lia) e
theorem dJ{p c:Addr}{H H2:Hp}{o:HO}(s:aP p H H2)(h:H c=none):aP p H (upd H2 c o):=fun b u e n=>by rw[ak (ai e h)];exact s b u e n
inductive Rc (g:Nat->List Nat):Nat->Nat->Prop where
 |refl (a:Nat):Rc g a a
 |step {a b c:Nat} (h:Rc g a b) (t:c∈g b):Rc g a c
theorem Rc.trans{g:Nat->List Nat}{a b:Nat}(h:Rc g a b):∀ {c:Nat},Rc g b c->Rc g a c:=by
 intro c k;induction k with
 |refl=>exact h
 |step _ t ih=>exact .step ih t
theorem Rc.mono{g g':Nat->List Nat}(m:∀a,∀o∈g a,o∈g' a){a b:Nat}(h:Rc g a b):Rc g' a b:=by
 induction h with
 |refl=>exact .refl _
 |step _ t ih=>exact .step ih (m _ _ t)
theorem Rc.one{g:Nat->List Nat}{a b:Nat}(h:b∈g a):Rc g a b:=.step (.refl _) h
def B8(n:Nat)(g:Nat->List Nat):Prop:=∀a b,a<n->b<n->Rc g a b
theorem B8.mono{n:Nat}{g g':Nat->List Nat}(h:B8 n g)(m:∀a,a<n->∀o∈g a,o∈g' a)(lt:∀a,a<n->∀o∈g a,o<n):B8 n g':=by
 intro a b ha hb;have h1:∀ {c:Nat},Rc g a c->Rc g' a c/\c<n:=by
  intro c k;induction k with
  |refl=>exact⟨.refl _,ha⟩
  |step _ t ih=>exact⟨.step ih.1 (m _ ih.2 _ t),lt _ ih.2 _ t⟩
 exact(h1 (h a b ha hb)).1
theorem sC{o h:Nat}:∀ (ps:List (Nat×Nat)) (g:Nat->List Nat),o∈ps.foldl hV g h↔o∈g h\/(h,o)∈ps
 |[],g=>by simp
 |p::ps,g=>by
  rw[jk,sC ps,bZ];have:o∈hV g p h↔o∈g h\/(h,o)=p:=by
   unfold hV;by_cases e:h=p.1
   .rw[aq e,bV,cH];constructor
    .rintro(z|z)
     .exact .inl z
     .exact .inr (by rw[e,z])
    .rintro(z|z)
     .exact .inl z
     .exact .inr (by rw[<-z])
   .rw[ap e];constructor
    .exact .inl
    .rintro(z|z)
     .exact z
     .exact absurd (by rw[<-z]) e
  rw[this,or_assoc]
theorem uE{g:Nat->List Nat}{row:List Nat}:∀a,∀o∈g a,o∈fD g row a:=by
 intro a o ho;unfold fD;split
 .exact(sC _ _).mpr (.inl ho)
 .exact ho
theorem sG{g:Nat->List Nat}{row:List Nat}(hc:gq g row=true){h o:Nat}(hp:(h,o)∈uC row):o∈fD g row h:=by
 unfold fD;rw[aq hc];exact(sC _ _).mpr (.inr hp)
theorem F7{row:List Nat}{k:Nat}(h:k<row.length):(qa row).getD k 0=row.getD (if k=0 then row.length-1 else k-1) 0:=by
 have:=F0 h;rcases Nat.eq_zero_or_pos k with e|e
 .subst e;have hl:fT (NV row) ((0:Nat)-1:Int)=some (.int (row.getD (row.length-1) 0:Nat)):=by
   rcases nZ row with z|⟨l,x,z⟩
   .subst z;exact absurd h (by simp)
   .subst z;rw[n5];have:NV (l++[x])=NV l++[.int (x:Nat)]:=by unfold NV;rw[bK];rfl
    rw[this];have e1:((0:Nat)-1:Int)=-1:=rfl;rw[e1,kJ];have:(l++[x]).getD ((l++[x]).length-1) 0=x:=by
     rw[cu,zq,Nat.add_sub_cancel,bH,mU (bf _)];simp
    rw[this]
  rw[hl] at this;have z:=V.int.inj (ba this);rw[aq rfl];lia
 .have e1:((k:Nat):Int)-1=((k-1:Nat):Int):=by lia
  rw[e1] at this;have h2:fT (NV row) ((k-1:Nat):Int)=some (.int (row.getD (k-1) 0:Nat)):=by
   refine br ?_;rw[bp,bH,b9 (by lia)];rfl
  rw[h2] at this;have z:=V.int.inj (ba this);rw[ap (by lia)];lia
theorem F8{n:Nat}{row:List Nat}(hn:row.Nodup)(h2:2<=row.length)(pm:row.Perm (List.range n)):B8 n (fD (fun _=>[]) row):=by
 have hc:gq (fun _=>[]) row=true:=by
  unfold gq;rw[ie];intro p _;simp
 have RN:∀k,k<row.length->row.getD k 0∈fD (fun _=>[]) row (row.getD (if k=0 then row.length-1 else k-1) 0):=fun k hk=>by
  refine sG hc ?_;rw[<-F7 hk];exact eB (wG hk)
 have up:∀d i,i+d<row.length->Rc (fD (fun _=>[]) row) (row.getD i 0) (row.getD (i+d) 0):=by
  intro d;induction d with
  |zero=>intro i _;exact .refl _
  |succ d ih=>
   intro i hi;refine .step (ih i (by lia)) ?_;have:=RN (i+(d+1)) hi;rw[ap (by lia)] at this;exact this
 intro a b ha hb;obtain⟨i,hi,rfl⟩:∃i,i<row.length/\row.getD i 0=a:=by
  obtain⟨i,hi,e⟩:=lL.mp (pm.mem_iff.mpr (bu.mpr ha));exact⟨i,hi,by rw[bH,b9 hi];exact e⟩
 obtain⟨j,hj,rfl⟩:∃i,i<row.length/\row.getD i 0=b:=by
  obtain⟨i,hi,e⟩:=lL.mp (pm.mem_iff.mpr (bu.mpr hb));exact⟨i,hi,by rw[bH,b9 hi];exact e⟩
 have h1:=up (row.length-1-i) i (by lia);rw[show i+(row.length-1-i)=row.length-1 by lia] at h1;have h3:=up j 0 (by lia);rw[oe] at h3;have e0:=RN 0 (by lia);rw[aq rfl] at e0;exact(Rc.step h1 e0).trans h3
def F9(names:List Nat)(k:Nat)(g:Nat->List Nat):Prop:=∀a∈names.take k,∀b∈names.take k,Rc g a b
theorem F_{names:List Nat}{g:Nat->List Nat}:F9 names 1 g:=by
 intro a ha b hb;cases names with
 |nil=>cases ha
 |cons x xs=>
  rw[List.take_succ_cons,List.take_zero,cH] at ha hb;rw[ha,hb];exact .refl _
theorem Ga{g:Nat->List Nat}{n v:Nat}(h:inn g n v=0){s:Nat}(hs:s<n):v∉g s:=by
 unfold inn at h;rw[zF] at h;intro z;exact h s (bu.mpr hs) (bE z)
theorem DD{names:List Nat}{n i s:Nat}{g:Nat->List Nat}(G:fE n g)(HU:∀x∈names,x<n)(hi:i+1<names.length)(U:F9 names (i+1) g)(hs:s∈names.take (i+1))(hv:g (names.getD (i+1) 0)=[])(hl:(g s).length<8):F9 names (i+2) (fD g [names.getD (i+1) 0,s]):=by
 have PV:names.getD (i+1) 0∈names:=by rw[bH,b9 hi];exact gv _
 have hsn:s<n:=HU s (pr hs);have vn:names.getD (i+1) 0∉g s:=Ga (by rw[<-G.Jt _ (HU _ PV),hv];rfl) hsn;have hp:uC [names.getD (i+1) 0,s]=[(s,names.getD (i+1) 0),(names.getD (i+1) 0,s)]:=rfl;have hc:gq g [names.getD (i+1) 0,s]=true:=by
  unfold gq;rw[hp];simp only[ku,List.all_nil,Bool.and_true,cX,l7];refine⟨⟨vn,hl⟩,?_,?_⟩
  .rw[hv];simp
  .rw[hv];decide
 have e1:names.getD (i+1) 0∈fD g [names.getD (i+1) 0,s] s:=sG hc (by rw[hp];simp);have e2:s∈fD g [names.getD (i+1) 0,s] (names.getD (i+1) 0):=sG hc (by rw[hp];simp);have tk:names.take (i+2)=names.take (i+1)++[names.getD (i+1) 0]:=by
  rw[gX,b9 hi,bH,b9 hi];rfl
 have old:∀a∈names.take (i+1),∀b∈names.take (i+1),Rc (fD g [names.getD (i+1) 0,s]) a b:=fun a ha b hb=>(U a ha b hb).mono uE;intro a ha b hb;rw[tk] at ha hb;rcases bV.mp ha with ha|ha
 .rcases bV.mp hb with hb|hb
  .exact old a ha b hb
  .rw[cH.mp hb];exact .step (old a ha s hs) e1
 .rw[cH.mp ha];rcases bV.mp hb with hb|hb
  .exact(Rc.one e2).trans (old s hs b hb)
  .rw[cH.mp hb];exact .refl _
theorem Gb{names:List Nat}{n:Nat}{g:Nat->List Nat}(pm:names.Perm (List.range n))(U:F9 names n g):B8 n g:=by
 have e:names.take n=names:=qL (by rw[pm.length_eq,dD];exact bf _);intro a b ha hb;refine U a ?_ b ?_ <;> rw[e] <;> exact pm.mem_iff.mpr (bu.mpr (by assumption))
def Xb(n:Nat)(g:Nat->List Nat)(S:List Nat):List Nat:=(List.range n).filter fun x=>S.contains x||S.any fun y=>(g y).contains x
def Gc(n:Nat)(g:Nat->List Nat):Nat->List Nat
 |0=>[0]
 |k+1=>Xb n g (Gc n g k)
theorem wI{n:Nat}{g:Nat->List Nat}:∀k,∀x∈Gc n g k,Rc g 0 x
 |0,x,h=>by rw[cH.mp h];exact .refl _
 |k+1,x,h=>by
  have:=(cf.mp h).2;rw[Bool.or_eq_true] at this;rcases this with z|z
  .exact wI k x (u4.mp z)
  .obtain⟨y,hy,e⟩:=zR.mp z;exact .step (wI k y hy) (u4.mp e)
def RP(n:Nat)(g:Nat->List Nat):Bool:=(List.range n).all fun h=>(g h).all fun o=>decide (o<n)&&(g o).contains h
def NS(n:Nat)(g:Nat->List Nat):Bool:=RP n g&&(List.range n).all fun x=>(Gc n g 4).contains x
theorem JQ{n:Nat}{g:Nat->List Nat}(s:RP n g=true){a b:Nat}(ha:a<n)(h:Rc g a b):b<n/\Rc g b a:=by
 induction h with
 |refl=>exact⟨ha,.refl _⟩
 |step _ t ih=>
  have:=ie.mp (ie.mp s _ (bu.mpr ih.1)) _ t;rw[cX,l7] at this;exact⟨this.1,(Rc.one (u4.mp this.2)).trans ih.2⟩
theorem NU{n:Nat}{g:Nat->List Nat}(h0:0<n)(h:NS n g=true):B8 n g:=by
 unfold NS at h;rw[cX] at h;have h1:∀x,x<n->Rc g 0 x:=fun x hx=>wI 4 x (u4.mp (ie.mp h.2 x (bu.mpr hx)));exact fun a b ha hb=>(JQ h.1 h0 (h1 a ha)).2.trans (h1 b hb)
theorem Xd:∀p∈nI,B8 (p.2 ^ p.1) (pP p.1 p.2):=by
 have e:(nI.all fun p=>NS (p.2 ^ p.1) (pP p.1 p.2))=true:=by decide +kernel
 intro p hp;exact NU (bT (by decide) (LU p hp).2.1) (ie.mp e p hp)
theorem NW{es l:List Expr}{k:Nat}{pos:Pos}{env:Env}:starEach (.Tuple es k pos::l) env=(false,eval (.Tuple es k pos) env)::starEach l env:=by rfl
def Xe:Expr->Option (Int×Int)
 |.Tuple [.Constant (.int a) _ _,.Constant (.int b) _ _] _ _=>some (a,b)
 |_=>none
def UO:List Expr->Option (List (Int×Int))
 |[]=>some []
 |e::es=>match Xe e,UO es with
  |some p,some ps=>some (p::ps)
  |_,_=>none
theorem NX{e:Expr}{a b:Int}(h:Xe e=some (a,b)):∃j p k q x r,e=.Tuple [.Constant (.int a) j p,.Constant (.int b) k q] x r:=by
 unfold Xe at h;split at h
 .cases h;exact⟨_,_,_,_,_,_,rfl⟩
 .cases h
theorem Ge{X:Cx}:∀ {es:List Expr} {ps:List (Int×Int)},UO es=some ps->PA X es (lw ps)
 |[],ps,h=>by
  cases h;exact ag
 |e::es,ps,h=>by
  unfold UO at h;split at h
  .rename_i p ps' h1 h2;cases h;obtain⟨a,b⟩:=p;obtain⟨j,p,k,q,x,r,rfl⟩:=NX h1;exact aa (eJ (aa ao (aa ao ag))) (Ge h2) NW
  .cases h
theorem Gf{X:Cx}{es:List Expr}{t:TA}{i:Expr}{ti:TE}{p pos:Pos}(h:PA X es t)(hi:PE X i ti)(hs:vM i):PE X (.Subscript (.List es p) i pos) (iA (tG X.K) (Aj t) ti):=az aA (cZ h) hi hs
theorem NY{X:Cx}{es:List Expr}{ps:List (Int×Int)}{i:Expr}{ti:TE}{p pos:Pos}(h:UO es=some ps)(hi:PE X i ti)(hs:vM i):PE X (.Subscript (.List es p) i pos) (iA (tG X.K) (Aj (lw ps)) ti):=az aA (cZ (Ge h)) hi hs
theorem JR:∀j,j<9->RM.getD j (0,0)=(((nI.getD j (0,0)).1:Int),((nI.getD j (0,0)).2:Int))/\nI.getD j (0,0)∈nI:=by decide +kernel
theorem DE{ps:List (Int×Int)}{r:R2}{tb:TE}{g:TG}{u:TS}{D:vz}{σ:St}{H:Hp}(h:∀ts H1,aI H H1->Holds H1 ts ps.length (fun j=>.tup [.int (ps.getD j (0,0)).1,.int (ps.getD j (0,0)).2])->((ts.map V.ref).length<=sizeLine/\∀L,H1 L=none->tb σ (upd H1 L (.lst (ts.map V.ref))) fun y H2=>r (.ref L) y H2 fun x H3=>g x σ H3 fun σ' H'=>u D σ' H')):
  Mw (CK (iA r (Aj (lw ps)) tb) g) u D σ H:=by
 unfold Mw CK iA Aj;exact F2 ps _ _ _ h
theorem yr{b h j:Nat}:(sw b h j).length<=b:=by
 unfold sw;rw[aF];have:=jN (fun o=>decide (o≠h / b ^ j % b)) (List.range b);rw[dD] at this;exact this
theorem uF{b h:Nat}:∀j,((List.range j).flatMap (sw b h)).length<=j*b
 |0=>by simp
 |j+1=>by
  have ih:=uF (b:=b) (h:=h) j;have h1:=yr (b:=b) (h:=h) (j:=j);rw[fJ,zD,cu,Nat.succ_mul];have e:(List.flatMap (sw b h) [j]).length=(sw b h j).length:=by simp
  lia
abbrev wJ:Stmt:=gR 41
theorem nbW:(["_law_other","_law_house","_law_digit","_law_power"]:List Str).Nodup:=by decide +kernel
section
variable {P:Program} {w:World} {K:PySem.W.Frag} {mg:Str->Option Value} {base:Heap}
theorem hW:aJ ["_law_pot_here","_law_figures","_law_base","_law_powers","_law_k","_law_outs","_law_house","_law_power","_law_digit"] ["_law_pot_here"] (am wJ):=⟨rfl,rfl,rfl,by decide +kernel,rfl,by decide +kernel,by decide +kernel⟩
def sH(H H':Hp)(O:Addr)(as:List Addr)(n:Nat)(g:Nat->List Nat):Prop:=fE n g/\2<=n/\n<=32/\bb H' O as n g/\H O=none/\(∀h,h<n->H (as.getD h 0)=none)/\B8 n g
def uG:Sp:=fun vs H Q _=>∃ (p:Addr),vs=[.ref p]/\aX H p/\∀ (O:Addr) (as:List Addr) (n:Nat) (g:Nat->List Nat) (H':Hp),sH H H' O as n g->aP p H H'->aX H' p->Q (.ref O) H'
theorem Gg{f:Addr}{fd:FuncData}(F:fW K "_law_words" "_law_words" wJ f fd)(B:Bl mg)(T:cE P w K mg base bi 1 "_law_take" ["_law_pot_here","_law_many"] jJ):bC P w K mg base bi 2 f fd ["_law_pot_here"] uG:=by
 refine F.ok hW (fun vs H Q E h=>?_) (fun dE A outer s H vs Q E hr h=>?_)
 .obtain⟨p,rfl,_⟩:=h;rfl
 .obtain⟨p,rfl,hp,q⟩:=h;have hu:(A.deeper (PyProof.Rows.envOfC "_law_words" (am wJ) s.heap.objs.size f dE)).units+1<cLine:=by have:=hr.un;lia
  refine'⟨_,ah (t:=CK (iA (tG K) (Aj (lw RM)) (pD jJ [] E0 (bx (aV 0) (bx (tC (.int 9)) hE)))) (rh K 2 (fq (bo 1) (fq (bo 2) rf)))) ?a ?b,?_⟩;case a=>
   refine' iR ?x ?g ?z1 ?z2 ?z3;case x=>
    refine' NY ?y1 ?y2 ?y3;case y1=>kernel_rfl
    case y2=>exact aB T hr aM (aa (pv 0) (aa ao ag))
    case y3=>exact fun _ _=>rfl
   case g=>exact fw (n:=2) rfl (a9 (au (i:=1) hW.nd rfl (Or.inl rfl)) (a9 (au (i:=2) hW.nd rfl (Or.inl rfl)) dZ))
   case z1=>rfl
   case z2=>rfl
   case z3=>rfl
  case b=>
   refine'(ah (aK (i:=3) hW.nd rfl (Or.inl rfl) (cZ (aa ao ag)))
   (ah (cT dR rfl (cq rfl B.range (aa (pv 1) ag)) (au (i:=4) hW.nd rfl (Or.inl rfl))
    (al (cg (im h_ j_ j8 dg (pv 3) (aa (a_ ik (az aA (pv 3) (jV gQ ao) (fun _ _=>rfl)) (pv 2)) ag)))))
   (ah (aK (i:=5) hW.nd rfl (Or.inl rfl) xR)
   (ah (cT dR rfl (cq rfl B.range (aa (az aA (pv 3) (jV gQ ao) (fun _ _=>rfl)) ag)) (au (i:=6) hW.nd rfl (Or.inr rfl))
    (ah (nw hu (pv 5) (pv 6) (cZ ag) rfl)
    (al (cT dR rfl (b_ (kI m8 (pv 3) m6 (m7 (jV gQ ao)))) (au (i:=7) hW.nd rfl (Or.inr rfl))
     (ah (aK (i:=8) hW.nd rfl (Or.inr rfl) (a_ gP (a_ vG (pv 6) (pv 7)) (pv 2)))
     (al (cg (im h_ Ek Ej ud (bQ hu (pv 5) (pv 6) (fun _ _=>rfl)) (aa ?c ag)))))))))
   (al (aH (pv 5)))))))
   case c=>
    refine' cm (g:=bo 0) (tt:=jW (iA ZV (aV 0) (aV 2))) (te:=iA (xp fun i j=>.int (i+j)) (aV 1) (iA (rI EC fun i j=>.int (i*j)) (iA (xp fun i j=>.int (i-j)) (aV 0) (aV 2)) (aV 3))) (NB:=["_law_other","_law_house","_law_digit","_law_power"]) (src:=[none,some 6,some 8,some 7]) (bY (by kernel_rfl)) rfl
     (cq rfl B.range (aa (pv 2) ag)) ?g ?t ?e
    case g=>exact fun cl C s₃ H₃ fp=>au (i:=0) nbW rfl (Or.inl rfl) (Or.inr rfl)
    case t=>exact fun cl C s₃ H₃ fp=>eR (aL m4 (pv 0) (pv 2) (aG _))
    case e=>exact fun cl C s₃ H₃ fp=>a_ cY (pv 1) (a_ ik (a_ jA (pv 0) (pv 2)) (pv 3))
  refine DE fun ts H1 RQ pL=>⟨by rw[aF,pL.1];show 9<=sizeLine;decide,fun L hL=>?_⟩
  have s1:aI H (upd H1 L (.lst (ts.map V.ref))):=RQ.trans (aj hL);refine⟨_,rfl,p,9,rfl,by decide,by decide,hp.same s1,fun d a b d0 d1 a0 b0 b1=>?_⟩;have hH1:H L=none:=RQ.free hL;have Xf:p≠L:=by obtain⟨_,_,e,_⟩:=hp;exact ai e hH1
  have hd:d.toNat<ts.length:=by rw[pL.1];show d.toNat<9;lia
  obtain⟨w1,w2⟩:=JR d.toNat (by lia);obtain⟨gG,g1,g2,g3,g4,g5,g6⟩:=LU _ w2;have gC:=Xd _ w2;generalize hfb:nI.getD d.toNat (0,0)=fb at *;obtain⟨fg,bs⟩:=fb;dsimp only at w1 gG gC g1 g2 g3 g4 g5 g6;have ht:=pL.2 d.toNat (by show d.toNat<9;lia);dsimp only at ht;rw[w1] at ht;dsimp only at ht;have npt:ts.getD d.toNat 0≠p:=by
   obtain⟨x,y,e,_⟩:=hp;exact cC ht (RQ _ _ e) (by intro z;cases z)
  refine⟨L,ts.map V.ref,d,.ref (ts.getD d.toNat 0),rfl,rfl,aU.of (by rw[ak Xf.symm,af]),?_,?_⟩
  .have:=br (xs:=ts.map V.ref) (j:=d.toNat) (v:=.ref (ts.getD d.toNat 0)) (by rw[bp,b9 hd,bH,b9 hd];rfl);rw[zG d0] at this;exact this
  refine⟨_,_,rfl,cK.of (by rw[ak npt,ak (ai ht hL)];exact ht),rfl,_,_,rfl,_,_,rfl,rfl,?_⟩;refine⟨by show 1<=sizeLine;decide,fun Pw UP=>?_⟩;have se0:aP p H (upd (upd (upd H1 L (.lst (ts.map V.ref))) p (.lst [.int a,.int b])) Pw (.lst [.int 1])):=by
   intro c o e n;have e1:(upd (upd H1 L (.lst (ts.map V.ref))) p (.lst [.int a,.int b])) c=some o:=by rw[ak n];exact s1 _ _ e
   rw[ak (ai e1 UP)];exact e1
  have Xg:p≠Pw:=ai af UP;have po0:aX (upd (upd (upd H1 L (.lst (ts.map V.ref))) p (.lst [.int a,.int b])) Pw (.lst [.int 1])) p:=⟨a,b,by rw[ak Xg,af],a0,b0,b1⟩
  have hPH:H Pw=none:=by
   cases z:H Pw with
   |none=>rfl
   |some o=>
    have e1:(upd (upd H1 L (.lst (ts.map V.ref))) p (.lst [.int a,.int b])) Pw=some o:=by rw[ak Xg.symm];exact s1 _ _ z
    rw[e1] at UP;cases UP
  refine⟨_,rfl,fg,rfl,by lia,by lia,df (n:=fg) (lo:=0) (fun i σ H2=>(∃v,σ=[some (.ref p),some (.int fg),some (.int bs),some (.ref Pw),v,none,none,none,none])/\aP p H H2/\aX H2 p/\H2 Pw=some (.lst (NV (y4 bs i)))) ⟨⟨_,rfl⟩,se0,po0,af⟩ ?_ ?_⟩
  .rintro i σ H2 hi ⟨⟨v,rfl⟩,se,po,hw⟩;obtain⟨pl,pg⟩:=F6 (j:=i) g5 (by lia) g2;refine⟨_,rfl,.inl ⟨rfl,_,aU.of hw⟩,_,rfl,_,rfl,Pw,_,_,_,rfl,rfl,aU.of hw,yp,_,rfl,_,_,rfl,rfl,.inl ⟨by lia,by lia⟩,Pw,_,_,rfl,rfl,hw,?_,?_⟩
   .rw[aF];unfold y4;rw[aF,dD];exact bT (show i+1<6 by lia) (by decide)
   .refine⟨⟨_,rfl⟩,dJ se hPH,?_,?_⟩
    .obtain⟨x,y,e,r⟩:=po;exact⟨x,y,by rw[ak Xg];exact e,r⟩
    .rw[af,F5];unfold NV;rw[bK,Nat.pow_succ,cM,ii,zY]
  .rintro σ H2 ⟨⟨kk,rfl⟩,se,po,hw⟩ O hO;have RS:H O=none:=se.free (by obtain⟨x,y,e,_⟩:=po;rw[e];intro z;cases z) hO;have Xh:p≠O:=by obtain⟨x,y,e,_⟩:=po;exact ai e hO
   have Xi:Pw≠O:=ai hw hO;obtain⟨N,hN⟩:∃N,N=bs ^ fg:=⟨_,rfl⟩
   have RT:fT (NV (y4 bs fg)) (-1)=some (.int (N:Nat)):=by rw[hN];exact yp
   have WI:=g2;rw[<-hN] at g1 g2 gG gC;refine⟨_,rfl,_,rfl,Pw,_,_,_,rfl,rfl,aU.of (by rw[ak Xi];exact hw),RT,N,rfl,by lia,by lia,df (n:=N) (lo:=0) (fun i σ H3=>(∃v6 v7 v8,σ=[some (.ref p),some (.int fg),some (.int bs),some (.ref Pw),kk,some (.ref O),v6,v7,v8])/\∃as,bb H3 O as i (pP fg bs)/\aP p H H3/\aX H3 p/\H3 Pw=some (.lst (NV (y4 bs fg)))/\(∀h,h<i->H (as.getD h 0)=none)/\tQ as i Pw)
    ⟨⟨_,_,_,rfl⟩,[],⟨show upd H2 O (.dK []) O=some (.dK (aS [] 0)) from af,Holds.nil,fun i j hi=>absurd hi (by lia)⟩,dJ se RS,po.same (aj hO),by rw[ak Xi];exact hw,fun h hh=>absurd hh (by lia),fun h hh=>absurd hh (by lia)⟩ ?_ ?_⟩
   .rintro i σ H3 hi ⟨⟨v6,v7,v8,rfl⟩,as,ho,Gh,xa,Xj,fr,ofw⟩;have e0:(0:Int)+(i:Int)=i:=gL _;rw[e0];refine⟨by show 0<=sizeLine;decide,fun t ht=>?_⟩;have htH:H t=none:=Gh.free (by obtain⟨x,y,e,_⟩:=xa;rw[e];intro z;cases z) ht;have oft:tQ as i t:=ho.AS ht;have ho4:=ho.same (aj (o:=.lst []) ht);have ho5:=ho4.push (ys:=[]) af oft;have Xk:p≠t:=by obtain⟨x,y,e,_⟩:=xa;exact ai e ht
    have nPt:Pw≠t:=ai Xj ht;have HW:aX (upd (upd H3 t (.lst [])) O (.dK (fN (aS as i) (.inl (i:Int)) (.ref t)))) p:=by
     obtain⟨x,y,e,r⟩:=xa;exact⟨x,y,by rw[ak Xh,ak Xk];exact e,r⟩
    refine⟨_,rfl,_,rfl,O,_,rfl,rG.k (k:=.inl (i:Int)) ho4.dict (by unfold aS;rw[aF,dD];exact bT (show i<32 by lia) (by decide)),?_⟩;have hw5:(upd (upd H3 t (.lst [])) O (.dK (fN (aS as i) (.inl (i:Int)) (.ref t)))) Pw=some (.lst (NV (y4 bs fg))):=by rw[ak Xi,ak nPt];exact Xj
    refine⟨_,rfl,_,rfl,_,rfl,Pw,_,rfl,aU.of hw5,fun S hS=>?_⟩;rw[JP];have RU:∀h,h<i+1->H ((as++[t]).getD h 0)=none:=fun h hh=>by
     rw[bD ho.rows.1];by_cases e:h=i
     .rw[aq e];exact htH
     .rw[ap e];exact fr h (by lia)
    have RV:tQ (as++[t]) (i+1) Pw:=fun h hh=>by
     rw[bD ho.rows.1];by_cases e:h=i
     .rw[aq e];exact nPt
     .rw[ap e];exact ofw h (by lia)
    have Xl:tQ (as++[t]) (i+1) p:=fun h hh z=>by
     have:=RU h hh;rw[<-z] at this;obtain⟨x,y,e,_⟩:=hp;rw[e] at this;cases this
    have PZ:aP p H (upd (upd H3 t (.lst [])) O (.dK (fN (aS as i) (.inl (i:Int)) (.ref t)))):=dJ (dJ Gh htH) RS;have hSH:H S=none:=PZ.free (by obtain⟨x,y,e,_⟩:=HW;rw[e];intro z;cases z) hS;have ofS:tQ (as++[t]) (i+1) S:=ho5.AS hS;refine⟨S,rfl,⟨_,aU.of af⟩,ij (K:=K) (a:=S) (xs:=NV ((List.range fg).map fun j=>bs ^ j)) (fun j σ H4=>(∃v7 v8,σ=[some (.ref p),some (.int fg),some (.int bs),some (.ref Pw),kk,some (.ref O),some (.int (i:Int)),v7,v8])/\bb H4 O (as++[t]) (i+1) (sB (pP fg bs) i ((List.range j).flatMap (sw bs i)))/\aP p H H4/\aX H4 p/\H4 Pw=some (.lst (NV (y4 bs fg)))/\H4 S=some (.lst (NV ((List.range fg).map fun j=>bs ^ j))))
     ⟨⟨_,_,rfl⟩,ho5.same (aj hS),dJ PZ hSH,HW.same (aj hS),aj hS _ _ hw5,af⟩ (fun j σ H4 _ ⟨_,_,_,_,_,z⟩=>aU.of z) ?_ ?_⟩
    .rintro j x σ H4 hx ⟨⟨v7,v8,rfl⟩,o4,NZ,DY,UQ,hS4⟩;rw[bp] at hx;have hj:j<fg:=by
      cases z:((List.range fg).map fun j=>bs ^ j)[j]? with
      |none=>rw[z] at hx;cases hx
      |some y=>have:=(cI.mp z).1;rw[aF,dD] at this;exact this
     have hxe:x=.int ((bs ^ j:Nat):Int):=by
      rw[bp,kh hj] at hx;exact(ba hx).symm
     subst hxe;obtain⟨pl,pg⟩:=F6 (j:=j) g5 (by lia) WI;obtain⟨pw,hpw⟩:∃pw,pw=bs ^ j:=⟨_,rfl⟩
     rw[<-hpw] at pl pg |-;have hdg:((i:Int) / (pw:Int)) % (bs:Int)=((i / pw % bs:Nat):Int):=by rw[vg,zS]
     refine⟨_,rfl,_,rfl,_,_,rfl,rfl,⟨by lia,by lia⟩,_,rfl,_,_,rfl,rfl,by lia,?_⟩;change bo 8 (V.int ((i:Int) / (pw:Int) % (bs:Int))) _ H4 _;rw[hdg];have dL:i<i+1:=kl _;refine⟨_,rfl,_,rfl,O,_,rfl,o4.get dL,.inl ⟨rfl,_,aU.of (o4.rows.2 _ dL)⟩,_,rfl,bs,rfl,by lia,by lia,fun D hD=>?_⟩;refine gf (n:=bs) (lo:=0) (fun k ys σ H5=>(∃o,σ=[o,some (.int (i:Int)),some (.int ((i / pw % bs:Nat):Int)),some (.int (pw:Int))])/\ys=NV (((List.range k).filter fun o=>decide (o≠i / pw % bs)).map fun o=>i+o*pw-i / pw % bs*pw)/\H5=upd H4 D (.lst ys)) ⟨⟨_,rfl⟩,rfl,rfl⟩ ?_ ?_
     .rintro k ys σ H5 Kt Kf hk ⟨⟨o,rfl⟩,tj,rfl⟩ kt kf;have e2:(0:Int)+(k:Int)=k:=gL _;rw[e2];refine⟨_,rfl,_,rfl,rfl,_,rfl,?_⟩;have dgl:i / pw % bs<bs:=vy _ (by lia);have hz:ys.length<sizeLine:=by
       rw[tj,aF,aF];have:=jN (fun o=>decide (o≠i / pw % bs)) (List.range k);rw[dD] at this;exact bT (show _<6 by lia) (by decide)
      refine bW (fun e=>?_) (fun e=>?_)
      .have ji:k≠i / pw % bs:=by
        intro z;rw[<-z] at e;simp at e
       refine⟨_,rfl,_,rfl,_,rfl,_,_,rfl,rfl,_,rfl,_,_,rfl,rfl,.inl ⟨by lia,by lia⟩,_,_,rfl,rfl,?_⟩;refine kt _ _ _ af hz ⟨⟨_,rfl⟩,?_,fu⟩;rw[fJ,ic,tj];have e4:[k].filter (fun o=>decide (o≠i / pw % bs))=[k]:=by rw[iZ,aq (by simpa using ji)];rfl
       rw[e4,bK];unfold NV;rw[bK,cM,ii,cM,ii,Xa,vg,zS]
      .have heq:k=i / pw % bs:=by
        by_cases z:k=i / pw % bs
        .exact z
        .exfalso;apply e;have:¬ (V.int (k:Int)=V.int ((i / pw % bs:Nat):Int)):=fun y=>z (by have:=V.int.inj y;lia);simp only[dk this];rfl
       refine kf _ _ ⟨⟨_,rfl⟩,?_,rfl⟩;rw[fJ,ic,tj];have e4:[k].filter (fun o=>decide (o≠i / pw % bs))=[]:=by rw[iZ,ap (by simpa using heq)];rfl
       rw[e4,kn]
     .rintro ys σ H5 ⟨_,tj,rfl⟩;have RW:ys=NV (sw bs i j):=by rw[tj];unfold sw;rw[hpw]
      have ofD:tQ (as++[t]) (i+1) D:=o4.AS hD;have o5:=o4.same (aj (o:=.lst ys) hD);refine⟨_,D,_,_,rfl,rfl,o5.rows.2 _ dL,af,?_,?_⟩
      .rw[aF,iL,RW,aF];have h1:=uF (b:=bs) (h:=i) j;have h2:=yr (b:=bs) (h:=i) (j:=j);have h3:j*bs<=4*5:=Nat.mul_le_mul (by lia) g6;exact bj (show _<=25 by lia) (by decide)
      .have e6:NV (sB (pP fg bs) i ((List.range j).flatMap (sw bs i)) i)++ys=NV ((List.range (j+1)).flatMap (sw bs i)):=by
        rw[iL,RW,fJ,zD];unfold NV;rw[bK];simp
       rw[e6];have UR:H D=none:=NZ.free (by obtain⟨x,y,e,_⟩:=DY;rw[e];intro z;cases z) hD;have nSD:S≠D:=ai hS4 hD;have nPD:Pw≠D:=ai UQ hD;have npD:p≠D:=by obtain⟨x,y,e,_⟩:=DY;exact ai e hD
       refine⟨⟨_,_,rfl⟩,(o5.put dL).NR fun x hx=>?_,dJ (dJ NZ UR) (RU i dL),?_,?_,?_⟩
       .by_cases e:x=i
        .rw[e,iL,iL]
        .rw[jL e,jL e,jL e]
       .obtain⟨x,y,e,r⟩:=DY;exact⟨x,y,by rw[ak (Xl i dL),ak npD];exact e,r⟩
       .rw[ak (RV i dL),ak nPD];exact UQ
       .rw[ak (ofS i dL),ak nSD];exact hS4
    .rintro σ H4 ⟨⟨v7,v8,rfl⟩,o4,NZ,DY,UQ,_⟩;rw[aF,aF,dD] at o4;refine⟨⟨_,_,_,rfl⟩,as++[t],o4.NR fun x hx=>?_,NZ,DY,UQ,RU,RV⟩;by_cases e:x=i
     .rw[e,iL];rfl
     .rw[jL e]
   .rintro σ H3 ⟨⟨v6,v7,v8,rfl⟩,as,ho,Gh,xa,Xj,fr,_⟩;exact⟨_,rfl,q O as N (pP fg bs) H3 ⟨gG,g1,g2,ho,RS,fr,gC⟩ Gh xa⟩
end
abbrev Gi:Stmt:=gR 42
theorem Xm:(["_law_house"]:List Str).Nodup:=by decide +kernel
theorem Xn:(["_law_house","_law_outs"]:List Str).Nodup:=by decide +kernel
def JS:V->Nat
 |.int i=>i.toNat
 |_=>0
theorem wK{ys:List V}{xs:List Nat}(h:ys.Perm (NV xs)):∃zs:List Nat,ys=NV zs/\zs.Perm xs:=by
 refine⟨ys.map JS,?_,?_⟩
 .unfold NV;rw[fV];have:∀v∈ys,((fun (j:Nat)=>V.int j) ∘ JS) v=v:=by
   intro v hv;obtain⟨j,_,rfl⟩:=bO.mp (h.mem_iff.mp hv);show V.int (((j:Int).toNat:Nat):Int)=_;rw[cW]
  conv=>lhs;rw[<-kB ys]
  exact kg fun v hv=>(this v hv).symm
 .have:=h.map JS;unfold NV at this;rw[fV] at this;have e:xs.map (JS ∘ fun (j:Nat)=>V.int j)=xs:=by
   conv=>rhs;rw[<-kB xs]
   exact kg fun j _=>cW j
  rw[e] at this;exact this
theorem sH.up{H G H':Hp}{p O:Addr}{as:List Addr}{n:Nat}{g:Nat->List Nat}(h:sH G H' O as n g)(s:aP p H G)(hp:G p≠none):sH H H' O as n g:=
 ⟨h.1,h.2.1,h.2.2.1,h.2.2.2.1,s.free hp h.2.2.2.2.1,fun x hx=>s.free hp (h.2.2.2.2.2.1 x hx),h.2.2.2.2.2.2⟩
theorem aX.some{H:Hp}{p:Addr}(h:aX H p):H p≠none:=by obtain⟨a,b,e,_⟩:=h;rw[e];intro z;cases z
theorem mO{as:List Addr}:∀n,jD [] (aS as n)=aS as n
 |0=>rfl
 |n+1=>by
  have e:aS as (n+1)=aS as n++[(.inl (n:Int),.ref (as.getD n 0))]:=by unfold aS;rw[fJ,bK];rfl
  have ih:=mO (as:=as) n;rw[e];unfold jD at ih |-;rw[List.foldl_append,ih];exact nu _ (uD (bf _))
theorem DG{n:Nat}:fE n (fun _=>[]):=⟨fun _ _=>jT,fun _ _ o ho=>(nomatch ho),fun _ _=>by simp,fun h _=>by
 unfold inn;symm;rw[qX,zF];intro o _;simp⟩
theorem RX{c:Prop}[Decidable c]{A:Prop}{C:Hp->Prop}{H0:Hp}(G:Hp->Prop)(hC:∀Hc,G Hc->C Hc)(h1:c->(∀Hc,G Hc->C Hc)->A)(h2:¬ c->G H0):if c then A else C H0:=by
 by_cases h:c
 .rw[aq h];exact h1 h hC
 .rw[ap h];exact hC _ (h2 h)
theorem yt{js:List Nat}{k:Nat}:tE (NV js) none (some (k:Int))=NV (js.take k):=by
 have h1:HT.qr (NV js).length 0 none=0:=rfl;have h2:HT.qr (NV js).length (NV js).length (some (k:Int))=min k js.length:=by
  unfold HT.qr;simp;try lia
 unfold tE;rw[h1,h2,qZ,vv];unfold NV;rw[List.map_take,List.take_eq_take_iff];simp;try lia
theorem nJ{js:List Nat}{k:Nat}(h:k<js.length):js.getD k 0∈js:=by rw[bH,b9 h];exact gv h
theorem qD{js:List Nat}{k:Nat}(h:k<js.length):js.getD k 0=js[k]:=by rw[bH,b9 h];rfl
theorem Gj{js:List Nat}(nn:js.Nodup){x y:Nat}(hx:x<js.length)(hy:y<js.length)(e:js.getD x 0=js.getD y 0):x=y:=by
 rw[qD hx,qD hy] at e;have:=tT.mp (uU.mp nn);rcases Nat.lt_trichotomy x y with z|z|z
 .exact absurd e (this x y hx hy z)
 .exact z
 .exact absurd e.symm (this y x hy hx z)
theorem lV{js:List Nat}{k a:Nat}(h:a∈js.take k):∃x,x<k/\x<js.length/\js.getD x 0=a:=by
 obtain⟨x,hx,e⟩:=Eh.mp h;exact⟨x,by lia,by lia,by rw[qD (by lia)];exact e⟩
section
variable {P:Program} {w:World} {K:PySem.W.Frag} {mg:Str->Option Value} {base:Heap}
theorem nK:aJ ["_law_pot_here","_law_way","_law_many","_law_names","_law_outs","_law_k","_law_some","_law_turn","_law_wide"] ["_law_pot_here"] (am Gi):=⟨rfl,rfl,rfl,by decide +kernel,rfl,by decide +kernel,by decide +kernel⟩
theorem N0{f:Addr}{fd:FuncData}(F:fW K "_law_net" "_law_net" Gi f fd)(B:Bl mg)(T:cE P w K mg base bi 1 "_law_take" ["_law_pot_here","_law_many"] jJ)(SH:cE P w K mg base bi 2 "_law_shuffled" ["_law_pot_here","_law_some"] (wE K))(J:cE P w K mg base bi 1 "_law_joined" ["_law_outs","_law_row"] AT)(W:cE P w K mg base bi 2 "_law_words" ["_law_pot_here"] uG):bC P w K mg base bi 3 f fd ["_law_pot_here"] uG:=by
 refine F.ok nK (fun vs H Q E h=>?_) (fun dE A outer s H vs Q E hr h=>?_)
 .obtain⟨p,rfl,_⟩:=h;rfl
 .obtain⟨p,rfl,hp,q⟩:=h;have hu:(A.deeper (PyProof.Rows.envOfC "_law_net" (am Gi) s.heap.objs.size f dE)).units+1<cLine:=by have:=hr.un;lia
  have DC:cD 1 (A.deeper (PyProof.Rows.envOfC "_law_net" (am Gi) s.heap.objs.size f dE)):=hr.mono (by decide);refine'⟨_,ah (aK (i:=1) nK.nd rfl (Or.inl rfl) (aB T DC aM (aa (pv 0) (aa ao ag))))
   (ah (bA (aL eN (pv 1) ao (aG _)) (al (aH (aB W hr aM (aa (pv 0) ag)))) aR)
   (ah (aK (i:=2) nK.nd rfl (Or.inl rfl) (a_ cY ao (aB T DC aM (aa (pv 0) (aa ao ag)))))
   (ah (aK (i:=3) nK.nd rfl (Or.inl rfl) (aB SH hr aM (aa (pv 0) (aa (cr (Ax rfl) (by rfl) B.lst uX (aa (cr xL (by rfl) B.range PyProof.Rows.boot_range (aa (pv 2) ag)) ag)) ag))))
   (ah (aK (i:=4) nK.nd rfl (Or.inr rfl) (cr (rQ rfl) (by rfl) B.dict PyProof.Rows.boot_dict (aa ?c1 ag)))
   (ah (bA (aL eN (pv 1) ao (aG _)) (al (cg (aB J DC aM (aa (pv 4) (aa (pv 3) ag))))) aR)
   (ah (cT dR rfl (oG rfl B.range (aa ao (aa (a_ ik (pv 2) (cr h9 (by rfl) B.int mV (aa (cy rq (pv 1) ao (aG _)) ag))) ag))) (au (i:=5) nK.nd rfl (Or.inl rfl))
    (ah (gc (i:=6) (g:=bo 0) (tt:=jW (iA (xp fun i j=>.bl (decide (i<j))) (PD (fun xs H Q=>∃p ys,xs=[V.ref p]/\(aU K H p ys\/cK K H p ys)/\Q (.int ys.length) H) (bx (kN (aV 1) (aV 0)) hE)) (tC (.int 8)))) (te:=aV 0) (NB:=["_law_house","_law_outs"]) (src:=[none,some 4]) (bY (by kernel_rfl)) rfl (b_ (kI m8 (pv 3) m6 (m7 (pv 5)))) ?g2 ?t2 ?e2 nK.nd rfl rfl rfl)
    (al (cg (aB J DC aM (aa (pv 4) (aa (cZ (aa (az aA (pv 3) (pv 5) (fun _ _=>rfl)) (aa (az aA (pv 6) (aB T DC aM (aa (pv 0) (aa (av aE (by rfl) B.len cL (aa (pv 6) ag)) ag))) (fun _ _=>rfl)) ag))) ag)))))))
   (ah (cT dR rfl (cq rfl B.range (aa (aB T DC aM (aa (pv 0) (aa ao ag))) ag)) (au (i:=7) nK.nd rfl (Or.inl rfl))
    (ah (aK (i:=8) nK.nd rfl (Or.inl rfl) (a_ cY ao (a_ ik (aB T DC aM (aa (pv 0) (aa ao ag))) (cr h9 (by rfl) B.int mV (aa (cy eN (pv 1) ao (aG _)) ag)))))
    (al (cg (aB J DC aM (aa (pv 4) (aa (kI m8 (aB SH hr aM (aa (pv 0) (aa (pv 3) ag))) m6 (m7 (pv 8))) ag)))))))
   (al (aH (pv 4)))))))))),?_⟩
  case c1=>
   refine' cm (g:=bo 0) (te:=tD (bx (aV 0) (bx (Aj hE) hE))) (NB:=["_law_house"]) (src:=[none]) (bY (by kernel_rfl)) rfl
    (cq rfl B.range (aa (pv 2) ag)) ?g ?t ?e
   case g=>exact fun cl C s₃ H₃ fp=>au (i:=0) Xm rfl (Or.inl rfl) (Or.inr rfl)
   case t=>exact fun cl C s₃ H₃ fp=>eQ
   case e=>exact fun cl C s₃ H₃ fp=>eJ (aa (pv 0) (aa (cZ ag) ag))
  case g2=>exact fun cl C s₃ H₃ fp=>au (i:=0) Xn rfl (Or.inl rfl) (Or.inr rfl)
  case t2=>exact fun cl C s₃ H₃ fp=>eR (aL pC (av aE (by rfl) B.len cL (aa (bQ hu (pv 1) (pv 0) (fun _ _=>rfl)) ag)) ao (aG _))
  case e2=>exact fun cl C s₃ H₃ fp=>pv 0
  refine⟨_,rfl,p,4,rfl,by decide,by decide,hp,fun pQ a b y0 y1 a0 b0 b1=>?_⟩;have Gk:aX (upd H p (.lst [.int a,.int b])) p:=aX.upd a0 b0 b1;have P0:aP p H (upd H p (.lst [.int a,.int b])):=aP.upd;refine⟨_,rfl,rfl,_,rfl,?_⟩;refine bW (fun e=>?_) (fun e=>?_)
  .exact⟨_,rfl,p,rfl,Gk,fun O as n g H' nn se po=>q O as n g H' (nn.up P0 Gk.some) (P0.trans se) po⟩
  .refine⟨_,rfl,p,19,rfl,by decide,by decide,Gk,fun mm a2 b2 m0 m1 c0 c1 c2=>⟨_,_,rfl,rfl,?_⟩⟩;rw[fu];have y6:aX (upd H p (.lst [.int a2,.int b2])) p:=aX.upd c0 c1 c2;have Gm:aP p H (upd H p (.lst [.int a2,.int b2])):=aP.upd;obtain⟨n,hn⟩:∃n:Nat,(n:Int)=2+mm:=⟨(2+mm).toNat,by lia⟩
   change bo 2 (V.int (2+mm)) _ _ _;rw[<-hn];refine⟨_,rfl,_,rfl,n,rfl,fun R hR=>⟨R,n,rfl,af,by lia,fun L hL=>?_⟩⟩;have NH:aI (upd H p (.lst [.int a2,.int b2])) (upd (upd (upd H p (.lst [.int a2,.int b2])) R (.Ii 0 n)) L (.lst ((List.range n).map fun (i:Nat)=>V.int i))):=(aj hR).trans (aj hL);have Xf:p≠L:=by obtain⟨_,_,e,_⟩:=y6;exact ai ((aj hR) _ _ e) hL
   refine⟨p,L,_,rfl,y6.same NH,af,Xf.symm,by rw[aF,dD];lia,fun nm ys H3 pm Gh xa hn3 hy3=>?_⟩;obtain⟨names,rfl,pn⟩:=wK (xs:=List.range n) pm;have nl:names.length=n:=by rw[pn.length_eq,dD]
   have nn:names.Nodup:=pn.nodup_iff.mpr l_;have HU:∀x∈names,x<n:=fun x hx=>bu.mp (pn.mem_iff.mp hx);have Xo:aP p H H3:=Gm.trans ((aP.of NH).trans Gh);refine⟨_,rfl,n,rfl,by lia,by lia,fun D hD=>?_⟩;refine gf (n:=n) (lo:=0) (fun i ys σ H4=>(∃k,σ=[k])/\∃ts as,ys=ts.map V.ref/\Holds H4 ts i (fun j=>.tup [.int (j:Int),.ref (as.getD j 0)])/\Holds H4 as i (fun _=>.lst [])/\(∀x y,x<i->y<i->as.getD x 0=as.getD y 0->x=y)/\(∀h,h<i->H3 (as.getD h 0)=none/\as.getD h 0≠D)/\aI H3 H4/\H4 D=some (.lst ys))
    ⟨⟨_,rfl⟩,[],[],rfl,Holds.nil,Holds.nil,fun x y hx=>absurd hx (by lia),fun h hh=>absurd hh (by lia),aj hD,af⟩ ?_ ?_
   .rintro i ys σ H4 Kt Kf hi ⟨⟨k,rfl⟩,ts,as,rfl,pL,has,inj,fr,sm,uB⟩ kt kf;refine⟨_,rfl,by show 0<=sizeLine;decide,fun l hl=>⟨by show 2<=sizeLine;decide,fun t ht=>?_⟩⟩;have US:D≠l:=ai uB hl;have Xp:l≠t:=ai af ht;have RL:D≠t:=ai (show (upd H4 l (.lst [])) D=_ by rw[ak US];exact uB) ht;have keep:∀b o,H4 b=some o->b≠D->(upd (upd (upd H4 l (.lst [])) t (.tup [.int (0+(i:Int)),.ref l])) D (.lst (ts.map V.ref++[.ref t]))) b=some o:=fun b o e n=>by
     have e1:(upd H4 l (.lst [])) b=some o:=by rw[ak (ai e hl)];exact e
     rw[ak n,ak (ai e1 ht)];exact e1
    have Xq:(upd (upd (upd H4 l (.lst [])) t (.tup [.int (0+(i:Int)),.ref l])) D (.lst (ts.map V.ref++[.ref t]))) l=some (.lst []):=by rw[ak US.symm,ak Xp,af]
    refine kt _ _ _ (by rw[ak RL,ak US];exact uB) (by rw[aF,pL.1];exact bT hi (bj (show n<=32 by lia) (by decide))) ⟨⟨_,rfl⟩,ts++[t],as++[l],by rw[bK];rfl,?_,?_,?_,?_,?_,af⟩
    .refine⟨by rw[cu,pL.1];rfl,fun j hj=>?_⟩;rw[bD pL.1];show _=some (HO.tup [.int (j:Int),.ref ((as++[l]).getD j 0)]);rw[bD has.1];by_cases e:j=i
     .rw[aq e,aq e,ak RL.symm,af,e,gL]
     .rw[ap e,ap e];have:=pL.2 j (by lia);exact keep _ _ this (cC this uB (by intro z;cases z))
    .refine Holds.snoc (has.mono fun j hj e=>keep _ _ e (fr j hj).2) Xq
    .intro x y hx hy e;rw[bD has.1,bD has.1] at e;by_cases ex:x=i <;> by_cases ey:y=i
     .lia
     .rw[aq ex,ap ey] at e;have:=has.2 y (by lia);rw[<-e,hl] at this;cases this
     .rw[ap ex,aq ey] at e;have:=has.2 x (by lia);rw[e,hl] at this;cases this
     .rw[ap ex,ap ey] at e;exact inj x y (by lia) (by lia) e
    .intro h hh;rw[bD has.1];by_cases e:h=i
     .rw[aq e];exact⟨sm.free hl,US.symm⟩
     .rw[ap e];exact fr h (by lia)
    .intro b' o e;exact keep _ _ (sm _ _ e) (ai e hD)
   .rintro ys σ H4 ⟨_,ts,as,rfl,pL,has,inj,fr,sm,uB⟩;refine⟨D,ts,aS as n,rfl,uB,by unfold aS;rw[pL.1,aF,dD],fun i hi=>?_,?_,fun O hO=>?_⟩
    .have kO:i<n:=by unfold aS at hi;rw[aF,dD] at hi;exact hi
     refine⟨.inl (i:Int),.ref (as.getD i 0),?_,pL.2 i kO⟩;unfold aS;rw[bp,kh kO];rfl
    .unfold aS;rw[aF,dD];lia
    rw[mO];have yo:H3 O=none:=sm.free hO;have oA:bb (upd H4 O (.dK (aS as n))) O as n (fun _=>[]):=⟨af,has.mono fun j _ e=>aj hO _ _ e,inj⟩
    have Xr:∀h,h<n->H (as.getD h 0)=none:=fun h hh=>Xo.free xa.some (fr h hh).1;have qb:tQ as n p:=fun h hh z=>by have:=Xr h hh;rw[<-z] at this;exact hp.some this
    have RY:tQ as n nm:=fun h hh=>ai hy3 (fr h hh).1;have hnH:H nm=none:=Gm.free y6.some (NH.free hn3);have npn:nm≠p:=by rintro rfl;exact hp.some hnH
    let I:(Nat->List Nat)->Hp->Prop:=fun g Hc=>bb Hc O as n g/\fE n g/\aP p H Hc/\aX Hc p/\Hc nm=some (.lst (NV names))
    have Go:∀g row Hc H',I g Hc->row.Nodup->2<=row.length->(∀x∈row,x<n)->bb H' O as n (fD g row)->jb as n Hc H'->I (fD g row) H':=by
     rintro g row Hc H' ⟨o1,o2,o3,o4,o5⟩ r1 r2 r3 oj so;refine⟨oj,(o9 o2 r1 r2 r3).1,fun b' o e ji=>so _ _ (o3 _ _ e ji) (fun h hh=>ai e (Xr h hh)),?_,so _ _ o5 RY⟩;obtain⟨x,y,e,r⟩:=o4;exact⟨x,y,so _ _ e qb,r⟩
    have jc:∀g Hc H',I g Hc->aP p Hc H'->aX H' p->I g H':=by
     rintro g Hc H' ⟨o1,o2,o3,o4,o5⟩ se po;exact⟨o1.eE se o4 qb,o2,o3.trans se,po,se _ _ o5 npn⟩
    have kT:∀g Hc H',I g Hc->aI Hc H'->I g H':=fun g Hc H' i s=>jc g Hc H' i (aP.of s) (i.2.2.2.1.same s);have sA:aP p H (upd H4 O (.dK (aS as n))):=Xo.trans ((aP.of sm).trans (aP.of (aj hO)));have I0:I (fun _=>[]) (upd H4 O (.dK (aS as n))):=⟨oA,DG,sA,(xa.same sm).same (aj hO),aj hO _ _ (sm _ _ hy3)⟩
    have RS:H O=none:=Xo.free xa.some yo;refine⟨_,rfl,rfl,_,rfl,?_⟩;refine RX (fun Hc=>∃g,I g Hc/\(pQ≠0->g=fun _=>[])/\(pQ=0->B8 n g)) ?_ (fun e kc=>?_) (fun e=>⟨_,I0,fun _=>rfl,fun z=>absurd (by rw[z];rfl) e⟩)
    .rintro Hc ⟨g,Ig,gz,gC⟩;refine⟨_,rfl,_,rfl,_,_,rfl,rfl,.inr ⟨_,rfl,_,_,rfl,rfl,.inl ⟨by lia,by lia⟩,_,_,rfl,⟨by decide,by decide,?_,?_⟩,df (lo:=1) (fun i σ H5=>(∃v5 v6,σ=[some (.ref p),some (.int pQ),some (.int n),some (.ref nm),some (.ref O),v5,v6,none,none])/\∃g,I g H5/\(pQ≠0->(∀j,i+1<=j->j<n->g (names.getD j 0)=[])/\(g (names.getD i 0)).length<=1)/\(pQ=0->B8 n g)/\(pQ≠0->F9 names (i+1) g)) ⟨⟨_,_,rfl⟩,g,Ig,fun z=>?_,gC,fun _=>F_⟩ ?_ ?_⟩⟩
     .split <;> lia
     .split <;> lia
     .rw[gz z];exact⟨fun _ _ _=>rfl,by simp⟩
     .rintro i σ H5 hi ⟨⟨v5,v6,rfl⟩,g1,I1,gw,_,gU⟩;have UT:pQ≠0/\i+1<n:=by
       by_cases z:0<pQ
       .refine⟨by lia,?_⟩;simp[z] at hi;lia
       .simp[z] at hi
      obtain⟨Xs,gw2⟩:=gw UT.1;have e1:(1:Int)+(i:Int)=((i+1:Nat):Int):=by lia
      rw[e1];refine⟨_,rfl,_,rfl,_,rfl,nm,_,rfl,aU.of I1.2.2.2.2,fun S hS=>?_⟩;rw[yt];have I2:=kT _ _ _ I1 (aj (o:=.lst (NV (names.take (i+1)))) hS);have RZ:(upd H5 S (.lst (NV (names.take (i+1))))) S=some (.lst (NV (names.take (i+1)))):=af;revert I2 RZ;generalize upd H5 S (.lst (NV (names.take (i+1))))=HS;intro I2 RZ;refine⟨S,rfl,⟨_,aU.of RZ⟩,fun D hD=>?_⟩;refine eG (K:=K) (a:=S) (xs:=NV (names.take (i+1))) (fun j ys σ H6=>(∃v,σ=[v,some (.ref O)])/\ys=NV (((names.take (i+1)).take j).filter fun h=>decide ((g1 h).length<8))/\H6=upd HS D (.lst ys)) ⟨⟨_,rfl⟩,by rw[List.take_zero];rfl,rfl⟩ ?_ ?_ ?_
      .rintro j ys σ H6 _ ⟨_,_,rfl⟩;exact aU.of (by rw[ak (ai RZ hD)];exact RZ)
      .rintro j x ys σ H6 Kt Kf hx ⟨⟨v,rfl⟩,tj,rfl⟩ kt kf;rw[bp] at hx;obtain⟨h,hh,rfl⟩:=pi.mp hx;have hm:h∈names:=pr (eB hh);have dL:=HU h hm;have I3:=kT _ _ _ I2 (aj (o:=.lst ys) hD);have tk:(names.take (i+1)).take (j+1)=(names.take (i+1)).take j++[h]:=by rw[gX,hh];rfl
       refine⟨_,rfl,_,rfl,O,_,rfl,I3.1.get dL,as.getD h 0,NV (g1 h),rfl,.inl (aU.of (I3.1.rows.2 h dL)),_,_,rfl,rfl,_,rfl,?_⟩;refine bW (fun e=>?_) (fun e=>?_)
       .have e':(g1 h).length<8:=by simp at e;lia
        refine⟨_,rfl,kt _ _ _ af ?_ ⟨⟨_,rfl⟩,?_,?_⟩⟩
        .rw[tj,aF];exact gu (bj (jN _ _) (u_ _ _)) (bT (show j<33 by have:=(cI.mp hh).1;rw[iF,nl] at this;lia) (by decide))
        .rw[tk,ic,List.filter_cons_of_pos (by simpa using e'),vj,tj];unfold NV;rw[bK];rfl
        .rw[fu]
       .have e':¬ (g1 h).length<8:=by simp at e;lia
        refine kf _ _ ⟨⟨_,rfl⟩,?_,rfl⟩;rw[tk,ic,zj (by simpa using e'),vj,kn,tj]
      .rintro ys σ H6 ⟨_,tj,rfl⟩;have tl:(NV (names.take (i+1))).length=(names.take (i+1)).length:=aF _;rw[tl,iY] at tj;subst tj;obtain⟨fl,R0⟩:∃fl,fl=(names.take (i+1)).filter fun h=>decide ((g1 h).length<8):=⟨_,rfl⟩
       rw[<-R0];have I4:=kT _ _ _ I2 (aj (o:=.lst (NV fl)) hD);have Xt:0<fl.length:=by
        refine qM (a:=names.getD i 0) ?_;rw[R0];refine cf.mpr ⟨?_,bE (by lia)⟩;rw[qD (show i<names.length by lia)];exact Eh.mpr ⟨i,by lia,rfl⟩
       have fl1:fl.length<=32:=by
        rw[R0];refine bj (jN _ _) ?_;rw[iF];lia
       have fm:∀x∈fl,x∈names.take (i+1):=fun x hx=>by rw[R0] at hx;exact(cf.mp hx).1
       refine⟨_,rfl,_,rfl,_,rfl,nm,_,_,_,rfl,rfl,aU.of I4.2.2.2.2,sr (by lia),?_⟩;refine⟨_,rfl,_,rfl,_,rfl,D,_,rfl,.inl (aU.of af),p,_,rfl,by rw[aF];lia,by rw[aF];lia,I4.2.2.2.1,fun d a3 b3 d0 d1 k0 k1 k2=>?_⟩;rw[aF] at d1;have I5:=jc _ _ _ I4 aP.upd (aX.upd k0 k1 k2);have nDp:D≠p:=by rintro rfl;exact I2.2.2.2.1.some hD
       obtain⟨dn,rfl⟩:∃dn:Nat,(dn:Int)=d:=⟨d.toNat,by lia⟩
       refine⟨D,_,_,_,rfl,rfl,aU.of (by rw[ak nDp];exact af),sr (by lia),by show 2<=sizeLine;decide,fun L hL=>?_⟩;have I6:=kT _ _ _ I5 (aj (o:=.lst [.int (names.getD (i+1) 0:Nat),.int (fl.getD dn 0:Nat)]) hL);have m1:names.getD (i+1) 0∈names:=nJ (by lia);have m2:fl.getD dn 0∈names.take (i+1):=fm _ (nJ (by lia));have m12:names.getD (i+1) 0≠fl.getD dn 0:=by
        intro z;rw[<-z] at m2;obtain⟨x,hx,Lk,e⟩:=lV m2;have:=Gj nn Lk (by lia) e;lia
       have rn:[names.getD (i+1) 0,fl.getD dn 0].Nodup:=dQ.mpr ⟨by simpa using m12,dQ.mpr ⟨by simp,jT⟩⟩;have rt:∀x∈[names.getD (i+1) 0,fl.getD dn 0],x<n:=by
        intro x hx;rcases bZ.mp hx with rfl|hx
        .exact HU _ m1
        .rw[cH.mp hx];exact HU _ (pr m2)
       refine⟨O,L,as,n,_,[names.getD (i+1) 0,fl.getD dn 0],rfl,I6.1,af,I5.1.AS hL,rt,by show 2<=32;decide,I6.2.1.le,fun H' oj so=>⟨⟨_,_,rfl⟩,_,Go _ _ _ _ I6 rn (by show 2<=2;decide) rt oj so,fun _=>⟨fun j hj1 Xu=>?_,?_⟩,fun z=>absurd z UT.1,fun _=>DD I6.2.1 HU (by lia) (gU UT.1) m2 (Xs (i+1) (bf _) UT.2) ?_⟩⟩
       .rw[(o9 I6.2.1 rn (by show 2<=2;decide) rt).2.1 _ (fun z=>?_)]
        .exact Xs j (by lia) Xu
        .rcases bZ.mp z with z|z
         .have:=Gj nn (show j<names.length by lia) (show i+1<names.length by lia) z;lia
         .rw[<-cH.mp z] at m2;obtain⟨x,hx,Lk,e⟩:=lV m2;have:=Gj nn Lk (by lia) e;lia
       .have:=(o9 I6.2.1 rn (by show 2<=2;decide) rt).2.2 (names.getD (i+1) 0);rw[Xs (i+1) (by lia) (by lia)] at this;exact this
       .have QV:∀x∈fl,(g1 x).length<8:=fun x hx=>by rw[R0] at hx;exact bU (cf.mp hx).2
        exact QV _ (nJ (by lia))
     .rintro σ H5 ⟨⟨v5,v6,rfl⟩,g1,I1,_,gC0,gU⟩;have gC1:B8 n g1:=by
       by_cases z:pQ=0
       .exact gC0 z
       .have u:=gU z;have z':0<pQ:=by lia
        simp[z'] at u;rw[show n-1+1=n by lia] at u;exact Gb pn u
      refine⟨_,rfl,p,8,rfl,by decide,by decide,I1.2.2.2.1,fun d a3 b3 d0 d1 k0 k1 k2=>⟨d,rfl,by lia,by lia,df (n:=d.toNat) (lo:=0) (fun i σ H6=>(∃v7 v8,σ=[some (.ref p),some (.int pQ),some (.int n),some (.ref nm),some (.ref O),v5,v6,v7,v8])/\∃g,I g H6/\B8 n g) ⟨⟨_,_,rfl⟩,g1,jc _ _ _ I1 aP.upd (aX.upd k0 k1 k2),gC1⟩ ?_ ?_⟩⟩
      .rintro i σ H6 hi ⟨⟨v7,v8,rfl⟩,g2,I2,Xv⟩;refine⟨_,rfl,p,4,rfl,by decide,by decide,I2.2.2.2.1,fun d2 a4 b4 e0 e1 l0 l1 l2=>⟨_,rfl,rfl,.inr ⟨_,rfl,_,_,rfl,rfl,.inl ⟨by lia,by lia⟩,_,_,rfl,rfl,?_⟩⟩⟩;have I3:=jc _ _ _ I2 (aP.upd (o:=.lst [.int a4,.int b4])) (aX.upd l0 l1 l2);obtain⟨wd,hwd⟩:∃wd:Nat,(wd:Int)=2+d2*(if decide (V.int pQ=V.int 0)=true then 1 else 0):=⟨(2+d2*(if decide (V.int pQ=V.int 0)=true then 1 else 0)).toNat,by split <;> lia⟩
       have wd2:2<=wd:=by split at hwd <;> lia
       change bo 8 (V.int (2+d2*(if decide (V.int pQ=V.int 0)=true then 1 else 0))) _ _ _;rw[<-hwd];refine⟨_,rfl,_,rfl,_,rfl,p,nm,NV names,rfl,I3.2.2.2.1,I3.2.2.2.2,npn,by rw[aF];lia,fun r ys H7 pm se po vY hy=>?_⟩;obtain⟨zs,rfl,pz⟩:=wK pm;have I4:=jc _ _ _ I3 se po;refine⟨_,rfl,_,rfl,r,_,rfl,aU.of hy,fun S hS=>?_⟩;rw[yt];have I5:=kT _ _ _ I4 (aj (o:=.lst (NV (zs.take wd))) hS);have zn:(zs.take wd).Nodup:=(pz.nodup_iff.mpr nn).sublist (qQ _ _);have zl:(zs.take wd).length=min wd n:=by rw[iF,pz.length_eq,nl]
       have zt:∀x∈zs.take wd,x<n:=fun x hx=>HU x (pz.mem_iff.mp (pr hx));exact⟨O,S,as,n,_,zs.take wd,rfl,I5.1,af,I4.1.AS hS,zt,by lia,I5.2.1.le,fun H' oj so=>⟨⟨_,_,rfl⟩,_,Go _ _ _ _ I5 zn (by lia) zt oj so,fun a b ha hb=>(Xv a b ha hb).mono uE⟩⟩
      .rintro σ H6 ⟨⟨v7,v8,rfl⟩,g2,I2,Xv⟩;exact⟨_,rfl,q O as n g2 H6 ⟨I2.2.1,by lia,by lia,I2.1,RS,Xr,Xv⟩ I2.2.2.1 I2.2.2.2.1⟩
    .have w0:pQ=0:=by
      have:=bU e;exact V.int.inj this
     exact⟨_,rfl,_,rfl,O,nm,as,n,_,names,rfl,oA,I0.2.2.2.2,RY,HU,by lia,fun h hh=>by simp,fun H' oj so=>kc H' ⟨_,Go _ _ _ _ I0 nn (by lia) HU oj so,fun z=>absurd w0 z,fun _=>F8 nn (by lia) pn⟩⟩
end
abbrev UU:Stmt:=gR 43
def B9(n:Nat)(g:Nat->List Nat)(h k:Nat):List Nat:=((List.range k).map fun s=>(h+(1+s)) % n).filter fun o=>decide (o∈g h)
def gr(n:Nat)(g:Nat->List Nat)(h:Nat):List Nat:=B9 n g h (n-1)
theorem yu{n:Nat}{g:Nat->List Nat}{h k:Nat}:B9 n g h (k+1)=B9 n g h k++(if (h+(1+k)) % n∈g h then [(h+(1+k)) % n] else []):=by
 unfold B9;rw[fJ,bK,ic];congr 1;rw[cM,ii];by_cases e:(h+(1+k)) % n∈g h
 .rw[aq e,List.filter_cons_of_pos (by simpa using e),vj]
 .rw[ap e,zj (by simpa using e),vj]
theorem wL{n h s:Nat}(hh:h<n)(hs:s<n-1):(h+(1+s)) % n=if h+(1+s)<n then h+(1+s) else h+(1+s)-n:=by
 by_cases e:h+(1+s)<n
 .rw[aq e,l9 e]
 .rw[ap e,Nat.mod_eq_sub_mod (by lia),l9 (by lia)]
theorem iM{n:Nat}{g:Nat->List Nat}(G:fE n g){h:Nat}(hh:h<n):(gr n g h).Perm (g h):=by
 have nd:(gr n g h).Nodup:=by
  unfold gr B9;refine l3 _ ?_;refine jO.mpr ?_;refine zh ?_ (l_ (n:=n-1));intro a b ha hb Ru e;rw[wL hh (bu.mp ha),wL hh (bu.mp hb)] at e;have:=bu.mp ha;have:=bu.mp hb;split at e <;> split at e <;> lia
 refine(Ee nd (G.nd h hh)).mpr fun o=>?_;unfold gr B9;rw[cf,dP];refine⟨fun z=>z.2,fun z=>⟨bO.mpr ?_,z⟩⟩;obtain⟨o1,o2⟩:=G.lt h hh o z;by_cases e:h<o
 .refine⟨o-h-1,bu.mpr (by lia),?_⟩;rw[wL hh (by lia),aq (by lia)];lia
 .refine⟨o+n-h-1,bu.mpr (by lia),?_⟩;rw[wL hh (by lia),ap (by lia)];lia
theorem B_{n:Nat}{g:Nat->List Nat}(G:fE n g):fE n (gr n g):=by
 refine⟨fun h hh=>(iM G hh).nodup_iff.mpr (G.nd h hh),fun h hh o ho=>G.lt h hh o ((iM G hh).mem_iff.mp ho),fun h hh=>by rw[(iM G hh).length_eq];exact G.le h hh,fun h hh=>?_⟩;rw[(iM G hh).length_eq,G.Jt h hh];unfold inn;refine List.countP_congr fun o ho=>?_;simp only[l7];exact(iM G (bu.mp ho)).mem_iff.symm
theorem d_{as:List Addr}{n:Nat}:(aS as n).length=n:=by unfold aS;rw[aF,dD]
theorem lx{as:List Addr}{n i:Nat}{k:dS}{v:V}(h:(aS as n)[i]?=some (k,v)):i<n/\k=.inl (i:Int):=by
 have hi:i<n:=by have:=(cI.mp h).1;rw[d_] at this;exact this
 refine⟨hi,?_⟩;unfold aS at h;rw[bp,kh hi] at h;exact(congrArg Prod.fst (ba h)).symm
theorem Xw:(["_law_step","_law_house","_law_many","_law_outs"]:List Str).Nodup:=by decide +kernel
section
variable {P:Program} {w:World} {K:PySem.W.Frag} {mg:Str->Option Value} {base:Heap}
theorem JT:aJ ["_law_outs","_law_many","_law_found","_law_house"] ["_law_outs"] (am UU):=⟨rfl,rfl,rfl,by decide +kernel,rfl,by decide +kernel,by decide +kernel⟩
def N2:Sp:=fun vs H Q _=>∃ (O:Addr) (as:List Addr) (n:Nat) (g:Nat->List Nat),vs=[.ref O]/\fE n g/\B8 n g/\2<=n/\n<=32/\bb H O as n g/\
 ∀ (O':Addr) (nX:List Addr) (g':Nat->List Nat) (H':Hp),sH H H' O' nX n g'->g'=gr n g->aP O H H'->H' O≠none->Q (.ref O') H'
theorem R1{f:Addr}{fd:FuncData}(F:fW K "_law_going_round" "_law_going_round" UU f fd)(B:Bl mg):bC P w K mg base bi 1 f fd ["_law_outs"] N2:=by
 refine F.ok JT (fun vs H Q E h=>?_) (fun dE A outer s H vs Q E hr h=>?_)
 .obtain⟨O,as,n,g,rfl,_⟩:=h;rfl
 .obtain⟨O,as,n,g,rfl,G,gC,n2,HX,hO,q⟩:=h;have hu:(A.deeper (PyProof.Rows.envOfC "_law_going_round" (am UU) s.heap.objs.size f dE)).units+1<cLine:=by have:=hr.un;lia
  refine'⟨_,ah (aK (i:=1) JT.nd rfl (Or.inr rfl) (av Dj (by rfl) B.len cL (aa (pv 0) ag)))
   (ah (aK (i:=2) JT.nd rfl (Or.inl rfl) xR)
   (ah (cT dR rfl (BN (pv 0)) (au (i:=3) JT.nd rfl (Or.inr rfl)) (al (nw hu (pv 2) (pv 3) ?c rfl)))
   (al (aH (pv 2))))),?_⟩
  case c=>
   refine' cm (g:=bo 0) (tt:=jW (iA (Qz K false) (iA (rI (fun _ j=>0<j) fun i j=>.int (i % j)) (iA (xp fun i j=>.int (i+j)) (aV 1) (aV 0)) (aV 2)) (kN (aV 3) (aV 1)))) (te:=iA (rI (fun _ j=>0<j) fun i j=>.int (i % j)) (iA (xp fun i j=>.int (i+j)) (aV 1) (aV 0)) (aV 2)) (NB:=["_law_step","_law_house","_law_many","_law_outs"]) (src:=[none,some 3,some 1,some 0]) (bY (by kernel_rfl)) rfl
    (oG rfl B.range (aa ao (aa (pv 1) ag))) ?g ?t ?e
   case g=>exact fun cl C s₃ H₃ fp=>au (i:=0) Xw rfl (Or.inl rfl) (Or.inr rfl)
   case t=>exact fun cl C s₃ H₃ fp=>eR (aL oK (a_ gP (a_ cY (pv 1) (pv 0)) (pv 2)) (bQ hu (pv 3) (pv 1) (fun _ _=>rfl)) (by rfl))
   case e=>exact fun cl C s₃ H₃ fp=>a_ gP (a_ cY (pv 1) (pv 0)) (pv 2)
  refine⟨_,rfl,O,_,rfl,hO.dict,?_⟩;change bo 1 (V.int (((aS as n).length:Nat):Int)) _ _ _;rw[d_];intro F' hF;have nOF:O≠F':=ai hO.dict hF;have Xx:bb (upd H F' (.dK [])) O as n g:=hO.same (aj hF);refine⟨_,rfl,O,_,rfl,Xx.dict,fun o=>?_⟩;refine rR (fun i σ H3=>(∃v3,σ=[some (.ref O),some (.int n),some (.ref F'),v3])/\H3 O=some (.jh o (.dK (aS as n)))/\aP O H H3/\∃bs,bb H3 F' bs i (gr n g)/\∀h,h<i->H (bs.getD h 0)=none)
   ⟨⟨_,rfl⟩,af,fun b u e ji=>by rw[ak ji,ak (ai e hF)];exact e,[],⟨by rw[ak nOF.symm,af];rfl,Holds.nil,fun i j hi=>absurd hi (by lia)⟩,fun h hh=>absurd hh (by lia)⟩ (fun i σ H3 _ ⟨_,z,_⟩=>z) ?_ ?_
  .rintro i k v σ H3 hk ⟨⟨v3,rfl⟩,hf,se,bs,hB,fr⟩;obtain⟨hi,rfl⟩:=lx hk;have R3:Holds H3 as n (fun h=>.lst (NV (g h))):=hO.rows.mono fun j hj e=>se _ _ e (fun z=>by rw[z] at e;rw[hO.dict] at e;cases e);change bo 3 (V.int (i:Int)) _ _ _;refine⟨_,rfl,1,n,rfl,⟨by decide,by decide,by lia,by lia⟩,fun D hD=>?_⟩;have hn1:((n:Int)-1).toNat=n-1:=by lia
   have Xy:O≠D:=ai hf hD;have UR:H D=none:=by
    cases z:H D with
    |none=>rfl
    |some u=>rw[se _ _ z Xy.symm] at hD;cases hD
   refine gf (fun j ys σ H4=>(∃v,σ=[v,some (.int i),some (.int n),some (.ref O)])/\ys=NV (B9 n g i j)/\H4=upd H3 D (.lst ys)) ⟨⟨_,rfl⟩,rfl,rfl⟩ ?_ ?_
   .rintro j ys σ H4 Kt Kf hj ⟨⟨v,rfl⟩,rfl,rfl⟩ kt kf;rw[hn1] at hj;have R4:Holds (upd H3 D (.lst (NV (B9 n g i j)))) as n (fun h=>.lst (NV (g h))):=R3.mono fun x _ e=>aj hD _ _ e;have em:((i:Int)+(1+(j:Int))) % (n:Int)=(((i+(1+j)) % n:Nat):Int):=by
     rw[vg];rfl
    have gt:iT (upd H3 D (.lst (NV (B9 n g i j)))) O (.int (i:Int)) (some (.ref (as.getD i 0))):=.inl ⟨aS as n,.inl (i:Int),.inr ⟨o,by rw[ak Xy];exact hf⟩,rfl,(nG hi).symm⟩;refine⟨_,rfl,_,rfl,_,_,rfl,rfl,_,rfl,_,_,rfl,rfl,by lia,_,rfl,_,rfl,O,_,rfl,gt,as.getD i 0,NV (g i),rfl,.inl (aU.of (R4.2 i hi)),rfl,sn,_,rfl,?_⟩;have ei:CV (V.int (((i:Int)+(1+(j:Int))) % (n:Int))) (NV (g i))=decide ((i+(1+j)) % n∈g i):=by rw[em,qC]
    refine bW (fun e=>?_) (fun e=>?_)
    .have e':(i+(1+j)) % n∈g i:=by
      have e2:CV (V.int (((i:Int)+(1+(j:Int))) % (n:Int))) (NV (g i))=true:=e;rw[ei] at e2;exact bU e2
     refine⟨_,rfl,_,rfl,_,_,rfl,rfl,_,rfl,_,_,rfl,rfl,by lia,kt _ _ _ af ?_ ⟨⟨_,rfl⟩,?_,?_⟩⟩
     .rw[aF];unfold B9;refine gu (jN _ _) ?_;rw[aF,dD];exact bT (show j<32 by lia) (by decide)
     .rw[yu,aq e'];show _++[V.int (((i:Int)+(1+(j:Int))) % (n:Int))]=_;rw[em];unfold NV;rw[bK];rfl
     .rw[fu]
    .have e':¬ (i+(1+j)) % n∈g i:=by
      have e2:¬ CV (V.int (((i:Int)+(1+(j:Int))) % (n:Int))) (NV (g i))=true:=e;rw[ei] at e2;simpa using e2
     refine kf _ _ ⟨⟨_,rfl⟩,?_,rfl⟩;rw[yu,ap e',kn]
   .rintro ys σ H4 ⟨_,rfl,rfl⟩;rw[hn1];have off:tQ bs i D:=hB.AS hD;have PL:=hB.same (aj (o:=.lst (NV (B9 n g i (n-1)))) hD);have hB5:=PL.push (ys:=B9 n g i (n-1)) af off;have nFD:F'≠D:=ai hB.dict hD;refine⟨_,rfl,_,rfl,F',_,rfl,rG.k (k:=.inl (i:Int)) PL.dict (by rw[d_];exact bT (show i<32 by lia) (by decide)),⟨_,rfl⟩,?_,?_,bs++[D],hB5.NR ?_,?_⟩
    .rw[ak nOF,ak Xy];exact hf
    .intro b u e ji;rw[ak (ai e hF),ak (ai e UR)];exact se _ _ e ji
    .intro x hx;by_cases e:x=i
     .subst e;rw[iL];rfl
     .rw[jL e]
    .intro h hh;rw[bD hB.rows.1];by_cases e:h=i
     .rw[aq e];exact UR
     .rw[ap e];exact fr h (by lia)
  .rintro σ H3 ⟨⟨v3,rfl⟩,hf,se,bs,hB,fr⟩;rw[d_] at hB fr;exact⟨_,rfl,q F' bs (gr n g) H3 ⟨B_ G,n2,HX,hB,hF,fr,gC.mono (fun a ha o ho=>(iM G ha).mem_iff.mpr ho) fun a ha o ho=>(G.lt a ha o ho).1⟩ rfl se (by rw[hf];intro z;cases z)⟩
end
end AQ
namespace L2
open PySem PySem.Spec PyProof.Rows
section
variable {X:Cx} {tg:Expr}
theorem uH:fA X (.builtin "len") (fun xs H Q=>∃a kvs,xs=[V.ref a]/\(∃o,H a=some (.jh o (.dK kvs)))/\Q (.int kvs.length) H):=by
 intro ae s σ H xs us Q I r h;obtain⟨a,kvs,rfl,ha,q⟩:=h;obtain⟨u,rfl,ru⟩:=rA r;cases ru;exact Lw I (.inr ha) fun t s' I'=>⟨.int kvs.length,H,I',⟨t,rfl⟩,q⟩
def N3(tl:TE):TI:=fun σ H R=>tl σ H fun x H1=>∃d kvs o,x=.ref d/\H1 d=some (.jh o (.dK kvs))/\R (Nf d o kvs) H1
theorem yv{l:Expr}{tl:TE}(hl:PE X l tl):PI X tg l (N3 tl):=by
 intro ae s σ H R I h;refine cJ (hl ae s σ H _ I h) fun v s1 ⟨x,H1,I1,r1,q1⟩=>?_;obtain⟨d,kvs,o,e,hd,q⟩:=q1;subst e;cases r1;obtain⟨ho,z,hS,vs,kv,o',es,ep,g1,g2,g3,g4,g5,g6⟩:=I1.bS d _ hd;rw[ho] at g1;cases g1;have hm:s1.heap.DictAt (bL X.prog X.w) d vs ep:=⟨o,es,ho,g2,g3,g4,g5,g6⟩
 refine wpAny_pyIter_dict hS hm ?_;refine⟨s1.heap.objs.size,[s1.heap.objs.size],_,_,_,rfl,I1.kept (t':=s1.toks) fun b o e=>cR _ e,uu d _ o kvs es ep g3,⟨_,dC _ rfl,rfl,by rw[kv.length];rfl⟩,fun b hb=>?_,q⟩;have e:b=s1.heap.objs.size:=by simpa using hb
 subst e;exact I1.xk (bf _) (I1.bS.fresh (bf _))
end
theorem DH{d D:Addr}{o:Obj}{kvs:List (dS×V)}{g:TG}{tt:TT}{te:TE}{fin:Hp->Prop}{σB:St}{H0:Hp}(Pv:Nat->List V->St->Hp->Prop)(h0:Pv 0 [] σB H0)(hl:∀i ys σ H,i<=kvs.length->Pv i ys σ H->H d=some (.jh o (.dK kvs)))(hs:∀i k v ys σ H (Kt:V->St->Hp->Prop) (Kf:St->Hp->Prop),kvs[i]?=some (k,v)->Pv i ys σ H->
   (∀v σ2 H4,H4 D=some (.lst ys)->ys.length<sizeLine->Pv (i+1) (ys++[v]) σ2 (upd H4 D (.lst (ys++[v])))->Kt v σ2 H4)->(∀σ2 H3,Pv (i+1) ys σ2 H3->Kf σ2 H3)->
   g (kV k) σ H fun σ2 H2=>tt σ2 H2 fun b H3=>if b=true then te σ2 H3 fun v H4=>Kt v σ2 H4 else Kf σ2 H3)(hd:∀ys σ H,Pv kvs.length ys σ H->fin H):iG (Nf d o kvs) g tt te D fin σB H0:=by
 refine⟨fun i m σ H=>m=kvs.length-i/\i<=kvs.length/\∃ys,Pv i ys σ H,⟨kvs.length,by simp,dG _,[],h0⟩,?_⟩;rintro i m σ H ⟨rfl,hi,ys,p⟩;have q:=hl i ys σ H hi p;by_cases dL:i<kvs.length
 .refine .inr ⟨⟨q,dL⟩,?_⟩;rintro x H' ⟨rfl,k,v,hk,rfl⟩;exact hs i k v ys σ _ (fun v σ2 H4=>∃ys,H4 D=some (.lst ys)/\ys.length<sizeLine/\∃m',m'<kvs.length-i/\m'=kvs.length-(i+1)/\i+1<=kvs.length/\∃pY,Pv (i+1) pY σ2 (upd H4 D (.lst (ys++[v]))))
   (fun σ2 H3=>∃m',m'<kvs.length-i/\m'=kvs.length-(i+1)/\i+1<=kvs.length/\∃pY,Pv (i+1) pY σ2 H3) hk p
   (fun v σ2 H4 z1 z2 z3=>⟨ys,z1,z2,_,by lia,rfl,dL,_,z3⟩) (fun σ2 H3 z=>⟨_,by lia,rfl,dL,_,z⟩)
 .have e:i=kvs.length:=by lia
  subst e;exact .inl ⟨⟨q,bf _⟩,hd ys σ H p⟩
end L2
namespace AQ
open PySem L2
structure fR(H:Hp)(O:Addr)(as:List Addr)(n:Nat)(g:Nat->List Nat):Prop where
 dict:∃o,H O=some (.jh o (.dK (aS as n)))
 rows:Holds H as n (fun h=>.lst (NV (g h)))
 inj:∀i j,i<n->j<n->as.getD i 0=as.getD j 0->i=j
theorem fR.same{H H':Hp}{O:Addr}{as:List Addr}{n:Nat}{g:Nat->List Nat}(h:fR H O as n g)(s:aI H H'):fR H' O as n g:=⟨let ⟨o,e⟩:=h.dict;⟨o,s _ _ e⟩,h.rows.mono fun j _ e=>s _ _ e,h.inj⟩
theorem fR.eE{H H':Hp}{O p:Addr}{as:List Addr}{n:Nat}{g:Nat->List Nat}(h:fR H O as n g)(s:aP p H H')(hp:aX H p)(f:tQ as n p):fR H' O as n g:=by
 obtain⟨a,b,e,_⟩:=hp;obtain⟨o,d⟩:=h.dict;exact⟨⟨o,s _ _ d (cC d e (by intro z;cases z))⟩,h.rows.mono fun j hj x=>s _ _ x (f j hj).symm,h.inj⟩
theorem fR.get{H:Hp}{O:Addr}{as:List Addr}{n:Nat}{g:Nat->List Nat}(h:fR H O as n g){x:Nat}(hx:x<n):iT H O (.int x) (some (.ref (as.getD x 0))):=
 let ⟨o,d⟩:=h.dict
 .inl ⟨aS as n,.inl (x:Int),.inr ⟨o,d⟩,rfl,(nG hx).symm⟩
abbrev JU:Stmt:=gR 47
def j6:Option Nat->V
 |none=>.bR
 |some h=>.int h
abbrev SV(s:List (Option Nat)):List V:=s.map j6
abbrev HV(s:List Int):List V:=s.map V.int
def eM(n:Nat)(g:Nat->List Nat)(s:List (Option Nat)):Prop:=(∀h,some h∈s->h<n)/\∀h,h<n->s.count (some h)<=(g h).length
theorem JV{s:List (Option Nat)}:(SV s).all g8=true:=by
 rw[ie];intro v hv;obtain⟨j,_,rfl⟩:=bO.mp hv;cases j <;> rfl
theorem JW{a b:Option Nat}(h:j6 a=j6 b):a=b:=by
 cases a <;> cases b
 .rfl
 .cases h
 .cases h
 .have:=V.int.inj h;congr 1;lia
theorem yw{h:Nat}:∀ {s:List (Option Nat)},(SV s).countP (fun z=>vO z (.int h))=s.count (some h)
 |[]=>rfl
 |x::s=>by
  have ih:=yw (h:=h) (s:=s);unfold SV at ih |-;rw[cM,n9,ih,zX];have e:vO (j6 x) (.int (h:Int))=(x==some h):=by
   cases x with
   |none=>rfl
   |some y=>
    show ((y:Int)==(h:Int))=(some y==some h);rw[jn];simp;lia
  rw[e]
theorem R6{a b:Int}{c:Bool}:fT [V.int a,V.int b] (if c=true then 1 else 0)=some (V.int (if c=true then b else a)):=by cases c <;> rfl
theorem R7{a b w:Int}(h:0<=w):fT [V.int a,V.int b] (w % 2)=some (V.int (if w % 2=1 then b else a)):=by
 rcases(by lia:w % 2=0\/w % 2=1) with e|e <;> rw[e] <;> rfl
theorem LV{c:Prop}[Decidable c]{A:Prop}{C:St->Hp->Prop}{σ0:St}{H0:Hp}(G:St->Hp->Prop)(hC:∀σ H,G σ H->C σ H)(h1:c->(∀σ H,G σ H->C σ H)->A)(h2:¬ c->G σ0 H0):if c then A else C σ0 H0:=by
 by_cases h:c
 .rw[aq h];exact h1 h hC
 .rw[ap h];exact hC _ _ (h2 h)
theorem lW{A B:Prop}(h:A):if true=true then A else B:=by rw[aq rfl];exact h
theorem uI{A B:Prop}(h:B):if false=true then A else B:=by rw[ap (by decide)];exact h
theorem eM.push{n:Nat}{g:Nat->List Nat}{s:List (Option Nat)}{x:Option Nat}(h:eM n g s)(hx:∀y,x=some y->y<n/\s.count (some y)<(g y).length):eM n g (s++[x]):=by
 refine⟨fun y hy=>?_,fun y hy=>?_⟩
 .rcases bV.mp hy with z|z
  .exact h.1 y z
  .exact(hx y (cH.mp z).symm).1
 .rw[List.count_append,List.count_singleton];by_cases e:x=some y
  .have:=(hx y e).2;rw[aq (by rw[e];simp)];lia
  .rw[ap (by simpa using e)];exact h.2 y hy
def R8(n:Nat)(hs:List Int)(s:List (Option Nat)):Prop:=(∀h∈hs,0<=h/\h<n)/\∀i h,s.getD i none=some h->hs.getD i 0≠(h:Int)
section
variable {P:Program} {w:World} {K:PySem.W.Frag} {mg:Str->Option Value} {base:Heap}
theorem Gp{α:Type}{l:List α}{x d:α}{n j:Nat}(h:l.length=n):(l++[x]).getD j d=if j=n then x else l.getD j d:=by
 rw[bH,bH];by_cases c:j=n
 .rw[aq c,mU (by lia),show j-l.length=0 by lia];rfl
 .rw[ap c];by_cases z:j<l.length
  .rw[iC z]
  .rw[iD (by rw[cu];simp;lia),iD (by lia)]
theorem JX{n x:Nat}{d:Int}(hx:x<n)(h0:0<=d)(h1:d<(n:Int)-1):((x:Int)+1+d) % (n:Int)≠(x:Int):=by
 by_cases c:(x:Int)+1+d<n
 .rw[vf (by lia) c];lia
 .rw[<-Int.sub_emod_right,vf (by lia) (by lia)];lia
theorem kU:aJ ["_law_pot_here","_law_outs","_law_most","_law_many","_law_way","_law_first","_law_homes","_law_stand","_law_k","_law_start","_law_home"] ["_law_pot_here","_law_outs","_law_most"] (am JU):=⟨rfl,rfl,rfl,by decide +kernel,rfl,by decide +kernel,by decide +kernel⟩
def Gq:Sp:=fun vs H Q _=>∃ (p O:Addr) (as:List Addr) (n:Nat) (g:Nat->List Nat) (mo:Int),vs=[.ref p,.ref O,.int mo]/\(0<=mo/\mo<=16)/\aX H p/\fR H O as n g/\tQ as n p/\2<=n/\n<=32/\
 ∀ (t a b:Addr) (hs:List Int) (s:List (Option Nat)) (H':Hp),H' t=some (.tup [.ref a,.ref b])->H' a=some (.tup (HV hs))->H' b=some (.tup (SV s))->hs.length=s.length->s.length<=16->eM n g s->R8 n hs s->aP p H H'->aX H' p->Q (.ref t) H'
theorem N4{f:Addr}{fd:FuncData}(F:fW K "_law_letters" "_law_letters" JU f fd)(B:Bl mg)(T:cE P w K mg base bi 1 "_law_take" ["_law_pot_here","_law_many"] jJ):bC P w K mg base bi 2 f fd ["_law_pot_here","_law_outs","_law_most"] Gq:=by
 refine F.ok kU (fun vs H Q E h=>?_) (fun dE A outer s H vs Q E hr h=>?_)
 .obtain⟨p,O,as,n,g,mo,rfl,_⟩:=h;rfl
 .obtain⟨p,O,as,n,g,mo,rfl,hmo,hp,hO,qb,n2,HX,q⟩:=h;have hu:(A.deeper (PyProof.Rows.envOfC "_law_letters" (am JU) s.heap.objs.size f dE)).units+1<cLine:=by have:=hr.un;lia
  refine'⟨_,ah (aK (i:=3) kU.nd rfl (Or.inl rfl) (av uH (by rfl) B.len cL (aa (pv 1) ag)))
   (ah (aK (i:=4) kU.nd rfl (Or.inl rfl) (aB T hr aM (aa (pv 0) (aa ao ag))))
   (ah (aK (i:=5) kU.nd rfl (Or.inl rfl) (aB T hr aM (aa (pv 0) (aa (pv 3) ag))))
   (ah (aK (i:=6) kU.nd rfl (Or.inl rfl) (cZ ag))
   (ah (aK (i:=7) kU.nd rfl (Or.inl rfl) (cZ ag))
   (ah (cT dR rfl (cq rfl B.range (aa (aB T hr aM (aa (pv 0) (aa (a_ cY (pv 2) ao) ag))) ag)) (au (i:=8) kU.nd rfl (Or.inl rfl))
    (ah (aK (i:=9) kU.nd rfl (Or.inl rfl) (a_ gP (Gf (aa (a_ cY (pv 5) (aB T hr aM (aa (pv 0) (aa ao ag)))) (aa (aB T hr aM (aa (pv 0) (aa (pv 3) ag))) ag)) (cr h9 (by rfl) B.int mV (aa (cy pC (pv 4) ao (aG _)) ag)) (fun _ _=>rfl)) (pv 3)))
    (ah (aK (i:=10) kU.nd rfl (Or.inl rfl) (Gf (aa (pv 5) (aa (aB T hr aM (aa (pv 0) (aa (pv 3) ag))) ag)) (cr h9 (by rfl) B.int mV (aa (a_ gP (pv 4) ao) ag)) (fun _ _=>rfl)))
    (ah (bA (aL eN (pv 10) (pv 9) (aG _)) (al (aK (i:=10) kU.nd rfl (Or.inl rfl) (a_ gP (a_ cY (a_ cY (pv 10) ao) (aB T hr aM (aa (pv 0) (aa (a_ jA (pv 3) ao) ag)))) (pv 3)))) aR)
    (ah (bA (PW.pt (pB (aL eN (aB T hr aM (aa (pv 0) (aa ao ag))) ao (aG _)) (mB (aL eN (im h_ PySem.F.slot_list_count PySem.F.type_list_count Fl (pv 7) (aa (pv 9) ag)) (av aE (by rfl) B.len cL (aa (bQ hu (pv 1) (pv 9) (fun _ _=>rfl)) ag)) (aG _)))))
     (al (aK (i:=9) kU.nd rfl (Or.inl rfl) cS)) aR)
    (ah (cg (im h_ j_ j8 dg (pv 6) (aa (pv 10) ag)))
    (al (cg (im h_ j_ j8 dg (pv 7) (aa (pv 9) ag))))))))))
   (al (aH (eJ (aa (cr gm (by rfl) B.tup qK (aa (pv 6) ag)) (aa (cr gm (by rfl) B.tup qK (aa (pv 7) ag)) ag)))))))))),?_⟩
  refine⟨_,rfl,O,_,rfl,hO.dict,?_⟩;change bo 3 (V.int (((aS as n).length:Nat):Int)) _ _ _;rw[d_];refine⟨_,rfl,p,4,rfl,by decide,by decide,hp,fun pQ a b y0 y1 a0 b0 b1=>?_⟩;refine⟨_,rfl,_,rfl,p,n,rfl,by lia,by lia,aX.upd a0 b0 b1,fun first a2 b2 z0 z1 c0 c1 c2=>?_⟩;rw[fu];have y6:aX (upd H p (.lst [.int a2,.int b2])) p:=aX.upd c0 c1 c2;have Gm:aP p H (upd H p (.lst [.int a2,.int b2])):=aP.upd;refine⟨by show 0<=sizeLine;decide,fun Lh Xz=>⟨by show 0<=sizeLine;decide,fun Ls XA=>?_⟩⟩;have LW:Lh≠Ls:=ai af XA;have XB:(upd H p (.lst [.int a2,.int b2])) Ls=none:=(aj Xz).free XA;have hhH:H Lh=none:=Gm.free y6.some Xz;have hsH:H Ls=none:=Gm.free y6.some XB;have nph:Lh≠p:=by rintro rfl;exact hp.some hhH
  have nps:Ls≠p:=by rintro rfl;exact hp.some hsH
  have s3:=(aj (o:=.lst []) Xz).trans (aj (o:=.lst []) XA)
  let J:List Int->List (Option Nat)->Hp->Prop:=fun hs st Hc=>aP p H Hc/\aX Hc p/\Hc Lh=some (.lst (HV hs))/\Hc Ls=some (.lst (SV st))
  have jc:∀hs st Hc H',J hs st Hc->aP p Hc H'->aX H' p->J hs st H':=by
   rintro hs st Hc H' ⟨o1,o2,o3,o4⟩ se po;exact⟨o1.trans se,po,se _ _ o3 nph,se _ _ o4 nps⟩
  have kT:∀hs st Hc H',J hs st Hc->aI Hc H'->J hs st H':=fun hs st Hc H' i s=>jc hs st Hc H' i (aP.of s) (i.2.1.same s);have XC:∀hs st Hc,J hs st Hc->fR Hc O as n g:=fun hs st Hc j=>hO.eE j.1 hp qb;have J0:J [] [] (upd (upd (upd H p (.lst [.int a2,.int b2])) Lh (.lst [])) Ls (.lst [])):=⟨Gm.trans (aP.of s3),y6.same s3,by rw[ak LW];exact af,af⟩
  refine⟨_,rfl,_,rfl,_,_,rfl,rfl,p,_,rfl,by lia,by lia,J0.2.1,fun d a3 b3 d0 d1 k0 k1 k2=>⟨d,rfl,by lia,by lia,df (n:=d.toNat) (lo:=0) (fun i σ H3=>(∃v8 v9 HY,σ=[some (.ref p),some (.ref O),some (.int mo),some (.int n),some (.int pQ),some (.int first),some (.ref Lh),some (.ref Ls),v8,v9,HY])/\∃hs st,J hs st H3/\hs.length=i/\st.length=i/\eM n g st/\R8 n hs st)
   ⟨⟨_,_,_,rfl⟩,[],[],jc _ _ _ _ J0 aP.upd (aX.upd k0 k1 k2),rfl,rfl,⟨fun h hh=>(nomatch hh),fun h hh=>by simp⟩,⟨fun h hh=>(nomatch hh),fun i h e=>by cases e⟩⟩ ?_ ?_⟩⟩
  .rintro i σ H3 hi ⟨⟨v8,v9,HY,rfl⟩,hs,st,J3,lh,ls,R,BH⟩;have i16:i<17:=by
    have:d<17:=by lia
    lia
   refine⟨_,rfl,_,rfl,p,3,rfl,by decide,by decide,J3.2.1,fun d4 a4 b4 p4 q4 r4 s4 t4=>⟨_,_,rfl,rfl,_,rfl,_,rfl,p,n,rfl,by lia,by lia,aX.upd r4 s4 t4,fun d5 a5 b5 p5 q5 r5 s5 t5=>⟨by show 2<=sizeLine;decide,fun L1 WG=>?_⟩⟩⟩;have J5:=kT _ _ _ _ (jc _ _ _ _ (jc _ _ _ _ J3 aP.upd (aX.upd r4 s4 t4)) aP.upd (aX.upd r5 s5 t5)) (aj (o:=.lst [.int (first+d4),.int d5]) WG);refine⟨_,rfl,_,_,rfl,rfl,.inr ⟨_,rfl,L1,_,_,_,rfl,rfl,aU.of af,R6,_,rfl,_,_,rfl,rfl,by lia,?_⟩⟩;obtain⟨x,hx⟩:∃x:Nat,(x:Int)=(if (decide (pQ<2))=true then d5 else first+d4) % (n:Int):=⟨((if (decide (pQ<2))=true then d5 else first+d4) % (n:Int)).toNat,zG (jm _ (by lia))⟩
   have xn:x<n:=by
    have:=mX (if (decide (pQ<2))=true then d5 else first+d4) (show (0:Int)<n by lia);lia
   change bo 9 (V.int ((if (decide (pQ<2))=true then d5 else first+d4) % (n:Int))) _ _ _;rw[<-hx];revert J5;generalize upd _ L1 _=H5;intro J5;refine⟨_,rfl,_,rfl,_,rfl,p,n,rfl,by lia,by lia,J5.2.1,fun d6 a6 b6 p6 q6 r6 s6 t6=>⟨by show 2<=sizeLine;decide,fun L2 UV=>?_⟩⟩;have J6:=kT _ _ _ _ (jc _ _ _ _ J5 aP.upd (aX.upd r6 s6 t6)) (aj (o:=.lst [.int first,.int d6]) UV);refine⟨_,rfl,_,_,rfl,rfl,by show (0:Int)<2;decide,.inl ⟨_,rfl,L2,_,_,_,rfl,rfl,aU.of af,R7 y0,?_⟩⟩;change bo 10 (V.int (if pQ % 2=1 then d6 else first)) _ _ _;have hb:0<=(if pQ % 2=1 then d6 else first)/\(if pQ % 2=1 then d6 else first)<n:=by split <;> lia
   revert hb;generalize (if pQ % 2=1 then d6 else first)=home;intro hb;revert J6;generalize upd _ L2 _=H6;intro J6;refine⟨_,rfl,_,rfl,rfl,_,rfl,?_⟩;refine LV (fun σ Hc=>∃hm,σ=[some (.ref p),some (.ref O),some (.int mo),some (.int n),some (.int pQ),some (.int first),some (.ref Lh),some (.ref Ls),some (.int (0+(i:Int))),some (.int x),some (.int hm)]/\((0<=hm/\hm<n)/\hm≠(x:Int))/\J hs st Hc) ?_ (fun e kc=>?_) (fun e=>⟨_,rfl,⟨hb,fun z=>e (by rw[z];exact bE rfl)⟩,J6⟩)
   .rintro σ H7 ⟨hm,rfl,hmb,J7⟩;refine⟨_,rfl,p,9,rfl,by decide,by decide,J7.2.1,fun d8 a8 b8 p8 q8 r8 s8 t8=>⟨rfl,_,rfl,?_⟩⟩;have J8:=jc _ _ _ _ J7 aP.upd (aX.upd r8 s8 t8);have fin:∀ (y:Option Nat) (H9:Hp),J hs st H9->(∀z,y=some z->z<n/\st.count (some z)<(g z).length)->(∀z,y=some z->z=x)->J (hs++[hm]) (st++[y]) (upd (upd H9 Lh (.lst (HV hs++[.int hm]))) Ls (.lst (SV st++[j6 y]))):=by
     rintro y H9 ⟨o1,o2,o3,o4⟩ _ _;refine⟨dJ (dJ o1 hhH) hsH,?_,?_,?_⟩
     .obtain⟨u,v,e,r⟩:=o2;exact⟨u,v,by rw[ak nps.symm,ak nph.symm];exact e,r⟩
     .rw[ak LW,af];unfold HV;rw[List.map_append];rfl
     .rw[af];unfold SV;rw[List.map_append];rfl
    have N7:∀ (y:Option Nat) (H9:Hp),J hs st H9->(∀z,y=some z->z<n/\st.count (some z)<(g z).length)->(∀z,y=some z->z=x)->∃hs' aW,J hs' aW (upd (upd H9 Lh (.lst (HV hs++[.int hm]))) Ls (.lst (SV st++[j6 y])))/\hs'.length=i+1/\aW.length=i+1/\eM n g aW/\R8 n hs' aW:=
     fun y H9 j9 hy hyx=>⟨_,_,fin y H9 j9 hy hyx,by rw[cu,lh];rfl,by rw[cu,ls];rfl,R.push hy,fun h hh=>by
      rcases bV.mp hh with z|z
      .exact BH.1 h z
      .rw[cH.mp z];exact hmb.1,fun j h e=>by
      rw[Gp ls] at e;rw[Gp lh];by_cases c:j=i
      .rw[aq c] at e |-;rw[hyx h e];exact hmb.2
      .rw[ap c] at e |-;exact BH.2 j h e⟩
    have XD:(HV hs).length<sizeLine:=by rw[aF,lh];exact bT i16 (by decide)
    have XE:(SV st).length<sizeLine:=by rw[aF,ls];exact bT i16 (by decide)
    refine bW (fun e=>?_) (fun e=>?_)
    .refine lW ?_;exact⟨_,rfl,.inl ⟨rfl,_,aU.of J8.2.2.1⟩,_,rfl,Lh,_,_,rfl,rfl,J8.2.2.1,XD,_,rfl,.inl ⟨rfl,_,aU.of (by rw[ak LW.symm];exact J8.2.2.2)⟩,_,rfl,Ls,_,_,rfl,rfl,by rw[ak LW.symm];exact J8.2.2.2,XE,⟨_,_,_,rfl⟩,N7 none _ J8 (fun z hz=>by cases hz) (fun z hz=>by cases hz)⟩
    .have hO8:=XC _ _ _ J8;refine⟨_,rfl,.inl ⟨rfl,_,aU.of J8.2.2.2⟩,_,rfl,Ls,_,_,rfl,rfl,J8.2.2.2,rfl,JV,_,rfl,_,rfl,O,_,rfl,hO8.get xn,as.getD x 0,NV (g x),rfl,.inl (aU.of (hO8.rows.2 x xn)),rfl,_,rfl,?_⟩;refine bW (fun e2=>?_) (fun e2=>?_)
     .exact⟨_,rfl,.inl ⟨rfl,_,aU.of J8.2.2.1⟩,_,rfl,Lh,_,_,rfl,rfl,J8.2.2.1,XD,_,rfl,.inl ⟨rfl,_,aU.of (by rw[ak LW.symm];exact J8.2.2.2)⟩,_,rfl,Ls,_,_,rfl,rfl,by rw[ak LW.symm];exact J8.2.2.2,XE,⟨_,_,_,rfl⟩,N7 none _ J8 (fun z hz=>by cases hz) (fun z hz=>by cases hz)⟩
     .refine⟨_,rfl,.inl ⟨rfl,_,aU.of J8.2.2.1⟩,_,rfl,Lh,_,_,rfl,rfl,J8.2.2.1,XD,_,rfl,.inl ⟨rfl,_,aU.of (by rw[ak LW.symm];exact J8.2.2.2)⟩,_,rfl,Ls,_,_,rfl,rfl,by rw[ak LW.symm];exact J8.2.2.2,XE,⟨_,_,_,rfl⟩,N7 (some x) _ J8 (fun z hz=>?_) (fun z hz=>(ba hz).symm)⟩;cases hz;refine⟨xn,?_⟩;have:=R.2 x xn;refine Nat.lt_of_le_of_ne this fun z=>e2 (bE ?_);rw[yw,z,aF]
   .refine⟨_,rfl,_,_,rfl,rfl,_,rfl,_,rfl,_,_,rfl,rfl,p,_,rfl,by lia,by lia,J6.2.1,fun d7 a7 b7 p7 q7 r7 s7 t7=>⟨_,_,rfl,rfl,_,rfl,_,_,rfl,rfl,by lia,kc _ _ ⟨_,rfl,⟨⟨jm _ (by lia),mX _ (by lia)⟩,?_⟩,jc _ _ _ _ J6 aP.upd (aX.upd r7 s7 t7)⟩⟩⟩;have e:home=(x:Int):=by have:=bU e;injection this
    rw[e];exact JX xn p7 q7
  .rintro σ H3 ⟨⟨v8,v9,HY,rfl⟩,hs,st,J3,lh,ls,R,BH⟩;refine⟨_,rfl,Lh,_,rfl,.inl ⟨aU.of J3.2.2.1,fun a hA=>?_⟩⟩;have J4:=kT _ _ _ _ J3 (aj (o:=.tup (HV hs)) hA);refine⟨_,rfl,Ls,_,rfl,.inl ⟨aU.of J4.2.2.2,fun b hB=>?_⟩⟩;have J5:=kT _ _ _ _ J4 (aj (o:=.tup (SV st)) hB);refine⟨by show 2<=sizeLine;decide,fun t ht=>?_⟩;have J6:=kT _ _ _ _ J5 (aj (o:=.tup [.ref a,.ref b]) ht);have:d<17:=by lia
   exact q t a b hs st _ af (aj ht _ _ (aj hB _ _ af)) (aj ht _ _ af) (by lia) (by lia) R BH J6.1 J6.2.1
end
abbrev N_:Stmt:=gR 48
def LX(hs:List Int)(i:Nat):Option Nat->Option Nat
 |none=>none
 |some h=>if (h:Int)=hs.getD i 0 then none else some h
def Gr(hs:List Int)(gs:List (Option Nat))(k:Nat):List (Option Nat):=(List.range k).map fun i=>LX hs i (gs.getD i none)
def bh(hs:List Int)(gs:List (Option Nat)):List (Option Nat):=Gr hs gs gs.length
theorem Gs{hs:List Int}{gs:List (Option Nat)}{k:Nat}:Gr hs gs (k+1)=Gr hs gs k++[LX hs k (gs.getD k none)]:=by unfold Gr;rw[fJ,bK];rfl
theorem wM{hs:List Int}{gs:List (Option Nat)}{k:Nat}:(Gr hs gs k).length=k:=by unfold Gr;rw[aF,dD]
theorem AU{s:List (Option Nat)}{i:Nat}{x:V}(h:(SV s)[i]?=some x):i<s.length/\x=j6 (s.getD i none):=by
 rw[bp] at h;cases e:s[i]? with
 |none=>rw[e] at h;cases h
 |some a=>
  rw[e] at h;refine⟨(cI.mp e).1,?_⟩;rw[bH,e];exact(ba h).symm
theorem dW{s:List (Option Nat)}{i:Nat}(h:i<s.length):fT (SV s) (i:Int)=some (j6 (s.getD i none)):=by
 refine br ?_;rw[bp,b9 h,bH,b9 h];rfl
theorem iN{s:List Int}{i:Nat}(h:i<s.length):fT (HV s) (i:Int)=some (.int (s.getD i 0)):=by
 refine br ?_;rw[bp,b9 h,bH,b9 h];rfl
theorem JY{s:List (Option Nat)}{o:Option Nat}:SV (s++[o])=SV s++[j6 o]:=by unfold SV;rw[bK];rfl
theorem LY:(["_law_i","_law_house","_law_homes"]:List Str).Nodup:=by decide +kernel
section
variable {P:Program} {w:World} {K:PySem.W.Frag} {mg:Str->Option Value} {base:Heap}
theorem R9:aJ ["_law_homes","_law_stand","_law_gone"] ["_law_homes","_law_stand","_law_gone"] (am N_):=⟨rfl,rfl,rfl,by decide +kernel,rfl,by decide +kernel,by decide +kernel⟩
def Gu:Sp:=fun vs H Q _=>∃ (a c:Addr) (y:V) (hs:List Int) (gs:List (Option Nat)),vs=[.ref a,y,.ref c]/\H a=some (.tup (HV hs))/\H c=some (.tup (SV gs))/\gs.length=hs.length/\gs.length<=16/\
 ∀ (r:Addr) (H':Hp),aI H H'->H' r=some (.tup (SV (bh hs gs)))->Q (.ref r) H'
theorem Oa{f:Addr}{fd:FuncData}(F:fW K "_law_behind" "_law_behind" N_ f fd)(B:Bl mg):bC P w K mg base bi 1 f fd ["_law_homes","_law_stand","_law_gone"] Gu:=by
 refine F.ok R9 (fun vs H Q E h=>?_) (fun dE A outer s H vs Q E hr h=>?_)
 .obtain⟨a,c,y,hs,gs,rfl,_⟩:=h;rfl
 .obtain⟨a,c,y,hs,gs,rfl,ha,hc,hl,HZ,q⟩:=h;refine'⟨_,al (aH (cr gm (by rfl) B.tup qK (aa ?c ag))),?_⟩;case c=>
   refine' cm (g:=rh K 2 (fq (bo 0) (fq (bo 1) rf))) (te:=ZS (ZR (tB (Qg (aV 1))) (jW (iA Up (aV 1) (iA (xx K) (aV 2) (aV 0))))) (tC .bR) (aV 1)) (NB:=["_law_i","_law_house","_law_homes"]) (src:=[none,none,some 0]) (bY (by kernel_rfl)) rfl
    (rM rfl B.enum (aa (pv 2) ag)) ?g ?t ?e
   case g=>exact fun cl C s₃ H₃ fp=>fw (n:=2) rfl (a9 (au (i:=0) LY rfl (Or.inl rfl) (Or.inr rfl)) (a9 (au (i:=1) LY rfl (Or.inl rfl) (Or.inr rfl)) dZ))
   case t=>exact fun cl C s₃ H₃ fp=>eQ
   case e=>exact fun cl C s₃ H₃ fp=>xi (PW.pt (pB (vB (Mu (pv 1))) (mB (aL eN (pv 1) (az aZ (pv 2) (pv 0) (fun _ _=>rfl)) (aG _))))) cS (pv 1)
  refine⟨_,rfl,c,_,rfl,cK.of hc,fun D hD=>?_⟩;have fin:∀i ys H3 t o,ys=SV (Gr hs gs i)->aI H H3->H3 D=some (.lst ys)->H3 t=none->i<gs.length->LX hs i (gs.getD i none)=o->
    (upd H3 t (.tup [.int (i:Int),j6 (gs.getD i none)])) D=some (.lst ys)/\ys.length<sizeLine/\ys++[j6 o]=SV (Gr hs gs (i+1))/\aI H (upd (upd H3 t (.tup [.int (i:Int),j6 (gs.getD i none)])) D (.lst (ys++[j6 o])))/\(upd (upd H3 t (.tup [.int (i:Int),j6 (gs.getD i none)])) D (.lst (ys++[j6 o]))) D=some (.lst (ys++[j6 o])):=by
   rintro i ys H3 t o rfl sm jY ht hi rfl;refine⟨aj ht _ _ jY,?_,?_,fun b u e=>?_,af⟩
   .rw[aF,wM];exact bT (show i<17 by lia) (by decide)
   .rw[Gs,JY]
   .rw[ak (ai e hD)];exact aj ht _ _ (sm _ _ e)
  refine rN (K:=K) (a:=c) (xs:=SV gs) (fun i ys σ H3=>(∃u v,σ=[u,v,some (.ref a)])/\ys=SV (Gr hs gs i)/\aI H H3/\H3 D=some (.lst ys)) ⟨⟨_,_,rfl⟩,rfl,aj hD,af⟩ (fun i ys σ H3 _ z=>cK.of (z.2.2.1 _ _ hc)) ?_ ?_
  .rintro i x t ys σ H3 Kt Kf hx ⟨⟨u,v,rfl⟩,tj,sm,jY⟩ ht kt kf;obtain⟨hi,rfl⟩:=AU hx;refine⟨_,_,rfl,cK.of af,rfl,_,_,rfl,_,_,rfl,rfl,?_⟩;refine⟨_,rfl,_,rfl,?_⟩;cases ho:gs.getD i none with
   |none=>
    obtain⟨f1,f2,f3,f4,f5⟩:=fin i ys H3 t none tj sm jY ht hi (by rw[ho];rfl);rw[ho] at f1 f4 f5;refine bW (fun e=>?_) (fun e=>absurd (bE rfl) e);exact lW (kt _ _ _ f1 f2 ⟨⟨_,_,rfl⟩,f3,f4,f5⟩)
   |some h=>
    refine bW (fun e=>absurd (bU e) (by intro z;cases z)) (fun e=>?_);refine⟨_,rfl,_,rfl,_,rfl,a,_,_,_,rfl,rfl,cK.of (aj ht _ _ (sm _ _ ha)),iN (by lia),rfl,_,rfl,?_⟩;refine bW (fun e2=>?_) (fun e2=>?_)
    .have e3:(h:Int)=hs.getD i 0:=V.int.inj (bU e2);obtain⟨f1,f2,f3,f4,f5⟩:=fin i ys H3 t none tj sm jY ht hi (by rw[ho];exact aq e3);rw[ho] at f1 f4 f5;exact kt _ _ _ f1 f2 ⟨⟨_,_,rfl⟩,f3,f4,f5⟩
    .have e3:¬ (h:Int)=hs.getD i 0:=fun z=>e2 (bE (by show V.int (h:Int)=V.int (hs.getD i 0);rw[z]));obtain⟨f1,f2,f3,f4,f5⟩:=fin i ys H3 t (some h) tj sm jY ht hi (by rw[ho];exact ap e3);rw[ho] at f1 f4 f5;exact⟨_,rfl,kt _ _ _ f1 f2 ⟨⟨_,_,rfl⟩,f3,f4,f5⟩⟩
  .rintro ys σ H3 ⟨_,rfl,sm,jY⟩;rw[show (SV gs).length=gs.length from aF _] at jY;exact⟨D,_,rfl,.inl ⟨aU.of jY,fun r hr=>q r _ (sm.trans (aj hr)) af⟩⟩
end
theorem uJ:∀ {l m:List Nat},l.Nodup->(∀x∈l,x∈m)->l.length<=m.length
 |[],m,_,_=>dG _
 |a::l,m,nd,sub=>by
  have ha:a∈m:=sub a cA;have ih:=uJ (l:=l) (m:=m.erase a) (dQ.mp nd).2 fun x hx=>(zu (show x≠a from fun z=>(dQ.mp nd).1 (by rw[<-z];exact hx))).mpr (sub x (cN _ hx));rw[zf ha] at ih;have:=qM ha;rw[cx];lia
theorem yx{s:List (Option Nat)}{a:Option Nat}:s.count a=((List.range s.length).filter fun i=>s.getD i none==a).length:=by
 have e:(List.range s.length).map (fun i=>s.getD i none)=s:=by
  apply zN;intro i;rw[bp];by_cases hi:i<s.length
  .rw[kh hi,b9 hi];show some (s.getD i none)=_;rw[bH,b9 hi];rfl
  .rw[iD (by rw[dD];lia),iD (by lia)];rfl
 conv=>lhs;rw[<-e]
 rw[List.count_eq_countP,List.countP_map,Ec];rfl
structure dw(g:Nat->List Nat)(s gs:List (Option Nat)):Prop where
 len:gs.length=s.length
 bR:∀i,s.getD i none=none->gs.getD i none=none
 tie:∀i h,s.getD i none=some h->∃o,gs.getD i none=some o/\o∈g h
 UW:∀i j h o,s.getD i none=some h->s.getD j none=some h->gs.getD i none=some o->gs.getD j none=some o->i=j
theorem aT{s:List (Option Nat)}{i h:Nat}(e:s.getD i none=some h):i<s.length/\some h∈s:=by
 rw[bH] at e;cases z:s[i]? with
 |none=>rw[z] at e;cases e
 |some a=>
  rw[z] at e;have e':a=some h:=e;exact⟨(cI.mp z).1,e' ▸ eB z⟩
theorem AV{s:List (Option Nat)}{h:Nat}(e:some h∈s):∃i,i<s.length/\s.getD i none=some h:=by
 obtain⟨i,hi⟩:=List.getElem?_of_mem e;exact⟨i,(cI.mp hi).1,by rw[bH,hi];rfl⟩
theorem dw.right{n:Nat}{g:Nat->List Nat}{s gs t:List (Option Nat)}(Hd:dw g s gs)(G:fE n g)(R:eM n g s)(hl:t.length=gs.length)(ht:∀i,t.getD i none=none\/t.getD i none=gs.getD i none):eM n g t:=by
 have key:∀i x,t.getD i none=some x->∃h,s.getD i none=some h/\h<n/\x∈g h/\gs.getD i none=some x:=by
  intro i x e;have e2:gs.getD i none=some x:=by
   rcases ht i with z|z
   .rw[z] at e;cases e
   .rw[<-z];exact e
  cases es:s.getD i none with
  |none=>rw[Hd.bR i es] at e2;cases e2
  |some h=>
   obtain⟨o,o1,o2⟩:=Hd.tie i h es;rw[e2] at o1;cases o1;exact⟨h,rfl,R.1 h (aT es).2,o2,e2⟩
 refine⟨fun x hx=>?_,fun x hx=>?_⟩
 .obtain⟨i,_,e⟩:=AV hx;obtain⟨h,_,hn,ho,_⟩:=key i x e;exact(G.lt h hn x ho).1
 .rw[yx,G.Jt x hx];unfold inn;rw[Ec,<-aF (f:=fun i=>(s.getD i none).getD 0)];refine uJ ?_ fun y hy=>?_
  .refine jO.mpr ?_;refine zh ?_ (l3 _ (l_ (n:=t.length)));intro i j hi hj Jk e;have ei:=eq_of_beq (cf.mp hi).2;have ej:=eq_of_beq (cf.mp hj).2;obtain⟨h1,a1,_,_,b1⟩:=key i x ei;obtain⟨h2,a2,_,_,b2⟩:=key j x ej;have e':(s.getD i none).getD 0=(s.getD j none).getD 0:=e;rw[a1,a2] at e';have e'':h1=h2:=e';subst e'';exact Jk (Hd.UW i j h1 x a1 a2 b1 b2)
  .obtain⟨i,hi,rfl⟩:=bO.mp hy;obtain⟨h,a,hn,ho,_⟩:=key i x (eq_of_beq (cf.mp hi).2);refine cf.mpr ⟨?_,?_⟩
   .rw[a];exact bu.mpr hn
   .rw[a];exact bE ho
theorem LZ{hs:List Int}{gs:List (Option Nat)}(i:Nat):(bh hs gs).getD i none=none\/(bh hs gs).getD i none=gs.getD i none:=by
 by_cases hi:i<gs.length
 .have e:(bh hs gs).getD i none=LX hs i (gs.getD i none):=by
   unfold bh Gr;rw[bH,bp,kh hi];rfl
  rw[e];cases gs.getD i none with
  |none=>exact .inl rfl
  |some h=>
   unfold LX;dsimp only;by_cases z:(h:Int)=hs.getD i 0
   .rw[aq z];exact .inl rfl
   .rw[ap z];exact .inr rfl
 .left;rw[bH,iD (by unfold bh;rw[wM];lia)];rfl
theorem wN{hs:List Int}{gs:List (Option Nat)}:(bh hs gs).length=gs.length:=wM
def lI(p:Nat×Nat):List dS:=[.inl (p.1:Int),.inl (p.2:Int)]
def DI(ps:List (Nat×Nat)):List (List dS×V):=ps.map fun p=>(lI p,V.bl true)
theorem Gv{p q:Nat×Nat}(h:lI p=lI q):p=q:=by
 obtain⟨a,b⟩:=p;obtain⟨c,d⟩:=q;unfold lI at h;have h1:=(z6 h).1;have h2:=(z6 (z6 h).2).1;have e1:=mq h1;have e2:=mq h2;dsimp only at e1 e2;congr 1 <;> lia
theorem lA{p:Nat×Nat}:∀ {ps:List (Nat×Nat)},(gg (DI ps) (lI p)).isSome=decide (p∈ps)
 |[]=>by simp[DI,gg]
 |q::ps=>by
  have ih:=lA (p:=p) (ps:=ps);unfold DI gg at ih |-;rw[cM,me];by_cases e:q=p
  .subst e;simp
  .have:(decide (lI q=lI p))=false:=dk fun z=>e (Gv z);simp only[this];rw[ih];have e':¬ p=q:=fun z=>e z.symm;simp[e']
theorem Gw{p:Nat×Nat}{ps:List (Nat×Nat)}(h:p∉ps):gg (DI ps) (lI p)=none:=by
 have:=lA (p:=p) (ps:=ps);rw[dk h] at this;cases e:gg (DI ps) (lI p) with
 |none=>rfl
 |some v=>rw[e] at this;cases this
theorem Gx{p:Nat×Nat}{ps:List (Nat×Nat)}:DI (ps++[p])=DI ps++[(lI p,V.bl true)]:=by unfold DI;rw[bK];rfl
theorem Gy{m:Nat}:(List.replicate m [V.bR]).flatten=SV (List.replicate m none):=by
 induction m with
 |zero=>rfl
 |succ m ih=>
  rw[l5,qR,ih,l5];rfl
def y7(s:List (Option Nat))(k:Nat):List Nat:=(List.range k).filter fun i=>(s.getD i none).isSome
theorem Cb{s:List (Option Nat)}{k:Nat}:(y7 s k).length<=k:=by
 unfold y7;refine bj (jN _ _) ?_;rw[dD];exact bf _
def gW(s gl:List (Option Nat))(pre:List Nat):List (Nat×Nat):=pre.map fun i=>((s.getD i none).getD 0,(gl.getD i none).getD 0)
structure DZ(g:Nat->List Nat)(s gl:List (Option Nat))(pre:List Nat):Prop where
 len:gl.length=s.length
 out:∀i,i∉pre->gl.getD i none=none
 inn:∀i∈pre,∃h o,s.getD i none=some h/\gl.getD i none=some o/\o∈g h
 nd:(gW s gl pre).Nodup
theorem lm{n:Nat}{g:Nat->List Nat}{s gl:List (Option Nat)}{pre:List Nat}{i h:Nat}(M:DZ g s gl pre)(np:(pre++[i]).Nodup)(R:eM n g s)(G:fE n g)(hs:s.getD i none=some h):0<((g h).filter fun o=>decide ((h,o)∉gW s gl pre)).length:=by
 refine Nat.pos_of_ne_zero fun z=>?_;have hn:h<n:=R.1 h (aT hs).2;have all:∀o∈g h,(h,o)∈gW s gl pre:=by
  intro o ho;by_cases e:(h,o)∈gW s gl pre
  .exact e
  .have:o∈(g h).filter fun o=>decide ((h,o)∉gW s gl pre):=cf.mpr ⟨ho,bE e⟩;rw[Ea z] at this;cases this
 have h1:(g h).length<=((gW s gl pre).filter fun p=>p.1==h).length:=by
  rw[<-aF (f:=fun p:Nat×Nat=>p.2)];refine uJ (G.nd h hn) fun o ho=>bO.mpr ⟨(h,o),cf.mpr ⟨all o ho,by simp⟩,rfl⟩
 have h2:((gW s gl pre).filter fun p=>p.1==h).length=(pre.filter fun i=>(s.getD i none).getD 0==h).length:=by
  unfold gW;rw[y9,aF];rfl
 have h3:(i::pre.filter fun i=>(s.getD i none).getD 0==h).length<=s.count (some h):=by
  rw[yx];obtain⟨n1,n2,n3⟩:=lN.mp np;refine uJ (dQ.mpr ⟨fun z=>n3 i (cf.mp z).1 i (cH.mpr rfl) rfl,l3 _ n1⟩) fun x hx=>?_;rcases bZ.mp hx with rfl|hx
  .exact cf.mpr ⟨bu.mpr (aT hs).1,by rw[hs];simp⟩
  .obtain⟨p1,p2⟩:=cf.mp hx;obtain⟨h',o,a,_,_⟩:=M.inn x p1;rw[a] at p2;have p3:h'=h:=eq_of_beq p2;subst p3;exact cf.mpr ⟨bu.mpr (aT a).1,by rw[a];simp⟩
 rw[cx] at h3;have:=R.2 h hn;lia
theorem et{gl:List (Option Nat)}{i j:Nat}{x:Option Nat}(h:i<gl.length):(gl.set i x).getD j none=if j=i then x else gl.getD j none:=by
 rw[bH,bH,List.getElem?_set];by_cases e:i=j
 .subst e;rw[aq rfl,aq h,aq rfl];rfl
 .rw[ap e,ap (fun z=>e z.symm)]
theorem JZ{s gl:List (Option Nat)}{pre:List Nat}{i:Nat}{x:Option Nat}(h:i<gl.length)(hp:i∉pre):gW s (gl.set i x) pre=gW s gl pre:=by
 unfold gW;refine kg fun j hj=>?_;have XF:j≠i:=by rintro rfl;exact hp hj
 rw[et h,ap XF]
theorem DZ.step{g:Nat->List Nat}{s gl:List (Option Nat)}{pre:List Nat}{i h o:Nat}(M:DZ g s gl pre)(hp:i∉pre)(hs:s.getD i none=some h)(ho:o∈g h)(hf:(h,o)∉gW s gl pre):DZ g s (gl.set i (some o)) (pre++[i])/\gW s (gl.set i (some o)) (pre++[i])=gW s gl pre++[(h,o)]:=by
 have hi:i<gl.length:=by rw[M.len];exact(aT hs).1
 have e:gW s (gl.set i (some o)) (pre++[i])=gW s gl pre++[(h,o)]:=by
  have:gW s (gl.set i (some o)) (pre++[i])=gW s (gl.set i (some o)) pre++gW s (gl.set i (some o)) [i]:=by unfold gW;rw[bK]
  rw[this,JZ hi hp];congr 1;unfold gW;rw[cM,ii,et hi,aq rfl,hs];rfl
 refine⟨⟨by rw[md];exact M.len,fun j hj=>?_,fun j hj=>?_,?_⟩,e⟩
 .rw[et hi,ap (fun z=>hj (bV.mpr (.inr (cH.mpr z))))];exact M.out j (fun z=>hj (bV.mpr (.inl z)))
 .rw[et hi];rcases bV.mp hj with z|z
  .have XF:j≠i:=by rintro rfl;exact hp z
   rw[ap XF];exact M.inn j z
  .rw[aq (cH.mp z),cH.mp z];exact⟨h,o,hs,rfl,ho⟩
 .rw[e];exact lN.mpr ⟨M.nd,dQ.mpr ⟨(fun z=>nomatch z),jT⟩,fun u hu v hv z=>hf (by rw[cH] at hv;rw[<-hv,<-z];exact hu)⟩
theorem DZ.done{g:Nat->List Nat}{s gl:List (Option Nat)}{pre:List Nat}(M:DZ g s gl pre)(hp:pre.Perm (y7 s s.length)):dw g s gl:=by
 have mem:∀i h,s.getD i none=some h->i∈pre:=fun i h e=>hp.mem_iff.mpr (cf.mpr ⟨bu.mpr (aT e).1,by rw[e];rfl⟩);refine⟨M.len,fun i e=>?_,fun i h e=>?_,fun i j h o a b c d=>?_⟩
 .refine M.out i fun z=>?_;obtain⟨h,_,y,_⟩:=M.inn i z;rw[e] at y;cases y
 .obtain⟨h',o,a,b,c⟩:=M.inn i (mem i h e);rw[e] at a;cases a;exact⟨o,b,c⟩
 .have n1:=M.nd;unfold gW at n1;by_cases z:i=j
  .exact z
  .have hn:=jO.mp n1;have hi:=mem i h a;have hj:=mem j h b;obtain⟨x,hx,ex⟩:=lL.mp hi;obtain⟨y,hy,ey⟩:=lL.mp hj;have hq:=tT.mp hn;rcases Nat.lt_trichotomy x y with l|l|l
   .refine absurd ?_ (hq x y hx hy l);rw[ex,ey,a,b,c,d]
   .subst l;rw[ex] at ey;exact ey
   .refine absurd ?_ (hq y x hy hx l);rw[ex,ey,a,b,c,d]
theorem DZ.nil{g:Nat->List Nat}{s:List (Option Nat)}:DZ g s (List.replicate s.length none) []:=by
 refine⟨qI,fun i _=>?_,fun i hi=>(nomatch hi),jT⟩;rw[bH,zi];split <;> rfl
section
variable {P:Program} {w:World} {K:PySem.W.Frag} {mg:Str->Option Value} {base:Heap}
end
def pR(f:Nat->List (Option Nat))(k:Nat)(x:List (Option Nat)):Nat->List (Option Nat):=fun j=>if j=k then x else f j
theorem iq{f:Nat->List (Option Nat)}{k:Nat}{x:List (Option Nat)}:pR f k x k=x:=by unfold pR;rw[aq rfl]
theorem ir{f:Nat->List (Option Nat)}{k j:Nat}{x:List (Option Nat)}(h:j≠k):pR f k x j=f j:=by unfold pR;rw[ap h]
structure qc(n:Nat)(g:Nat->List Nat)(hs:List Int)(L:Nat)(ss ls:Nat->List (Option Nat))(ns:List Int):Prop where
 tie:∀b,b<L->dw g (ss b) (ls b)
 next:∀b,b<L->∀i,(ss b).getD i none≠none->(ss (b+1)).getD i none=LX hs i ((ls b).getD i none)
 fresh:∀z:Nat,(z:Int)∈ns->∀b,b<=L->(ss b).getD z none=none
 out:∀b,b<L->∀i,(ss b).getD i none≠none->(ss (b+1)).getD i none=none->∀c,b<c->c<=L->(ss c).getD i none=none
 lt:∀b,b<=L->∀i h,(ss b).getD i none=some h->h<n
theorem wO{hs:List Int}{gs:List (Option Nat)}{i:Nat}:(bh hs gs).getD i none=LX hs i (gs.getD i none):=by
 unfold bh Gr;by_cases h:i<gs.length
 .rw[bH,bp,kh h];rfl
 .rw[bH,bp,iD (by rw[dD];lia),bH,iD (by lia)];rfl
theorem qc.start{n:Nat}{g:Nat->List Nat}{hs ns:List Int}{s:List (Option Nat)}{ls:Nat->List (Option Nat)}(h1:∀z:Nat,(z:Int)∈ns->s.getD z none=none)(h2:∀i h,s.getD i none=some h->h<n):qc n g hs 0 (fun _=>s) ls ns:=
 ⟨fun b hb=>absurd hb (by lia),fun b hb=>absurd hb (by lia),fun z hz b _=>h1 z hz,fun b hb=>absurd hb (by lia),fun b _=>h2⟩
theorem qc.push{n:Nat}{g:Nat->List Nat}{hs ns XG:List Int}{L:Nat}{ss ls:Nat->List (Option Nat)}{gs s':List (Option Nat)}(R:qc n g hs L ss ls ns)(Hd:dw g (ss L) gs)(k:∀i:Nat,(i:Int)∉ns->s'.getD i none=(bh hs gs).getD i none)(m:∀z∈XG,z∈ns)(f:∀z:Nat,(z:Int)∈XG->s'.getD z none=none)(l:∀i h,s'.getD i none=some h->h<n):qc n g hs (L+1) (pR ss (L+1) s') (pR ls L gs) XG:=by
 have eS:∀b,b<=L->pR ss (L+1) s' b=ss b:=fun b hb=>ir (by lia);have L3:∀b,b<=L->∀i,(ss b).getD i none≠none->(i:Int)∉ns:=fun b hb i h z=>h (R.fresh i z b hb);refine⟨fun b hb=>?_,fun b hb i h=>?_,fun z hz b hb=>?_,fun b hb i h1 h2 c hc1 R_=>?_,fun b hb i h e=>?_⟩
 .rw[eS b (by lia)];by_cases e:b=L
  .subst e;rw[iq];exact Hd
  .rw[ir e];exact R.tie b (by lia)
 .rw[eS b (by lia)] at h;by_cases e:b=L
  .subst e;rw[iq,iq,k i (L3 b (bf _) i h),wO]
  .rw[ir e,eS (b+1) (by lia)];exact R.next b (by lia) i h
 .by_cases e:b=L+1
  .rw[e,iq];exact f z hz
  .rw[ir e];exact R.fresh z (m _ hz) b (by lia)
 .rw[eS b (by lia)] at h1;by_cases e:c=L+1
  .subst e;by_cases e2:b=L
   .subst e2;exact h2
   .rw[eS (b+1) (by lia)] at h2;have z:=R.out b (by lia) i h1 h2 L (by lia) (bf _);rw[iq,k i (L3 b (by lia) i h1),wO,Hd.bR i z];rfl
  .rw[ir e];rw[eS (b+1) (by lia)] at h2;exact R.out b (by lia) i h1 h2 c hc1 (by lia)
 .by_cases e':b=L+1
  .rw[e',iq] at e;exact l i h e
  .rw[ir e'] at e;exact R.lt b (by lia) i h e
section
variable {P:Program} {w:World} {K:PySem.W.Frag} {mg:Str->Option Value} {base:Heap}
end
def Gz(s l:List (Option Nat)):Prop:=l.length=s.length/\(∀i,s.getD i none=none->l.getD i none=none)/\∀i h,s.getD i none=some h->∃o,l.getD i none=some o/\o≠h
def cQ(H:Hp)(SA LA:Addr)(bJ bB:List Addr)(m L:Nat)(ss ls:Nat->List (Option Nat)):Prop:=
 H SA=some (.lst (bJ.map V.ref))/\H LA=some (.lst (bB.map V.ref))/\Holds H bJ (L+1) (fun b=>.tup (SV (ss b)))/\Holds H bB L (fun b=>.tup (SV (ls b)))/\(∀b,b<=L->(ss b).length=m)/\∀b,b<L->Gz (ss b) (ls b)
def sI(H H':Hp):Prop:=∀b xs,H b=some (.tup xs)->H' b=some (.tup xs)
theorem sI.trans{H H1 H2:Hp}(a:sI H H1)(b:sI H1 H2):sI H H2:=fun c o h=>b c o (a c o h)
theorem sI.of{H H':Hp}(s:aI H H'):sI H H':=fun b xs e=>s _ _ e
theorem sI.ofE{H H':Hp}{p:Addr}(s:aP p H H')(hp:aX H p):sI H H':=fun b xs e=>s _ _ e (by rintro rfl;obtain⟨u,v,z,_⟩:=hp;rw[z] at e;cases e)
theorem sI.upd{H:Hp}{c:Addr}{o:HO}{ys:List V}(h:H c=some (.lst ys)):sI H (upd H c o):=fun b xs e=>by rw[ak (by rintro rfl;rw[h] at e;cases e)];exact e
abbrev yy:=pR
theorem jM{f:Nat->List (Option Nat)}{k:Nat}{x:List (Option Nat)}:yy f k x k=x:=iq
theorem iO{f:Nat->List (Option Nat)}{k j:Nat}{x:List (Option Nat)}(h:j≠k):yy f k x j=f j:=ir h
theorem uK{H H':Hp}{as:List Addr}{L:Nat}{f:Nat->List (Option Nat)}{r:Addr}{x:List (Option Nat)}(h:Holds H as L (fun b=>.tup (SV (f b))))(kt:sI H H')(hr:H' r=some (.tup (SV x))):Holds H' (as++[r]) (L+1) (fun b=>.tup (SV (yy f L x b))):=by
 refine Holds.snoc ⟨h.1,fun j hj=>?_⟩ (by rw[jM];exact hr);show _=some (HO.tup (SV (yy f L x j)));rw[iO (by lia)];exact kt _ _ (h.2 j hj)
theorem cQ.push{H H':Hp}{SA LA r r2:Addr}{bJ bB:List Addr}{m L:Nat}{ss ls:Nat->List (Option Nat)}{gs s':List (Option Nat)}(h:cQ H SA LA bJ bB m L ss ls)(kt:sI H H')(hS:H' SA=some (.lst ((bJ++[r2]).map V.ref)))(hL:H' LA=some (.lst ((bB++[r]).map V.ref)))(hr:H' r=some (.tup (SV gs)))(PM:H' r2=some (.tup (SV s')))(hm:s'.length=m)(mv:Gz (ss L) gs):cQ H' SA LA (bJ++[r2]) (bB++[r]) m (L+1) (yy ss (L+1) s') (yy ls L gs):=by
 obtain⟨h1,h2,h3,h4,h5,h6⟩:=h;refine⟨hS,hL,uK h3 kt PM,uK h4 kt hr,fun b hb=>?_,fun b hb=>?_⟩
 .by_cases e:b=L+1
  .rw[e,jM];exact hm
  .rw[iO e];exact h5 b (by lia)
 .rw[iO (show b≠L+1 by lia)];by_cases e:b=L
  .rw[e,jM];exact mv
  .rw[iO e];exact h6 b (by lia)
def sJ(s:List (Option Nat)):Prop:=∀h,some h∈s->h<32
theorem kW{bJ:List Addr}{k:Nat}(h:bJ.length=k+1):fT (bJ.map V.ref) (-1)=some (.ref (bJ.getD k 0)):=by
 rcases nZ bJ with e|⟨l,x,e⟩
 .subst e;cases h
 .subst e;rw[n5] at h |-;have hl:l.length=k:=by rw[cu] at h;simpa using h
  rw[bK,bD hl,aq rfl];exact kJ _ _
theorem dw.moves{n:Nat}{g:Nat->List Nat}{s gs:List (Option Nat)}(Hd:dw g s gs)(G:fE n g)(R:eM n g s):Gz s gs:=by
 refine⟨Hd.len,Hd.bR,fun i h e=>?_⟩;obtain⟨o,o1,o2⟩:=Hd.tie i h e;exact⟨o,o1,(G.lt h (R.1 h (aT e).2) o o2).2⟩
theorem GA{js:List Nat}:HV (js.map fun (i:Nat)=>(i:Int))=NV js:=by unfold HV NV;rw[fV];rfl
section
variable {P:Program} {w:World} {K:PySem.W.Frag} {mg:Str->Option Value} {base:Heap}
end
abbrev oX:Stmt:=gR 8
abbrev lr:Stmt:=gR 9
abbrev wP:Stmt:=gR 16
abbrev GB:Stmt:=gR 23
theorem iK{K:PySem.W.Frag}:PySem.W.kitOne K (.type "int") (.type "int")=some true:=by kernel_rfl
theorem hU{K:PySem.W.Frag}:PySem.W.kitOne K (.type "int") (.type "bool")=some false:=by kernel_rfl
theorem lX{K:PySem.W.Frag}:PySem.W.kitOne K (.type "list") (.type "list")=some true:=by kernel_rfl
def J1(lo hi i:Int):Bool:=decide (lo<=i)&&decide (i<=hi)
theorem lB{lo hi i:Int}:J1 lo hi i=true↔lo<=i/\i<=hi:=by unfold J1;rw[cX,dP,dP]
def jH:Sp:=fun vs H Q _=>∃i:Int,vs=[.int i]/\Q (.bl true) H
def gJ:Sp:=fun vs H Q _=>∃i lo hi:Int,vs=[.int i,.int lo,.int hi]/\Q (.bl (J1 lo hi i)) H
def eU(m L:Nat)(ss:Nat->List (Option Nat))(i b:Int):Bool:=J1 0 ((L:Int)-1) b&&(J1 0 ((m:Int)-1) i&&((ss b.toNat).getD i.toNat none).isSome)
def kX:Sp:=fun vs H Q _=>∃ (SA LA:Addr) (bJ bB:List Addr) (m L:Nat) (ss ls:Nat->List (Option Nat)) (i b:Int),vs=[.ref SA,.ref LA,.int i,.int b]/\cQ H SA LA bJ bB m L ss ls/\Q (.bl (eU m L ss i b)) H
def fX(m L:Nat)(ss:Nat->List (Option Nat))(i b:Int)(h:Nat):Bool:=eU m L ss i b&&decide ((ss b.toNat).getD i.toNat none=some h)
def AW:Sp:=fun vs H Q _=>∃ (SA LA:Addr) (bJ bB:List Addr) (m L:Nat) (ss ls:Nat->List (Option Nat)) (i b:Int) (h:Nat),vs=[.ref SA,.ref LA,.int i,.int b,.int h]/\cQ H SA LA bJ bB m L ss ls/\Q (.bl (fX m L ss i b h)) H
theorem fj{as:List Addr}{k:Nat}(h:k<as.length):fT (as.map V.ref) (k:Int)=some (.ref (as.getD k 0)):=by
 refine br ?_;rw[bp,b9 h,bH,b9 h];rfl
theorem iw{m L:Nat}{ss:Nat->List (Option Nat)}{i b:Int}(h:eU m L ss i b=true):∃ (j c:Nat) (x:Nat),i=j/\b=c/\j<m/\c<L/\(ss c).getD j none=some x:=by
 unfold eU at h;rw[cX,cX,lB,lB] at h;obtain⟨h1,h2,h3⟩:=h;obtain⟨x,hx⟩:=nY.mp h3;exact⟨i.toNat,b.toNat,x,by lia,by lia,by lia,by lia,hx⟩
theorem i7{m L:Nat}{ss:Nat->List (Option Nat)}{j c x:Nat}(hj:j<m)(hc:c<L)(h:(ss c).getD j none=some x):eU m L ss j c=true:=by
 unfold eU;rw[cX,cX,lB,lB];refine⟨⟨by lia,by lia⟩,⟨by lia,by lia⟩,?_⟩;rw[cW,cW,h];rfl
section
variable {P:Program} {w:World} {K:PySem.W.Frag} {mg:Str->Option Value} {base:Heap}
theorem ww:aJ ["thing"] ["thing"] (am oX):=⟨rfl,rfl,rfl,by decide +kernel,rfl,by decide +kernel,by decide +kernel⟩
theorem sf{f:Addr}{fd:FuncData}(F:fW K "is_whole" "is_whole" oX f fd)(B:Bl mg):bC P w K mg base bi 1 f fd ["thing"] jH:=by
 refine F.ok ww (fun vs H Q E h=>?_) (fun dE A outer s H vs Q E hr h=>?_)
 .obtain⟨i,rfl,_⟩:=h;rfl
 .obtain⟨i,rfl,k⟩:=h;refine⟨_,al (aH (f_ (av eX (by rfl) B.DV j7 (aa (pv 0) (aa (fK (v:=.ty "int") rfl B.int mV rfl) ag)))
   (gO (z9 (av eX (by rfl) B.DV j7 (aa (pv 0) (aa (fK (v:=.ty "bool") rfl B.bool uY rfl) ag))))))),?_⟩
  refine⟨_,rfl,_,_,_,.type "int",true,rfl,⟨rfl,iK⟩,.of (.int _),true,rfl,?_⟩;exact⟨_,rfl,_,_,_,.type "int",false,rfl,⟨rfl,hU⟩,.of (.int _),false,rfl,k⟩
theorem sg:aJ ["thing","least","most"] ["thing","least","most"] (am lr):=⟨rfl,rfl,rfl,by decide +kernel,rfl,by decide +kernel,by decide +kernel⟩
theorem oY{f:Addr}{fd:FuncData}(F:fW K "is_whole_within" "is_whole_within" lr f fd)(W:cE P w K mg base bi 1 "is_whole" ["thing"] jH):bC P w K mg base bi 2 f fd ["thing","least","most"] gJ:=by
 refine F.ok sg (fun vs H Q E h=>?_) (fun dE A outer s H vs Q E hr h=>?_)
 .obtain⟨i,lo,hi,rfl,_⟩:=h;rfl
 .obtain⟨i,lo,hi,rfl,k⟩:=h;refine⟨_,al (aH (f_ (aB W hr aM (aa (pv 0) ag)) (gO (xq Bm Bm (pv 1) (pv 0) (pv 2))))),?_⟩;refine⟨_,rfl,i,rfl,true,rfl,_,rfl,_,rfl,_,_,rfl,rfl,_,rfl,?_⟩;show if decide (lo<=i)=true then _ else _
  have k':Q (.bl (decide (lo<=i)&&decide (i<=hi))) H:=k;by_cases h:lo<=i
  .rw[bE h] at k' |-;exact⟨_,rfl,_,_,rfl,rfl,k'⟩
  .rw[dk h] at k' |-;exact k'
theorem GC:aJ ["stands","log","letter","beat"] ["stands","log","letter","beat"] (am wP):=⟨rfl,rfl,rfl,by decide +kernel,rfl,by decide +kernel,by decide +kernel⟩
theorem DJ{f:Addr}{fd:FuncData}(F:fW K "is_handed_on" "is_handed_on" wP f fd)(B:Bl mg)(W:cE P w K mg base bi 2 "is_whole_within" ["thing","least","most"] gJ):bC P w K mg base bi 3 f fd ["stands","log","letter","beat"] kX:=by
 refine F.ok GC (fun vs H Q E h=>?_) (fun dE A outer s H vs Q E hr h=>?_)
 .obtain⟨SA,LA,bJ,bB,m,L,ss,ls,i,b,rfl,_⟩:=h;rfl
 .obtain⟨SA,LA,bJ,bB,m,L,ss,ls,i,b,rfl,LG,k⟩:=h;obtain⟨g1,g2,g3,g4,g5,g6⟩:=LG;refine'⟨_,ah (bA (eI (dA (aB W hr aM (aa (pv 3) (aa ao (aa (a_ jA (av aE (by rfl) B.len cL (aa (pv 1) ag)) ao) ag)))))) (al (aH g7)) aR)
   (al (aH (f_ (aB W hr aM (aa (pv 2) (aa ao (aa (a_ jA (av aE (by rfl) B.len cL (aa (az aA (pv 0) (pv 3) (fun _ _=>rfl)) ag)) ao) ag))))
    (gO (Mv (Il (az aZ (az aA (pv 0) (pv 3) (fun _ _=>rfl)) (pv 2) (fun _ _=>rfl)))))))),?_⟩
  refine⟨_,rfl,_,rfl,LA,_,rfl,.inl (aU.of g2),_,_,rfl,rfl,b,0,_,rfl,_,rfl,?_⟩;have P1:((((bB.map V.ref).length:Nat):Int)-1)=(L:Int)-1:=by rw[aF,g4.1]
  unfold eU at k;refine bW (fun e=>?_) (fun e=>?_)
  .have e':J1 0 ((L:Int)-1) b=false:=by
    rw[<-P1];simpa using e
   rw[e',mi] at k;exact k
  .have e':J1 0 ((L:Int)-1) b=true:=by
    rw[<-P1];simpa using e
   rw[e',jq] at k;obtain⟨b0,b1⟩:=lB.mp e';obtain⟨c,rfl⟩:∃c:Nat,b=c:=⟨b.toNat,by lia⟩
   have hc:c<L:=by lia
   have sl:(ss c).length=m:=g5 c (by lia);have hS:=g3.2 c (by lia);have eml:((((SV (ss c)).length:Nat):Int)-1)=(m:Int)-1:=by rw[aF,sl]
   rw[cW] at k;refine⟨_,rfl,_,rfl,_,rfl,SA,_,_,_,rfl,rfl,aU.of g1,fj (by rw[g3.1];lia),bJ.getD c 0,_,rfl,.inr (cK.of hS),_,_,rfl,rfl,i,0,_,rfl,_,rfl,?_⟩;refine bW (fun e2=>?_) (fun e2=>?_)
   .have e3:J1 0 ((m:Int)-1) i=true:=by rw[<-eml];exact e2
    rw[e3,jq] at k;obtain⟨i0,i1⟩:=lB.mp e3;obtain⟨j,rfl⟩:∃j:Nat,i=j:=⟨i.toNat,by lia⟩
    rw[cW] at k;refine⟨_,rfl,_,rfl,SA,_,_,_,rfl,rfl,aU.of g1,fj (by rw[g3.1];lia),_,rfl,bJ.getD c 0,_,_,_,rfl,rfl,cK.of hS,dW (by lia),?_⟩;have ee:(!decide (j6 ((ss c).getD j none)=V.bR))=((ss c).getD j none).isSome:=by
     cases (ss c).getD j none with
     |none=>rw[bE (show j6 none=V.bR from rfl)];rfl
     |some x=>rw[dk (show ¬ j6 (some x)=V.bR from fun z=>by cases z)];rfl
    show Q (V.bl (!decide (j6 ((ss c).getD j none)=V.bR))) H;rw[ee];exact k
   .have e3:J1 0 ((m:Int)-1) i=false:=by rw[<-eml];simpa using e2
    rw[e3,mi] at k;exact k
theorem Ob:aJ ["stands","log","letter","beat","house"] ["stands","log","letter","beat","house"] (am GB):=⟨rfl,rfl,rfl,by decide +kernel,rfl,by decide +kernel,by decide +kernel⟩
theorem J2{f:Addr}{fd:FuncData}(F:fW K "is_sent_from" "is_sent_from" GB f fd)(HO:cE P w K mg base bi 3 "is_handed_on" ["stands","log","letter","beat"] kX):bC P w K mg base bi 4 f fd ["stands","log","letter","beat","house"] AW:=by
 refine F.ok Ob (fun vs H Q E h=>?_) (fun dE A outer s H vs Q E hr h=>?_)
 .obtain⟨SA,LA,bJ,bB,m,L,ss,ls,i,b,hh,rfl,_⟩:=h;rfl
 .obtain⟨SA,LA,bJ,bB,m,L,ss,ls,i,b,hh,rfl,LG,k⟩:=h;obtain⟨g1,g2,g3,g4,g5,g6⟩:=LG;refine'⟨_,ah (bA (eI (dA (aB HO hr aM (aa (pv 0) (aa (pv 1) (aa (pv 2) (aa (pv 3) ag))))))) (al (aH g7)) aR)
   (al (aH (f_ (cy eN (az aZ (az aA (pv 0) (pv 3) (fun _ _=>rfl)) (pv 2) (fun _ _=>rfl)) (pv 4) (aG _))
    (gO (cy m4 (az aZ (az aA (pv 1) (pv 3) (fun _ _=>rfl)) (pv 2) (fun _ _=>rfl)) (pv 4) (aG _)))))),?_⟩
  refine⟨_,rfl,_,rfl,_,rfl,_,rfl,SA,LA,bJ,bB,m,L,ss,ls,i,b,rfl,⟨g1,g2,g3,g4,g5,g6⟩,_,rfl,?_⟩;unfold fX at k;refine bW (fun e=>?_) (fun e=>?_)
  .have e':eU m L ss i b=false:=by simpa using e
   rw[e',mi] at k;exact k
  .have e':eU m L ss i b=true:=by simpa using e
   rw[e',jq] at k;obtain⟨j,c,x,rfl,rfl,hj,hc,hx⟩:=iw e';rw[cW,cW,hx] at k;have sl:(ss c).length=m:=g5 c (by lia);have pS:fT (SV (ss c)) (j:Int)=some (.int (x:Int)):=by rw[dW (by lia),hx];rfl
   obtain⟨mv1,mv2,XH⟩:=g6 c hc;obtain⟨o,ho,ji⟩:=XH j x hx;have AX:fT (SV (ls c)) (j:Int)=some (.int (o:Int)):=by rw[dW (by lia),ho];rfl
   refine⟨_,rfl,_,rfl,SA,_,_,_,rfl,rfl,aU.of g1,fj (by rw[g3.1];lia),_,rfl,bJ.getD c 0,_,_,_,rfl,rfl,cK.of (g3.2 c (by lia)),pS,_,rfl,rfl,_,rfl,?_⟩;refine bW (fun e2=>?_) (fun e2=>?_)
   .have e3:x=hh:=by have:=V.int.inj (bU e2);lia
    refine⟨_,rfl,_,rfl,LA,_,_,_,rfl,rfl,aU.of g2,fj (by rw[g4.1];lia),_,rfl,bB.getD c 0,_,_,_,rfl,rfl,cK.of (g4.2 c hc),AX,_,rfl,rfl,?_⟩;rw[bE (show some x=some hh by rw[e3])] at k;rw[dk (show ¬ V.int (o:Int)=V.int (hh:Int) from fun z=>ji (by have:=V.int.inj z;lia))];exact k
   .have e3:¬ some x=some hh:=fun z=>e2 (bE (by cases z;rfl));rw[dk e3] at k;exact k
end
abbrev wQ:Stmt:=gR 22
def dz(m L:Nat)(ss ls:Nat->List (Option Nat))(b h0:Nat)(zs:List Int):Nat->Option Nat
 |0=>some h0
 |k+1=>match dz m L ss ls b h0 zs k with
  |none=>none
  |some h=>if fX m L ss (zs.getD k 0) ((b+k:Nat):Int) h=true then some (((ls (b+k)).getD (zs.getD k 0).toNat none).getD 0) else none
theorem uL{m L:Nat}{ss ls:Nat->List (Option Nat)}{b h0:Nat}{zs:List Int}{k h:Nat}(e:dz m L ss ls b h0 zs k=some h)(s:fX m L ss (zs.getD k 0) ((b+k:Nat):Int) h=true):dz m L ss ls b h0 zs (k+1)=some (((ls (b+k)).getD (zs.getD k 0).toNat none).getD 0):=by
 unfold dz;rw[e];exact aq s
theorem o_{m L:Nat}{ss ls:Nat->List (Option Nat)}{b h0:Nat}{zs:List Int}{k h:Nat}(e:dz m L ss ls b h0 zs k=some h)(s:¬ fX m L ss (zs.getD k 0) ((b+k:Nat):Int) h=true):∀j,dz m L ss ls b h0 zs (k+1+j)=none
 |0=>by
  show dz m L ss ls b h0 zs (k+1)=none;unfold dz;rw[e];exact ap s
 |j+1=>by
  have ih:=o_ e s j;show dz m L ss ls b h0 zs (k+1+j+1)=none;unfold dz;rw[ih]
theorem DK{m L:Nat}{ss ls:Nat->List (Option Nat)}{b h0:Nat}{zs:List Int}{k h:Nat}(e:dz m L ss ls b h0 zs (k+1)=some h):∃h',fX m L ss (zs.getD k 0) ((b+k:Nat):Int) h'=true:=by
 unfold dz at e;split at e
 .cases e
 .rename_i h' _;by_cases s:fX m L ss (zs.getD k 0) ((b+k:Nat):Int) h'=true
  .exact⟨h',s⟩
  .rw[ap s] at e;cases e
def GD(hs:List Int)(zs:List Int):Option Nat->Bool
 |none=>false
 |some h=>decide ((h:Int)=hs.getD (zs.getD (zs.length-1) 0).toNat 0)
def kY(hs:List Int)(m L:Nat)(ss ls:Nat->List (Option Nat))(i b:Int)(zs:List Int):Bool:=
 eU m L ss i b&&(!zs.isEmpty&&(!decide (zs.getD 0 0=i)&&GD hs zs (dz m L ss ls b.toNat (((ss b.toNat).getD i.toNat none).getD 0) zs zs.length)))
theorem cQ.same{H H':Hp}{SA LA:Addr}{bJ bB:List Addr}{m L:Nat}{ss ls:Nat->List (Option Nat)}(h:cQ H SA LA bJ bB m L ss ls)(s:aI H H'):cQ H' SA LA bJ bB m L ss ls:=by
 obtain⟨g1,g2,g3,g4,g5,g6⟩:=h;exact⟨s _ _ g1,s _ _ g2,g3.mono fun j _ e=>s _ _ e,g4.mono fun j _ e=>s _ _ e,g5,g6⟩
theorem sK{m L:Nat}{ss:Nat->List (Option Nat)}{i b:Int}{h:Nat}(s:fX m L ss i b h=true):∃ (j c:Nat),i=j/\b=c/\j<m/\c<L/\(ss c).getD j none=some h:=by
 unfold fX at s;rw[cX,dP] at s;obtain⟨j,c,x,rfl,rfl,h1,h2,h3⟩:=iw s.1;have:=s.2;rw[cW,cW] at this;exact⟨j,c,rfl,rfl,h1,h2,this⟩
theorem Cc{m L:Nat}{ss:Nat->List (Option Nat)}{j c h:Nat}(hj:j<m)(hc:c<L)(e:(ss c).getD j none=some h):fX m L ss j c h=true:=by
 unfold fX;rw[i7 hj hc e,jq,cW,cW];exact bE e
theorem wR{zs:List Int}(h:zs≠[]):fT (HV zs) (-1)=some (.int (zs.getD (zs.length-1) 0)):=by
 rcases nZ zs with e|⟨l,x,e⟩
 .exact absurd e h
 .subst e;rw[n5];have:(l++[x]).getD ((l++[x]).length-1) 0=x:=by
   rw[bH,cu];simp
  rw[this];unfold HV;rw[bK];exact kJ _ _
section
variable {P:Program} {w:World} {K:PySem.W.Frag} {mg:Str->Option Value} {base:Heap}
theorem nM:aJ ["homes","stands","log","letter","beat","thing","house","later","one"] ["homes","stands","log","letter","beat","thing"] (am wQ):=⟨rfl,rfl,rfl,by decide +kernel,rfl,by decide +kernel,by decide +kernel⟩
def qE:Sp:=fun vs H Q _=>∃ (a SA LA Z:Addr) (bJ bB:List Addr) (m L:Nat) (ss ls:Nat->List (Option Nat)) (hs zs:List Int) (i b:Int),vs=[.ref a,.ref SA,.ref LA,.int i,.int b,.ref Z]/\H a=some (.tup (HV hs))/\hs.length=m/\cQ H SA LA bJ bB m L ss ls/\H Z=some (.lst (HV zs))/\
 ∀H',aI H H'->Q (.bl (kY hs m L ss ls i b zs)) H'
theorem GE{f:Addr}{fd:FuncData}(F:fW K "is_chain" "is_chain" wQ f fd)(B:Bl mg)(HO:cE P w K mg base bi 3 "is_handed_on" ["stands","log","letter","beat"] kX)(ST:cE P w K mg base bi 4 "is_sent_from" ["stands","log","letter","beat","house"] AW):
  bC P w K mg base bi 5 f fd ["homes","stands","log","letter","beat","thing"] qE:=by
 refine F.ok nM (fun vs H Q E h=>?_) (fun dE A outer s H vs Q E hr h=>?_)
 .obtain⟨a,SA,LA,Z,bJ,bB,m,L,ss,ls,hs,zs,i,b,rfl,_⟩:=h;rfl
 .obtain⟨a,SA,LA,Z,bJ,bB,m,L,ss,ls,hs,zs,i,b,rfl,ha,hl,LG,hZ,q⟩:=h;have hr3:cD 3 (A.deeper (PyProof.Rows.envOfC "is_chain" (am wQ) s.heap.objs.size f dE)):=hr.mono (by decide)
  refine'⟨_,ah (bA (PW.pt (pB (eI (dA (aB HO hr3 aM (aa (pv 1) (aa (pv 2) (aa (pv 3) (aa (pv 4) ag)))))))
     (pB (eI (dA (av eX (by rfl) B.DV j7 (aa (pv 5) (aa (fK (v:=.ty "list") rfl B.lst uX rfl) ag)))))
     (mB (aL eN (av aE (by rfl) B.len cL (aa (pv 5) ag)) ao (aG _)))))) (al (aH g7)) aR)
   (ah (aK (i:=6) nM.nd rfl (Or.inl rfl) (az aZ (az aA (pv 1) (pv 4) (fun _ _=>rfl)) (pv 3) (fun _ _=>rfl)))
   (ah (cT dR rfl (Jg rfl B.enum (aa (pv 5) ag)) (fw (n:=2) rfl (a9 (au (i:=7) nM.nd rfl (Or.inl rfl)) (a9 (au (i:=8) nM.nd rfl (Or.inl rfl)) dZ)))
    (ah (bA (eI (dA (aB ST hr aM (aa (pv 1) (aa (pv 2) (aa (pv 8) (aa (a_ cY (pv 4) (pv 7)) (aa (pv 6) ag)))))))) (al (aH g7)) aR)
    (al (aK (i:=6) nM.nd rfl (Or.inl rfl) (az aZ (az aA (pv 2) (a_ cY (pv 4) (pv 7)) (fun _ _=>rfl)) (pv 8) (fun _ _=>rfl))))))
   (al (aH (f_ (cy m4 (az aA (pv 5) ao (fun _ _=>rfl)) (pv 3) (aG _))
    (gO (cy eN (pv 6) (az aZ (pv 0) (az aA (pv 5) (jV gQ ao) (fun _ _=>rfl)) (fun _ _=>rfl)) (aG _)))))))),?_⟩
  refine⟨_,rfl,_,rfl,_,rfl,_,rfl,SA,LA,bJ,bB,m,L,ss,ls,i,b,rfl,LG,_,rfl,?_⟩;unfold kY at q;refine bW (fun e=>?_) (fun e=>?_)
  .have e':eU m L ss i b=false:=by simpa using e
   rw[e',mi] at q;exact lW (q H (aI.refl _))
  have e':eU m L ss i b=true:=by simpa using e
  rw[e',jq] at q;obtain⟨j,c,x,rfl,rfl,hj,hc,hx⟩:=iw e';rw[cW,cW,hx] at q;refine⟨_,rfl,_,_,_,.type "list",true,rfl,⟨rfl,lX⟩,.of (.lst hZ),true,rfl,?_⟩;refine bW (fun e=>absurd e (by decide)) (fun _=>?_);refine⟨_,rfl,Z,_,rfl,.inl (aU.of hZ),rfl,_,rfl,?_⟩;refine bW (fun e=>?_) (fun e=>?_)
  .have e2:zs=[]:=by
    have:=V.int.inj (bU e);rw[aF] at this;exact Ea (by lia)
   rw[e2] at q;exact q H (aI.refl _)
  have D4:zs≠[]:=by
   rintro rfl;exact e (bE rfl)
  have zem:zs.isEmpty=false:=by cases zs with|nil=>exact absurd rfl D4|cons _ _=>rfl
  rw[zem,z4,jq] at q;obtain⟨g1,g2,g3,g4,g5,g6⟩:=LG;have LG:cQ H SA LA bJ bB m L ss ls:=⟨g1,g2,g3,g4,g5,g6⟩
  have sl:(ss c).length=m:=g5 c (by lia);have pS:fT (SV (ss c)) (j:Int)=some (.int (x:Int)):=by rw[dW (by lia),hx];rfl
  refine⟨_,rfl,_,rfl,SA,_,_,_,rfl,rfl,aU.of g1,fj (by rw[g3.1];lia),_,rfl,bJ.getD c 0,_,_,_,rfl,rfl,cK.of (g3.2 c (by lia)),pS,?_⟩;have qf:∀k h,dz m L ss ls c x zs k=some h->¬ fX m L ss (zs.getD k 0) ((c+k:Nat):Int) h=true->k<zs.length->∀H',aI H H'->Q (.bl false) H':=by
   intro k h e1 e2 hk H' sm;have e3:=o_ e1 e2 (zs.length-(k+1));rw[show k+1+(zs.length-(k+1))=zs.length by lia] at e3;have q':=q H' sm;have ex:(some x).getD 0=x:=rfl;rw[ex,e3] at q';unfold GD at q';rw[vm] at q';exact q'
  refine⟨_,rfl,Z,_,rfl,hZ,?_⟩;refine Fm (K:=K) (a:=Z) (xs:=HV zs) (fun k σ H3=>(∃v7 v8 h,σ=[some (.ref a),some (.ref SA),some (.ref LA),some (.int j),some (.int c),some (.ref Z),some (.int (h:Nat)),v7,v8]/\dz m L ss ls c x zs k=some h)/\aI H H3) ⟨⟨_,_,x,rfl,rfl⟩,aI.refl _⟩ (fun k σ H3 _ z=>aU.of (z.2 _ _ hZ)) ?_ ?_
  .rintro k v t σ H3 hv ⟨⟨v7,v8,h,rfl,hw⟩,sm⟩ ht;rw[bp] at hv;obtain⟨z,hz,rfl⟩:=pi.mp hv;have hk:k<zs.length:=(cI.mp hz).1;have zk:zs.getD k 0=z:=by rw[bH,hz];rfl
   have sk:aI H (upd H3 t (.tup [.int (k:Int),.int z])):=sm.trans (aj ht);have LG4:=LG.same sk;refine⟨_,_,rfl,cK.of af,rfl,_,_,rfl,_,_,rfl,rfl,?_⟩;refine⟨_,rfl,_,rfl,_,rfl,_,rfl,_,rfl,_,_,rfl,rfl,_,rfl,SA,LA,bJ,bB,m,L,ss,ls,z,(c:Int)+(k:Int),h,rfl,LG4,_,rfl,?_⟩;have ck:(c:Int)+(k:Int)=((c+k:Nat):Int):=by lia
   refine bW (fun e2=>?_) (fun e2=>?_)
   .refine qf k h hw ?_ hk _ sk;rw[zk,<-ck];simpa using e2
   .have e3:fX m L ss z ((c:Int)+(k:Int)) h=true:=by simpa using e2
    have e4:=e3;rw[ck] at e4;obtain⟨j2,c2,ez,ec,Xu,R_,Lk⟩:=sK e4;have ec':c2=c+k:=by lia
    subst ec';subst ez;obtain⟨mv1,mv2,XH⟩:=g6 (c+k) R_;obtain⟨o,ho,ji⟩:=XH j2 h Lk;have sl2:(ss (c+k)).length=m:=g5 (c+k) (by lia);have AX:fT (SV (ls (c+k))) (j2:Int)=some (.int (o:Int)):=by rw[dW (by lia),ho];rfl
    have rat:fT (bB.map V.ref) ((c:Int)+(k:Int))=some (.ref (bB.getD (c+k) 0)):=by rw[ck];exact fj (by rw[g4.1];exact R_)
    refine⟨_,rfl,_,rfl,_,rfl,_,_,rfl,rfl,LA,_,_,_,rfl,rfl,aU.of (sk _ _ g2),rat,_,rfl,bB.getD (c+k) 0,_,_,_,rfl,rfl,cK.of (sk _ _ (g4.2 (c+k) R_)),AX,⟨_,_,o,rfl,?_⟩,sk⟩;rw[uL hw (by rw[zk];exact e4),zk,cW,ho];rfl
  .rintro σ H3 ⟨⟨v7,v8,h,rfl,hw⟩,sm⟩;rw[show (HV zs).length=zs.length from aF _] at hw;have q':=q H3 sm;have ex:(some x).getD 0=x:=rfl;rw[ex,hw] at q';have zl:0<zs.length:=va.mpr D4;have Oc:fT (HV zs) 0=some (.int (zs.getD 0 0)):=iN (i:=0) zl;refine⟨_,rfl,Z,_,_,_,rfl,rfl,aU.of (sm _ _ hZ),Oc,_,rfl,rfl,_,rfl,?_⟩;refine bW (fun e2=>?_) (fun e2=>?_)
   .have e3:decide (zs.getD 0 0=(j:Int))=false:=by
     refine dk fun z=>?_;rw[z] at e2;simp at e2
    rw[e3,z4,jq] at q';obtain⟨k,hk⟩:∃k,zs.length=k+1:=⟨zs.length-1,by lia⟩
    have hw2:=hw;rw[hk] at hw2;obtain⟨h',s'⟩:=DK hw2;obtain⟨j2,c2,ez,ec,Xu,R_,Lk⟩:=sK s';have el:zs.getD (zs.length-1) 0=(j2:Int):=by rw[hk];exact ez
    unfold GD at q';rw[el,cW] at q';refine⟨_,rfl,_,rfl,_,rfl,_,rfl,Z,_,_,_,rfl,rfl,aU.of (sm _ _ hZ),wR D4,a,_,_,_,rfl,rfl,cK.of (sm _ _ ha),by rw[el];exact iN (by lia),rfl,?_⟩;have ed:decide (V.int (h:Int)=V.int (hs.getD j2 0))=decide ((h:Int)=hs.getD j2 0):=by
     rw[jn,dP,dP];exact⟨V.int.inj,fun z=>by rw[z]⟩
    rw[ed];exact q'
   .have e3:decide (zs.getD 0 0=(j:Int))=true:=by
     refine bE ?_;have:decide (V.int (zs.getD 0 0)=V.int (j:Int))=true:=by simpa using e2
     exact V.int.inj (bU this)
    rw[e3] at q';exact q'
end
theorem lC{o:Option Nat}{h:Int}:MB (j6 o) (.int h)=true:=by cases o <;> rfl
theorem qo{x y:Int}:decide (V.int x=V.int y)=decide (x=y):=by
 rw[jn,dP,dP];exact⟨V.int.inj,fun z=>by rw[z]⟩
section
variable {P:Program} {w:World} {K:PySem.W.Frag} {mg:Str->Option Value} {base:Heap}
end
end AQ
namespace L2
open PySem PySem.Spec PyProof.Rows
section
variable {X:Cx} {e se:Expr} {te:TE} {lo hi:Option Expr} {tl th ts:TO} {pos p2:Pos}
theorem DL:m3 X (compareOp .IsNot) (fun x y H Q=>∃c d:Bool,x=.bl c/\y=.bl d/\Q (.bl (c != d)) H):=by
 intro ae s σ H x y v u Q I rx ry h;obtain⟨c,d,rfl,rfl,q⟩:=h;cases rx;cases ry;exact isnot_bool ⟨.bl _,H,I,rfl,q⟩
end
end L2
namespace AQ
open PySem L2
section
variable {P:Program} {w:World} {K:PySem.W.Frag} {mg:Str->Option Value} {base:Heap}
theorem cQ.eE{H H':Hp}{p SA LA:Addr}{bJ bB:List Addr}{m L:Nat}{ss ls:Nat->List (Option Nat)}(h:cQ H SA LA bJ bB m L ss ls)(s:aP p H H')(hp:aX H p)(n1:SA≠p)(n2:LA≠p):cQ H' SA LA bJ bB m L ss ls:=by
 obtain⟨g1,g2,g3,g4,g5,g6⟩:=h;have kt:sI H H':=sI.ofE s hp;exact⟨s _ _ g1 n1,s _ _ g2 n2,g3.mono fun j _ e=>kt _ _ e,g4.mono fun j _ e=>kt _ _ e,g5,g6⟩
end
open PySem L2 wv
def nN(g:Nat->List Nat)(k:Nat):Ts:=(List.range k).flatMap fun h=>(g h).map fun o=>(ci h,ci o)
abbrev bN(n:Nat)(g:Nat->List Nat):Ts:=nN g n
theorem jd{g:Nat->List Nat}{k:Nat}:nN g (k+1)=nN g k++(g k).map fun o=>(ci k,ci o):=by
 unfold nN;rw[fJ,zD];simp
theorem pb{n:Nat}{g:Nat->List Nat}{t:Int×Int}:t∈bN n g↔∃h o,h<n/\o∈g h/\t=(ci h,ci o):=by
 unfold bN nN;rw[List.mem_flatMap];constructor
 .rintro⟨h,hh,z⟩;obtain⟨o,ho,rfl⟩:=bO.mp z;exact⟨h,o,bu.mp hh,ho,rfl⟩
 .rintro⟨h,o,hh,ho,rfl⟩;exact⟨h,bu.mpr hh,bO.mpr ⟨o,ho,rfl⟩⟩
theorem yz{n:Nat}{g:Nat->List Nat}{a b:Nat}:T (bN n g) a b↔a<n/\b∈g a:=by
 unfold T;rw[pb];constructor
 .rintro⟨h,o,hh,ho,e⟩;obtain rfl:a=h:=gY (congrArg Prod.fst e);obtain rfl:b=o:=gY (congrArg Prod.snd e);exact⟨hh,ho⟩
 .rintro⟨h1,h2⟩;exact⟨a,b,h1,h2,rfl⟩
theorem yA{g:Nat->List Nat}:∀k,(∀h,h<k->(g h).Nodup)->(nN g k).Nodup
 |0,_=>by simp[nN]
 |k+1,h=>by
  rw[jd];refine lN.mpr ⟨yA k fun x hx=>h x (by lia),?_,?_⟩
  .exact List.Pairwise.map _ (fun a b Ru e=>Ru (gY (congrArg Prod.snd e))) (uU.mp (h k (by lia)))
  .intro x hx y hy e;subst e;obtain⟨h',o,hh,_,rfl⟩:=pb.mp hx;obtain⟨o',_,e⟩:=bO.mp hy;have:=gY (congrArg Prod.fst e);lia
theorem AY{g:Nat->List Nat}{x:Nat}:∀k,((nN g k).filter fun t=>decide (t.1=ci x)).length=if x<k then (g x).length else 0
 |0=>by simp[nN]
 |k+1=>by
  rw[jd,ic,cu,AY k];by_cases e:x=k
  .subst e;rw[ap (jU _),aq (kl _),List.filter_eq_self.mpr,aF,oe];intro t ht;obtain⟨o,_,rfl⟩:=bO.mp ht;simp
  .rw[zm.mpr,qX,jr]
   .by_cases h:x<k
    .rw[aq h,aq (by lia)]
    .rw[ap h,ap (by lia)]
   .intro t ht z;obtain⟨o,_,rfl⟩:=bO.mp ht;exact e (gY (bU z)).symm
theorem sL{x:Nat}:∀ {l:List Nat},l.Nodup->((l.map fun o=>ci o).filter fun t=>decide (t=ci x)).length=if x∈l then 1 else 0
 |[],_=>by simp
 |y::l,h=>by
  have ih:=sL (x:=x) (dQ.mp h).2;have hy:=(dQ.mp h).1;rw[cM,iZ];by_cases e:y=x
  .subst e;rw[aq (by simp),cx,ih,ap hy,aq (by simp)]
  .rw[ap (show ¬ decide (ci y=ci x)=true from fun z=>e (gY (bU z))),ih];have:x∈y::l↔x∈l:=by
    rw[bZ];exact⟨fun z=>z.elim (fun q=>absurd q.symm e) id,.inr⟩
   simp only[this]
theorem GJ{g:Nat->List Nat}{x:Nat}:∀k,(∀h,h<k->(g h).Nodup)->((nN g k).filter fun t=>decide (t.2=ci x)).length=inn g k x
 |0,_=>by simp[nN,inn]
 |k+1,h=>by
  rw[jd,ic,cu,GJ k fun y hy=>h y (by lia)];unfold inn;rw[fJ,zJ];congr 1;have e1:List.countP (fun o=>decide (x∈g o)) [k]=if x∈g k then 1 else 0:=by rw[List.countP_singleton];simp
  rw[e1,<-sL (h k (by lia)),y9,aF,y9,aF];rfl
theorem J9{n:Nat}{g:Nat->List Nat}(lt:∀a,a<n->∀o∈g a,o<n){a b:Nat}(ha:a<n)(h:Rc g a b):b<n/\∃k,e_ (bN n g) k a b:=by
 induction h with
 |refl=>exact⟨ha,0,rfl⟩
 |step _ t ih=>
  obtain⟨hb,k,w⟩:=ih;exact⟨lt _ hb _ t,k+1,_,w,yz.mpr ⟨hb,t⟩⟩
theorem Cd{h:Int}{n:Nat}:(∃x:Nat,h=ci x)\/h<0:=by
 by_cases z:0<=h
 .exact .inl ⟨h.toNat,(zG z).symm⟩
 .exact .inr (by lia)
theorem J_{n:Nat}{g:Nat->List Nat}(G:fE n g)(C:B8 n g)(n1:2<=n)(n2:n<=32):gI n (bN n g):=by
 have Sa:∀h:Int,h<0->(bN n g).filter (fun t=>decide (t.1=h))=[]:=fun h hh=>zm.mpr fun t ht z=>by
  obtain⟨x,o,_,_,rfl⟩:=pb.mp ht;have z':((x:Nat):Int)=h:=bU z;lia
 have XI:∀h:Int,h<0->(bN n g).filter (fun t=>decide (t.2=h))=[]:=fun h hh=>zm.mpr fun t ht z=>by
  obtain⟨x,o,_,_,rfl⟩:=pb.mp ht;have z':((o:Nat):Int)=h:=bU z;lia
 have XJ:∀x,¬ x<n->inn g n x=0:=fun x hx=>by
  unfold inn;rw[zF];intro o ho z;exact hx (G.lt o (bu.mp ho) x (bU z)).1
 refine⟨n1,n2,yA n G.nd,fun t ht=>?_,fun t ht=>?_,fun h=>?_,fun h=>?_,fun a b ha hb=>(J9 (fun x hx o ho=>(G.lt x hx o ho).1) ha (C a b ha hb)).2⟩
 .obtain⟨x,o,hx,ho,rfl⟩:=pb.mp ht;have:=(G.lt x hx o ho).1;exact⟨⟨Int.natCast_nonneg _,Int.ofNat_lt.mpr hx⟩,⟨Int.natCast_nonneg _,Int.ofNat_lt.mpr this⟩⟩
 .obtain⟨x,o,hx,ho,rfl⟩:=pb.mp ht;have:=(G.lt x hx o ho).2;exact fun e=>this (gY e).symm
 .rcases Cd (h:=h) (n:=n) with ⟨x,rfl⟩|z
  .rw[AY,GJ n G.nd];by_cases hx:x<n
   .rw[aq hx];exact G.Jt x hx
   .rw[ap hx,XJ x hx]
  .rw[Sa h z,XI h z]
 .rcases Cd (h:=h) (n:=n) with ⟨x,rfl⟩|z
  .rw[AY];by_cases hx:x<n
   .rw[aq hx];exact G.le x hx
   .rw[ap hx];decide
  .rw[Sa h z];decide
def mP(ts:Ts):Ts:=ts.map fun t=>(t.2,t.1)
theorem GK{ts:Ts}{a b:Nat}:T (mP ts) a b↔T ts b a:=by
 unfold T mP;rw[bO];constructor
 .rintro⟨⟨x,y⟩,h,e⟩;have e1:=congrArg Prod.fst e;have e2:=congrArg Prod.snd e;dsimp only at e1 e2;subst e1 e2;exact h
 .exact fun h=>⟨_,h,rfl⟩
theorem yB{ts:Ts}:∀ {k a b:Nat},e_ (mP ts) k a b->e_ ts k b a
 |0,_,_,e=>e.symm
 |k+1,a,b,⟨c,w,t⟩=>e_.cons (GK.mp t) (yB w)
theorem pe{ts:Ts}:∀ {k a b:Nat},e_ ts k a b->e_ (mP ts) k b a
 |0,_,_,e=>e.symm
 |k+1,a,b,⟨c,w,t⟩=>e_.cons (GK.mpr t) (pe w)
theorem Ce{ts:Ts}{h:Int}:((mP ts).filter fun t=>decide (t.1=h)).length=(ts.filter fun t=>decide (t.2=h)).length:=by
 unfold mP;rw[List.filter_map,List.length_map];rfl
theorem Ka{ts:Ts}{h:Int}:((mP ts).filter fun t=>decide (t.2=h)).length=(ts.filter fun t=>decide (t.1=h)).length:=by
 unfold mP;rw[List.filter_map,List.length_map];rfl
theorem GL{n:Nat}{ts:Ts}(F:gI n ts):gI n (mP ts):=by
 refine⟨F.n1,F.n2,?_,fun t ht=>?_,fun t ht=>?_,fun h=>?_,fun h=>?_,fun a b ha hb=>?_⟩
 .exact List.Pairwise.map _ (fun a b Ru e=>Ru (Prod.ext (congrArg Prod.snd e) (congrArg Prod.fst e))) (uU.mp F.nd)
 .obtain⟨u,hu,rfl⟩:=bO.mp ht;exact⟨(F.rg u hu).2,(F.rg u hu).1⟩
 .obtain⟨u,hu,rfl⟩:=bO.mp ht;exact fun e=>F.ne u hu e.symm
 .rw[Ce,Ka];exact(F.Jt h).symm
 .rw[Ce,<-F.Jt h];exact F.most h
 .obtain⟨k,w⟩:=F.con b a hb ha;exact⟨k,pe w⟩
theorem Kb{n:Nat}{ts:Ts}(F:gI n ts){a b:Nat}(ha:a<n)(hb:b<n):far (mP ts) a b=far ts b a:=by
 have h:=F.Nq hb ha;exact AH ⟨pe h.1,fun k w=>h.2 k (yB w)⟩
section
variable {n:Nat} {g:Nat->List Nat} {hs ns:List Int} {m L:Nat} {ss ls:Nat->List (Option Nat)}
theorem qc.goes(R:qc n g hs L ss ls ns){b i h:Nat}(hb:b<L)(e:(ss b).getD i none=some h):∃o,(ls b).getD i none=some o/\T (bN n g) h o:=by
 obtain⟨o,e1,e2⟩:=(R.tie b hb).tie i h e;exact⟨o,e1,yz.mpr ⟨R.lt b (eC hb) i h e,e2⟩⟩
theorem yC(R:qc n g hs L ss ls ns){c h0:Nat}{zs:List Int}:∀ {k h:Nat},dz m L ss ls c h0 zs k=some h->e_ (bN n g) k h0 h/\(0<k->∃i x:Nat,zs.getD (k-1) 0=i/\i<m/\c+(k-1)<L/\(ss (c+(k-1))).getD i none=some x/\(ls (c+(k-1))).getD i none=some h/\T (bN n g) x h)
 |0,h,e=>⟨ba e,fun z=>absurd z (by lia)⟩
 |k+1,h,e=>by
  cases e0:dz m L ss ls c h0 zs k with
  |none=>unfold dz at e;rw[e0] at e;cases e
  |some x=>
   by_cases s:fX m L ss (zs.getD k 0) ((c+k:Nat):Int) x=true
   .have e':=uL e0 s;rw[e'] at e;obtain⟨i,b,h1,h2,h3,h4,h5⟩:=sK s;obtain rfl:c+k=b:=by lia
    obtain⟨o,e1,t⟩:=R.goes h4 h5;have ho:h=o:=by
     rw[h1,cW,e1] at e;exact(ba e).symm
    subst ho;exact⟨⟨x,(yC R e0).1,t⟩,fun _=>⟨i,x,h1,h3,h4,h5,e1,t⟩⟩
   .have:=o_ e0 s 0;rw[jr] at this;rw[this] at e;cases e
structure Chn(n:Nat)(g:Nat->List Nat)(hs:List Int)(m L:Nat)(ss ls:Nat->List (Option Nat))(j c M d o h0:Nat):Prop where
 M1:0<M
 one:M=1->d≠j
 dm:d<m
 cl:c<L
 s0:(ss c).getD j none=some h0
 o0:(ls c).getD j none=some o
 en:c+(M-1)<L
 hm:∃x e:Nat,(ss (c+(M-1))).getD d none=some x/\(ls (c+(M-1))).getD d none=some e/\(e:Int)=hs.getD d 0/\T (bN n g) x e/\e_ (bN n g) M h0 e
theorem GN(R:qc n g hs L ss ls ns){j c:Nat}{zs:List Int}(h:kY hs m L ss ls j c zs=true):∃d o h0:Nat,zs.getD (zs.length-1) 0=d/\zs≠[]/\Chn n g hs m L ss ls j c zs.length d o h0:=by
 unfold kY at h;rw[cX,cX,cX] at h;obtain⟨h1,h2,h3,h4⟩:=h;obtain⟨j',c',h0,e1,e2,h5,h6,h7⟩:=iw h1;obtain rfl:j=j':=gY e1;obtain rfl:c=c':=gY e2;have D4:zs≠[]:=by rintro rfl;cases h2
 have zl:0<zs.length:=va.mpr D4;rw[cW,cW,h7] at h4;cases ew:dz m L ss ls c ((some h0).getD 0) zs zs.length with
 |none=>rw[ew] at h4;cases h4
 |some e=>
  rw[ew] at h4;have he:=bU h4;obtain⟨w,k⟩:=yC R ew;obtain⟨d,x,q1,q2,q3,q4,q5,q6⟩:=k zl;obtain⟨o,e3,_⟩:=R.goes h6 h7;rw[q1,cW] at he;refine⟨d,o,h0,q1,D4,zl,fun z1 z2=>?_,q2,h6,h7,e3,q3,x,e,q4,q5,he,q6,w⟩;rw[z1] at q1;rw[show (1:Nat)-1=0 from rfl] at q1;rw[q1,z2] at h3;simp at h3
end
open eT (zr zp PO HK Zs i_ ja jI eK)
abbrev wS:Stmt:=gR 44
abbrev yi:Stmt:=gR 45
abbrev GQ:Stmt:=gR 46
theorem XM:(["_law_other","_law_house"]:List Str).Nodup:=by decide +kernel
theorem Kc{xs:List Nat}{i:Nat}{x:V}(h:(NV xs)[i]?=some x):∃z,xs[i]?=some z/\x=.int (z:Nat):=by
 rw[bp] at h;obtain⟨z,hz,rfl⟩:=pi.mp h;exact⟨z,hz,rfl⟩
theorem yD{K:PySem.W.Frag}{a D:Addr}{xs:List Nat}{g:TG}{tt:TT}{te:TE}{fin:Hp->Prop}{σB:St}{H0:Hp}(F:Nat->Int×Int)(dU:St->Prop)(ha:H0 a=some (.lst (NV xs)))(hD:H0 D=none)(hn:xs.length<=100000)(h0:dU σB)(hs:∀x σ H (R:V->St->Hp->Prop) (Kf:St->Hp->Prop),x∈xs->dU σ->aI H0 H->(∀σ2 p,dU σ2->H p=none->R (.ref p) σ2 (upd H p (HK (F x))))->g (.int (x:Nat)) σ H fun σ2 H2=>tt σ2 H2 fun b H3=>if b=true then te σ2 H3 fun v H4=>R v σ2 H4 else Kf σ2 H3)(hd:∀zs H,aI H0 H->H D=some (.lst (zr zs))->PO H zs->zp zs=xs.map F->fin H):iG (EA K a) g tt te D fin σB (upd H0 D (.lst [])):=by
 refine eG (xs:=NV xs) (fun i ys σ H=>dU σ/\aI H0 H/\H D=some (.lst ys)/\∃zs:Zs,ys=zr zs/\PO H zs/\zp zs=(xs.take i).map F) ⟨h0,aj hD,af,[],rfl,eT.PO.nil,rfl⟩ (fun i ys σ H _ z=>aU.of (z.2.1 _ _ ha)) ?_ ?_
 .rintro i x ys σ H Kt Kf hx ⟨sh,sm,oZ,zs,rfl,po,ep⟩ kt kf;obtain⟨z,hz,rfl⟩:=Kc hx;have hi:i<xs.length:=(cI.mp hz).1;have hl:zs.length=i:=by rw[<-eK,ep,aF,iF];lia
  have tk:xs.take (i+1)=xs.take i++[z]:=by rw[gX,hz];rfl
  refine hs z σ H Kt Kf (eB hz) sh sm (fun σ2 p Dy hp=>?_);have nD:D≠p:=ai oZ hp;refine kt _ _ _ (by rw[ak nD];exact oZ) (by rw[jI,hl];exact bT hi (bj hn (by decide))) ⟨Dy,eT.cG (sm.trans (aj hp)) hD,af,zs++[(p,F z)],?_,?_,?_⟩
  .rw[i_];rfl
  .intro y hy;rcases bV.mp hy with q|q
   .have e:=po y q;rw[ak (cC e oZ (by intro w;cases w)),ak (ai e hp)];exact e
   .rw[cH.mp q,ak nD.symm,af]
  .rw[ja,ep,tk,bK];rfl
 .rintro ys σ H ⟨_,sm,oZ,zs,rfl,po,ep⟩;rw[show (NV xs).length=xs.length from aF _,iY] at ep;exact hd zs H sm oZ po ep
section
variable {P:Program} {w:World} {K:PySem.W.Frag} {mg:Str->Option Value} {base:Heap}
theorem wT:aJ ["_law_outs","_law_found","_law_house"] ["_law_outs"] (am wS):=⟨rfl,rfl,rfl,by decide +kernel,rfl,by decide +kernel,by decide +kernel⟩
def wU:Sp:=fun vs H Q _=>∃ (O:Addr) (as:List Addr) (n:Nat) (g:Nat->List Nat),vs=[.ref O]/\fR H O as n g/\fE n g/\n<=32/\∀ (l:Addr) (zs:Zs) (H':Hp),aI H H'->H l=none->H' l=some (.lst (zr zs))->PO H' zs->zp zs=bN n g->Q (.ref l) H'
theorem GS{n:Nat}{g:Nat->List Nat}(G:fE n g):∀k,k<=n->(nN g k).length<=8*k
 |0,_=>by simp[nN]
 |k+1,h=>by
  rw[jd,cu,aF];have:=GS G k (by lia);have:=G.le k (by lia);lia
theorem GU{f:Addr}{fd:FuncData}(F:fW K "_law_ties" "_law_ties" wS f fd):bC P w K mg base bi 1 f fd ["_law_outs"] wU:=by
 refine F.ok wT (fun vs H Q E h=>?_) (fun dE A outer s H vs Q E hr h=>?_)
 .obtain⟨O,as,n,g,rfl,_⟩:=h;rfl
 .obtain⟨O,as,n,g,rfl,hO,G,HX,q⟩:=h;have hu:(A.deeper (PyProof.Rows.envOfC "_law_ties" (am wS) s.heap.objs.size f dE)).units+1<cLine:=by have:=hr.un;lia
  refine'⟨_,ah (aK (i:=1) wT.nd rfl (Or.inl rfl) (cZ ag))
   (ah (cT dR rfl (yv (pv 0)) (au (i:=2) wT.nd rfl (Or.inr rfl)) (al (cg (im h_ Ek Ej ud (pv 1) (aa ?c ag)))))
   (al (aH (pv 1)))),?_⟩
  case c=>
   refine' cm (g:=bo 0) (te:=tD (bx (aV 1) (bx (aV 0) hE))) (NB:=["_law_other","_law_house"]) (src:=[none,some 2]) (bY (by kernel_rfl)) rfl (b_ (bQ hu (pv 0) (pv 2) (fun _ _=>rfl))) ?g ?t ?e;case g=>exact fun cl C s₃ H₃ fp=>au (i:=0) XM rfl (Or.inl rfl) (Or.inr rfl)
   case t=>exact fun cl C s₃ H₃ fp=>eQ
   case e=>exact fun cl C s₃ H₃ fp=>eJ (aa (pv 1) (aa (pv 0) ag))
  refine⟨by show 0<=sizeLine;decide,fun F' hF=>?_⟩;obtain⟨o,hd⟩:=hO.dict;refine⟨_,rfl,O,_,o,rfl,aj hF _ _ hd,?_⟩;refine rR (fun i σ H3=>(∃v,σ=[some (.ref O),some (.ref F'),v])/\aI H H3/\∃zs:Zs,H3 F'=some (.lst (zr zs))/\PO H3 zs/\zp zs=nN g i) ⟨⟨_,rfl⟩,aj hF,[],af,eT.PO.nil,rfl⟩ (fun i σ H3 _ z=>z.2.1 _ _ hd) ?_ ?_
  .rintro i k v σ H3 hk ⟨⟨v',rfl⟩,sm,zs,Sb,po,ez⟩;obtain⟨hi,rfl⟩:=lx hk;change bo 2 (V.int (i:Int)) _ _ _;have yo:=hO.same sm;refine⟨_,rfl,.inl ⟨rfl,_,aU.of Sb⟩,_,rfl,_,rfl,O,_,rfl,yo.get hi,as.getD i 0,rfl,⟨_,aU.of (yo.rows.2 i hi)⟩,fun D hD=>?_⟩;have l8:=G.le i hi;refine yD (xs:=g i) (fun x=>(ci i,ci x)) (fun σ=>∃a,σ=[a,some (.int (i:Int))]) (yo.rows.2 i hi) hD (by lia) ⟨_,rfl⟩ ?_ ?_
   .rintro x σ H4 R Kf hx ⟨a,rfl⟩ sk kr;exact⟨_,rfl,_,rfl,by show 2<=sizeLine;decide,fun p hp=>kr _ p ⟨_,rfl⟩ hp⟩
   .intro mT H4 sk uB DY ez4;have hF4:=sk _ _ Sb;have nFD:F'≠D:=ai Sb hD;have lz:(zr zs).length<=256:=by rw[jI,<-eK,ez];have:=GS G i (by lia);lia
    have lz':(zr mT).length<=8:=by rw[jI,<-eK,ez4,aF];exact l8
    refine⟨F',D,_,_,rfl,rfl,hF4,uB,bj (show (zr zs).length+(zr mT).length<=264 by lia) (by decide),⟨_,rfl⟩,eT.cG (sm.trans sk) hF,zs++mT,by rw[i_];exact af,?_,by rw[ja,ez,ez4,jd]⟩;intro y hy;have e:H4 y.1=some (HK y.2):=(bV.mp hy).elim (fun z=>sk _ _ (po y z)) (DY y);rw[ak (cC e hF4 (by intro w;cases w))];exact e
  .rintro σ H3 ⟨⟨v',rfl⟩,sm,zs,Sb,po,ez⟩;rw[d_] at ez;exact⟨_,rfl,q F' zs H3 sm hF Sb po ez⟩
end
def wV(f:Nat->Nat)(xs:List Nat):List (dS×V):=xs.map fun (x:Nat)=>(Sum.inl (x:Int),V.int ((f x:Nat):Int))
theorem Kd{f:Nat->Nat}{xs:List Nat}:(wV f xs).length=xs.length:=aF _
theorem qF{f:Nat->Nat}{x:Nat}:∀ {xs:List Nat},gg (wV f xs) (Sum.inl (x:Int))=if x∈xs then some (.int ((f x:Nat):Int)) else none
 |[]=>rfl
 |y::ys=>by
  unfold wV;rw[cM];by_cases e:y=x
  .subst e;rw[gA rfl,aq cA]
  .have e2:¬ ((Sum.inl (y:Int):dS)=Sum.inl (x:Int)):=fun z=>e (gY (mq z));rw[gB e2];have ih:=qF (f:=f) (x:=x) (xs:=ys);unfold wV at ih;rw[ih];by_cases h:x∈ys
   .rw[aq h,aq (cN _ h)]
   .rw[ap h,ap (fun z=>(bZ.mp z).elim (fun q=>e q.symm) h)]
theorem Ke{f:Nat->Nat}{x k:Nat}{xs:List Nat}(h:x∉xs):fN (wV f xs) (Sum.inl (x:Int)) (.int ((k:Nat):Int))=wV (put f x k) (xs++[x]):=by
 rw[nu _ (by rw[qF,ap h])];unfold wV;rw[bK,cM,ii,ip];congr 1;refine kg fun y hy=>?_;rw[fz (show y≠x from fun z=>h (z ▸ hy))]
def lY(H:Hp)(D:Addr)(n:Nat)(f:Nat->Nat):Prop:=∃Rs:List Nat,H D=some (.dK (wV f Rs))/\∀x,x<n->x∈Rs
theorem lY.same{H H':Hp}{D:Addr}{n:Nat}{f:Nat->Nat}(h:lY H D n f)(s:aI H H'):lY H' D n f:=let ⟨R,a,b⟩:=h;⟨R,s _ _ a,b⟩
theorem lY.get{H:Hp}{D:Addr}{n:Nat}{f:Nat->Nat}(h:lY H D n f){x:Nat}(hx:x<n):iT H D (.int (x:Int)) (some (.int ((f x:Nat):Int))):=by
 obtain⟨R,a,b⟩:=h;have:=iT.k (k:=Sum.inl (x:Int)) a;rw[qF,aq (b x hx)] at this;exact this
section
variable {P:Program} {w:World} {K:PySem.W.Frag} {mg:Str->Option Value} {base:Heap}
theorem pO:aJ ["_law_outs","_law_home","_law_far_here","_law_row","_law_at","_law_house"] ["_law_outs","_law_home"] (am yi):=⟨rfl,rfl,rfl,by decide +kernel,rfl,by decide +kernel,by decide +kernel⟩
def Cf:Sp:=fun vs H Q _=>∃ (O:Addr) (as:List Addr) (n:Nat) (g:Nat->List Nat) (s:Nat),vs=[.ref O,.int s]/\fR H O as n g/\gI n (bN n g)/\s<n/\∀ (r:Addr) (H':Hp),aI H H'->H r=none->lY H' r n (fun x=>far (bN n g) x s)->Q (.ref r) H'
theorem je{xs:List Nat}{v:Nat}:NV (xs++[v])=NV xs++[.int (v:Int)]:=by unfold NV;rw[bK];rfl
theorem Od{f:Addr}{fd:FuncData}(F:fW K "_law_far" "_law_far" yi f fd)(B:Bl mg):bC P w K mg base bi 1 f fd ["_law_outs","_law_home"] Cf:=by
 refine F.ok pO (fun vs H Q E h=>?_) (fun dE A outer s H vs Q E hr h=>?_)
 .obtain⟨O,as,n,g,s,rfl,_⟩:=h;rfl
 .obtain⟨O,as,n,g,st,rfl,hO,Fi,hs,k⟩:=h;have fi:=GL Fi;have n1:=fi.n1;have n2:=fi.n2;have hu:(A.deeper (PyProof.Rows.envOfC "_law_far" (am yi) s.heap.objs.size f dE)).units+1<cLine:=by have:=hr.un;lia
  refine'⟨_,ah (aK (i:=2) pO.nd rfl (Or.inl rfl) (Jd (Fk (pv 1) ao Jc) rfl rfl (by simp) (by decide)))
   (ah (aK (i:=3) pO.nd rfl (Or.inl rfl) (cZ (aa (pv 1) ag)))
   (ah (aK (i:=4) pO.nd rfl (Or.inl rfl) ao)
   (ah (rj dR (aL pC (pv 4) (av aE (by rfl) B.len cL (aa (pv 3) ag)) (aG _))
    (ah (cT dR rfl (yv (pv 0)) (au (i:=5) pO.nd rfl (Or.inl rfl))
     (al (bA (PW.pt (vC (vB (oV hu (pv 5) (pv 2))) (qm (aL oK (az aA (pv 3) (pv 4) (fun _ _=>rfl)) (bQ hu (pv 0) (pv 5) (fun _ _=>rfl)) (by rfl)))))
      (ah (nw hu (pv 2) (pv 5) (a_ cY (bQ hu (pv 2) (az aA (pv 3) (pv 4) (fun _ _=>rfl)) (fun _ _=>rfl)) ao) rfl)
      (al (cg (im h_ j_ j8 dg (pv 3) (aa (pv 5) ag))))) aR)))
    (al (aK (i:=4) pO.nd rfl (Or.inl rfl) (a_ cY (pv 4) ao)))))
   (al (aH (pv 2)))))),?_⟩
  obtain⟨o,hd⟩:=hO.dict;refine fun D hD=>⟨_,rfl,af,[(Sum.inl (st:Int),.int 0)],rfl,by show 1<=15;decide,?_⟩
  rw[fu];have e0:oW [] [(Sum.inl (st:Int),V.int 0)]=wV (fun _=>0) [st]:=rfl;rw[e0];have smD:aI H (upd H D (.dK (wV (fun _=>0) [st]))):=aj hD;refine⟨_,rfl,by show 1<=sizeLine;decide,fun R hR=>?_⟩;have LJ:D≠R:=ai (H:=upd H D (.dK (wV (fun _=>0) [st]))) af hR;have RE:H R=none:=smD.free hR;refine xo (fun σ H2=>∃ (i:Nat) (Rs:List Nat) (f:Nat->Nat),i<=Rs.length/\yZ n (mP (bN n g)) st i Rs f/\(∃a,σ=[some (.ref O),some (.int st),some (.ref D),some (.ref R),some (.int (i:Int)),a])/\aI H H2/\H2 D=some (.dK (wV f Rs))/\H2 R=some (.lst (NV Rs)))
   (fun σ _=>n-eT.LI σ) ⟨0,[st],fun _=>0,dG _,yZ.start hs,⟨none,rfl⟩,smD.trans (aj hR),by rw[ak LJ,af],af⟩ ?_ ?_
  .rintro σ H2 ⟨i,Rs,f,hi,Bf,⟨a,rfl⟩,sm,jj,PU⟩;have hRn:Rs.length<=n:=fc Bf.nd Bf.lt;refine⟨_,rfl,_,rfl,R,_,rfl,.inl (aU.of PU),_,_,rfl,rfl,_,rfl,?_⟩;rw[show (NV Rs).length=Rs.length from aF _];by_cases uw:i<Rs.length
   .rw[show decide ((i:Int)<((Rs.length:Nat):Int))=true by simp;lia];refine IH ?_;have xD:Rs[i]?=some Rs[i]:=b9 uw;generalize Rs[i]=u at xD;refine⟨_,rfl,O,_,o,rfl,sm _ _ hd,?_⟩;refine rR (fun j σ H3=>∃ (gT:List Nat) (f':Nat->Nat),yZ n (mP (bN n g)) st i gT f'/\gT[i]?=some u/\(∀v,v<j->T (mP (bN n g)) u v->v∈gT/\f' v<=f' u+1)/\
      (∃b,σ=[some (.ref O),some (.int st),some (.ref D),some (.ref R),some (.int (i:Int)),b])/\aI H H3/\H3 D=some (.dK (wV f' gT))/\H3 R=some (.lst (NV gT)))
      ⟨Rs,f,Bf,xD,fun v hv=>absurd hv (by lia),⟨_,rfl⟩,sm,jj,PU⟩ (fun j σ H3 _ ⟨_,_,_,_,_,_,tf,_⟩=>tf _ _ hd) ?_ ?_
    .rintro v k0 v0 σ H3 hk ⟨gT,f',uA,GV,dn,⟨b',rfl⟩,tf,jY,w_⟩;obtain⟨FP,rfl⟩:=lx hk;change bo 5 (V.int (v:Int)) _ _ _;have yo:=hO.same tf;have UK:(NV gT)[i]?=some (.int (u:Int)):=by rw[bp,GV];rfl
     have FQ:u∈gT:=eB GV;have kO:i<gT.length:=(cI.mp GV).1;have FS:gT.length<=n:=fc uA.nd uA.lt;have gD:∀x:Nat,iT H3 D (.int (x:Int)) (if x∈gT then some (.int ((f' x:Nat):Int)) else none):=fun x=>by
      have:=iT.k (k:=Sum.inl (x:Int)) jY;rw[qF] at this;exact this
     have Sc:T (mP (bN n g)) u v↔u∈g v:=by rw[GK,yz];exact⟨fun z=>z.2,fun z=>⟨FP,z⟩⟩
     refine⟨_,rfl,_,rfl,D,_,rfl,gD v,_,rfl,?_⟩;by_cases AO:v∈gT
     .rw[aq AO];refine lG ⟨gT,f',uA,GV,fun x hx t=>?_,⟨_,rfl⟩,tf,jY,w_⟩;by_cases e:x=v
      .subst e;exact⟨AO,uA.bd u GV _ AO⟩
      .exact dn x (by lia) t
     .rw[ap AO];refine IH ?_;refine⟨_,rfl,_,rfl,R,_,_,_,rfl,rfl,aU.of w_,br UK,_,rfl,_,rfl,O,_,rfl,yo.get FP,as.getD v 0,NV (g v),rfl,.inl (aU.of (yo.rows.2 v FP)),rfl,sn,_,rfl,?_⟩;rw[qC];refine bW (fun e=>?_) (fun e=>?_)
      .have WR:T (mP (bN n g)) u v:=Sc.mpr (bU e);have g2:=gD u;rw[aq FQ] at g2;refine⟨_,rfl,_,rfl,_,rfl,R,_,_,_,rfl,rfl,aU.of w_,br UK,D,_,rfl,g2,_,_,rfl,rfl,_,rfl,_,rfl,D,_,rfl,rG.k (k:=Sum.inl (v:Int)) jY (by rw[Kd];exact bT (show gT.length<33 by lia) (by decide)),?_⟩;have e1:fN (wV f' gT) (Sum.inl (v:Int)) (V.int (((f' u:Nat):Int)+1))=wV (put f' v (f' u+1)) (gT++[v]):=by
        rw[show ((f' u:Nat):Int)+1=((f' u+1:Nat):Int) by lia,Ke AO]
       rw[e1];have s_:(upd H3 D (.dK (wV (put f' v (f' u+1)) (gT++[v])))) R=some (.lst (NV gT)):=by rw[ak LJ.symm];exact w_
       refine⟨_,rfl,.inl ⟨rfl,_,aU.of s_⟩,_,rfl,R,_,_,rfl,rfl,s_,by rw[aF];exact bT (show gT.length<33 by lia) (by decide),?_⟩;have WS:u≠v:=fun z=>AO (z ▸ FQ);refine⟨gT++[v],put f' v (f' u+1),uA.add GV FP WR AO,by rw[iC kO];exact GV,fun x hx t=>?_,⟨_,rfl⟩,eT.cG (eT.cG tf hD) RE,?_,?_⟩
       .rw[fz WS];by_cases e:x=v
        .subst e;exact⟨by simp,by rw[ip];exact bf _⟩
        .obtain⟨q1,q2⟩:=dn x (by lia) t;exact⟨iE _ q1,by rw[fz e];exact q2⟩
       .rw[ak LJ,af]
       .rw[af,je]
      .have e':¬ u∈g v:=fun z=>e (bE z);refine⟨gT,f',uA,GV,fun x hx t=>?_,⟨_,rfl⟩,tf,jY,w_⟩;by_cases ex:x=v
       .subst ex;exact absurd (Sc.mp t) e'
       .exact dn x (by lia) t
    .rintro σ H3 ⟨gT,f',uA,GV,dn,⟨b',rfl⟩,tf,jY,w_⟩;rw[d_] at dn;have kO:i<gT.length:=(cI.mp GV).1;have FS:gT.length<=n:=fc uA.nd uA.lt;refine⟨_,rfl,_,_,rfl,rfl,⟨i+1,gT,f',kO,uA.next GV (fun v t=>dn v (fi.LC t).2.1 t),⟨_,rfl⟩,tf,jY,w_⟩,?_⟩;show n-((i:Int)+1).toNat<n-((i:Int)).toNat;lia
   .rw[show decide ((i:Int)<((Rs.length:Nat):Int))=false by simp;lia];refine lG ?_;refine⟨_,rfl,k D H2 sm hD ⟨Rs,?_,fun x hx=>(Bf.done fi (by lia) hx).1⟩⟩;have e:wV f Rs=wV (fun x=>far (bN n g) x st) Rs:=by
     unfold wV;refine kg fun x hx=>?_;have yY:=Bf.lt x hx;rw[(Bf.done fi (by lia) yY).2,Kb Fi hs yY]
    rw[<-e];exact jj
  .rintro σ H2 Q1 Q2 imp ⟨v,e1,v2,e2,p,ys,e3,e4,i1,i2,e5,e6,kk,e7,q⟩;exact⟨v,e1,v2,e2,p,ys,e3,e4,i1,i2,e5,e6,kk,e7,imp _ _ q⟩
end
theorem Sd:(["_law_home","_law_outs"]:List Str).Nodup:=by decide +kernel
structure fk(H:Hp)(r:Addr)(ds:List Addr)(n:Nat)(g:Nat->List Nat):Prop where
 dict:H r=some (.dK (aS ds n))
 rows:∀j,j<n->lY H (ds.getD j 0) n (fun x=>far (bN n g) x j)
theorem fk.same{H H':Hp}{r:Addr}{ds:List Addr}{n:Nat}{g:Nat->List Nat}(h:fk H r ds n g)(s:aI H H'):fk H' r ds n g:=⟨s _ _ h.dict,fun j hj=>(h.rows j hj).same s⟩
theorem fk.eE{H H':Hp}{p r:Addr}{ds:List Addr}{n:Nat}{g:Nat->List Nat}(h:fk H r ds n g)(s:aP p H H')(hp:aX H p):fk H' r ds n g:=by
 obtain⟨a,b,e,_⟩:=hp;exact⟨s _ _ h.dict (cC h.dict e (by intro z;cases z)),fun j hj=>let ⟨R,x,y⟩:=h.rows j hj;⟨R,s _ _ x (cC x e (by intro z;cases z)),y⟩⟩
theorem fk.get{H:Hp}{r:Addr}{ds:List Addr}{n:Nat}{g:Nat->List Nat}(h:fk H r ds n g){x:Nat}(hx:x<n):iT H r (.int x) (some (.ref (ds.getD x 0))):=by
 have:=iT.k (k:=.inl (x:Int)) h.dict;rw[nG hx] at this;exact this
section
variable {P:Program} {w:World} {K:PySem.W.Frag} {mg:Str->Option Value} {base:Heap}
theorem Oe:aJ ["_law_outs"] ["_law_outs"] (am GQ):=⟨rfl,rfl,rfl,by decide +kernel,rfl,by decide +kernel,by decide +kernel⟩
def AZ:Sp:=fun vs H Q _=>∃ (O:Addr) (as:List Addr) (n:Nat) (g:Nat->List Nat),vs=[.ref O]/\bb H O as n g/\gI n (bN n g)/\∀ (r:Addr) (ds:List Addr) (H':Hp),fk H' r ds n g->fR H' O as n g->aP O H H'->H r=none->Q (.ref r) H'
theorem Kg{f:Addr}{fd:FuncData}(F:fW K "_law_fars" "_law_fars" GQ f fd)(B:Bl mg)(FA:cE P w K mg base bi 1 "_law_far" ["_law_outs","_law_home"] Cf):bC P w K mg base bi 2 f fd ["_law_outs"] AZ:=by
 refine F.ok Oe (fun vs H Q E h=>?_) (fun dE A outer s H vs Q E hr h=>?_)
 .obtain⟨O,as,n,g,rfl,_⟩:=h;rfl
 .obtain⟨O,as,n,g,rfl,hO,Fi,q⟩:=h;have n2:=Fi.n2;refine'⟨_,al (aH (cr (rQ rfl) (by rfl) B.dict PyProof.Rows.boot_dict (aa ?c ag))),?_⟩;case c=>
   refine' cm (g:=bo 0) (te:=tD (bx (aV 0) (bx (pD Cf [] E0 (bx (aV 1) (bx (aV 0) hE))) hE))) (NB:=["_law_home","_law_outs"]) (src:=[none,some 0]) (bY (by kernel_rfl)) rfl (BN (pv 0)) ?g ?t ?e;case g=>exact fun cl C s₃ H₃ fp=>au (i:=0) Sd rfl (Or.inl rfl) (Or.inr rfl)
   case t=>exact fun cl C s₃ H₃ fp=>eQ
   case e=>exact fun cl C s₃ H₃ fp=>eJ (aa (pv 0) (aa (aB FA hr aM (aa (pv 1) (aa (pv 0) ag))) ag))
  refine⟨_,rfl,O,_,rfl,hO.dict,fun o D hD=>?_⟩;have hf1:(upd H O (.jh o (.dK (aS as n)))) O=some (.jh o (.dK (aS as n))):=af;have XN:∀j,j<n->as.getD j 0≠O:=fun j hj=>cC (hO.rows.2 j hj) hO.dict (by intro z;cases z);have hOF:fR (upd H O (.jh o (.dK (aS as n)))) O as n g:=⟨⟨o,af⟩,hO.rows.mono fun j hj e=>by rw[ak (XN j hj)];exact e,hO.inj⟩
  have sE:aP O H (upd H O (.jh o (.dK (aS as n)))):=aP.upd;have fr:∀b,(upd H O (.jh o (.dK (aS as n)))) b=none->H b=none:=fun b e=>by
   cases z:H b with
   |none=>rfl
   |some u=>
    by_cases eb:b=O
    .subst eb;rw[hf1] at e;cases e
    .rw[sE b u z eb] at e;cases e
  generalize upd H O (.jh o (.dK (aS as n)))=H1 at *;refine DH (d:=O) (o:=o) (kvs:=aS as n) (fun i ys σ H2=>(∃a,σ=[a,some (.ref O)])/\aI H1 H2/\H2 D=some (.lst ys)/\∃ts ds:List Addr,ys=ts.map V.ref/\ds.length=i/\Holds H2 ts i (fun j=>.tup [.int (j:Int),.ref (ds.getD j 0)])/\∀j,j<i->lY H2 (ds.getD j 0) n (fun x=>far (bN n g) x j))
   ⟨⟨_,rfl⟩,aj hD,af,[],[],rfl,rfl,Holds.nil,fun j hj=>absurd hj (by lia)⟩ (fun i ys σ H2 _ z=>z.2.1 _ _ hf1) ?_ ?_
  .rintro i k v ys σ H2 Kt Kf hk ⟨⟨a,rfl⟩,sm,jj,ts,ds,rfl,C6,pL,UX⟩ kt kf;obtain⟨hi,rfl⟩:=lx hk;change bo 0 (V.int (i:Int)) _ _ _;refine⟨_,rfl,_,rfl,_,rfl,O,as,n,g,i,rfl,hOF.same sm,Fi,hi,fun r H3 s3 hr3 F3=>⟨by show 2<=sizeLine;decide,fun t ht=>?_⟩⟩;have s4:=aj (o:=.tup [.int (i:Int),.ref r]) ht;have uB:=s4 _ _ (s3 _ _ jj);have hti:=af (H:=H3) (a:=t) (o:=.tup [.int (i:Int),.ref r]);have F4:=F3.same s4;have XO:=s3.trans s4;generalize upd H3 t (.tup [.int (i:Int),.ref r])=H4 at *;have keep:∀b u,H4 b=some u->(∀xs,u≠.lst xs)->(upd H4 D (.lst (ts.map V.ref++[.ref t]))) b=some u:=fun b u e z=>by rw[ak (cC e uB (z _))];exact e
   have L4:∀b f,lY H4 b n f->lY (upd H4 D (.lst (ts.map V.ref++[.ref t]))) b n f:=fun b f z=>let ⟨R,x,y⟩:=z;⟨R,keep _ _ x (by intro xs w;cases w),y⟩;refine kt _ _ _ uB (by rw[aF,pL.1];exact bT (show i<33 by lia) (by decide)) ⟨⟨_,rfl⟩,eT.cG (sm.trans XO) hD,af,ts++[t],ds++[r],by rw[bK];rfl,by rw[cu,C6];rfl,?_,fun j hj=>?_⟩
   .refine⟨by rw[cu,pL.1];rfl,fun j hj=>?_⟩;rw[bD pL.1];show _=some (HO.tup [.int (j:Int),.ref ((ds++[r]).getD j 0)]);rw[bD C6];by_cases e:j=i
    .rw[aq e,aq e,e];exact keep _ _ hti (by intro xs w;cases w)
    .rw[ap e,ap e];exact keep _ _ (XO _ _ (pL.2 j (by lia))) (by intro xs w;cases w)
   .rw[bD C6];by_cases e:j=i
    .rw[aq e,e];exact L4 _ _ F4
    .rw[ap e];exact L4 _ _ ((UX j (by lia)).same XO)
  .rintro ys σ H2 ⟨_,sm,jj,ts,ds,rfl,C6,pL,UX⟩;rw[d_] at C6 pL UX;refine⟨D,ts,aS ds n,rfl,jj,by unfold aS;rw[pL.1,aF,dD],fun i hi=>?_,?_,fun r vY=>?_⟩
   .have kO:i<n:=by unfold aS at hi;rw[aF,dD] at hi;exact hi
    refine⟨.inl (i:Int),.ref (ds.getD i 0),?_,pL.2 i kO⟩;unfold aS;rw[bp,kh kO];rfl
   .unfold aS;rw[aF,dD];lia
   .rw[mO];have s5:=aj (o:=.dK (aS ds n)) vY;exact q r ds _ ⟨af,fun j hj=>(UX j hj).same s5⟩ ((hOF.same sm).same s5) (sE.trans (aP.of (sm.trans s5))) (fr r (sm.free vY))
end
open eT (zr zp PO HK Zs eD NT o6 uz DA)
abbrev Of:Stmt:=gR 24
section
variable {P:Program} {w:World} {K:PySem.W.Frag} {mg:Str->Option Value} {base:Heap}
theorem Se:aJ ["net","homes","stands","log","letter","beat","chain"] ["net","homes","stands","log","letter","beat","chain"] (am Of):=⟨rfl,rfl,rfl,by decide +kernel,rfl,by decide +kernel,by decide +kernel⟩
def GW(C:Addr):Sp:=fun vs H Q _=>∃ (p a SA LA Z:Addr) (bJ bB:List Addr) (m L:Nat) (ss ls:Nat->List (Option Nat)) (hs zs ns:List Int) (j c n:Nat) (g:Nat->List Nat) (Lp:Addr->Prop),vs=[.ref p,.ref a,.ref SA,.ref LA,.int j,.int c,.ref Z]/\H a=some (.tup (HV hs))/\hs.length=m/\cQ H SA LA bJ bB m L ss ls/\qc n g hs L ss ls ns/\H Z=some (.lst (HV zs))/\j<m/\
 eD C H Lp p n (bN n g)/\kY hs m L ss ls j c zs=true/\∀ (b:Bool) (H':Hp),aI H H'->(∀d o e:Nat,zs.getD (zs.length-1) 0=(d:Int)->(ls c).getD j none=some o->hs.getD d 0=(e:Int)->b=decide (zs.length<=far (bN n g) o e))->Q (.bl b) H'
theorem Og{f C:Addr}{fd:FuncData}(F:fW K "is_straight" "is_straight" Of f fd)(B:Bl mg)(T:NT K mg C)(CH:cE P w K mg base bi 5 "is_chain" ["homes","stands","log","letter","beat","thing"] qE)(MF:o6 P w K mg base bi 5 C "far" ["self","one","other"] (eT.o7 C)):
  bC P w K mg base bi 6 f fd ["net","homes","stands","log","letter","beat","chain"] (GW C):=by
 obtain⟨fF,fdF,mF,bF,GF⟩:=MF.ex;refine F.ok Se (fun vs H Q E h=>?_) (fun dE A outer s H vs Q E hr h=>?_)
 .obtain⟨p,a,SA,LA,Z,bJ,bB,m,L,ss,ls,hs,zs,ns,j,c,n,g,Lp,rfl,_⟩:=h;rfl
 .obtain⟨p,a,SA,LA,Z,bJ,bB,m,L,ss,ls,hs,zs,ns,j,c,n,g,Lp,rfl,ha,hl,LG,R,hZ,hj,N,hc,q⟩:=h;refine⟨_,ah (bA (eI (dA (aB CH hr aM (aa (pv 1) (aa (pv 2) (aa (pv 3) (aa (pv 4) (aa (pv 5) (aa (pv 6) ag))))))))) dI aR)
   (al (aH (cy Bn (jB (pv 0) T.cl mF GF hr bF .nil aM (aa (az aZ (az aA (pv 3) (pv 5) (fun _ _=>rfl)) (pv 4) (fun _ _=>rfl)) (aa (az aZ (pv 1) (az aA (pv 6) (jV gQ ao) (fun _ _=>rfl)) (fun _ _=>rfl)) ag)))
    (av aE (by rfl) B.len cL (aa (pv 6) ag)) (aG _)))),?_⟩
  refine⟨_,rfl,_,rfl,_,rfl,_,rfl,_,rfl,_,rfl,a,SA,LA,Z,bJ,bB,m,L,ss,ls,hs,zs,j,c,rfl,ha,hl,LG,hZ,fun H1 s1=>⟨_,rfl,?_⟩⟩;rw[hc];refine lG ?_;obtain⟨d,o,h0,zd,D4,Ch⟩:=GN R hc;obtain⟨x,e,q1,q2,q3,q4,q5⟩:=Ch.hm;have fi:=N.nC;obtain⟨o',e1,t⟩:=R.goes Ch.cl Ch.s0;obtain rfl:o=o':=by rw[Ch.o0] at e1;exact ba e1
  have hon:=(fi.LC t).2.1;have hen:=(fi.LC q4).2.1;have UY:=LG.same s1;obtain⟨g1,g2,g3,g4,g5,g6⟩:=UY;have lcl:(ls c).length=m:=by rw[(g6 c Ch.cl).1];exact g5 c (eC Ch.cl)
  have N1:=N.same s1;obtain⟨dx,tl,ol,ds,hn,_⟩:=N1.ob;have AX:fT (SV (ls c)) (j:Int)=some (.int (o:Int)):=by rw[dW (by lia),Ch.o0];rfl
  have at3:fT (HV hs) (zs.getD (zs.length-1) 0)=some (.int (e:Int)):=by rw[zd,iN (by have:=Ch.dm;lia),<-q3]
  refine⟨_,rfl,p,dx,_,rfl,hn,DA _ _ _ _,_,rfl,_,rfl,LA,_,_,_,rfl,rfl,aU.of g2,fj (by rw[g4.1];exact Ch.cl),_,rfl,bB.getD c 0,_,_,_,rfl,rfl,cK.of (g4.2 c Ch.cl),AX,
   _,rfl,_,rfl,_,rfl,Z,_,_,_,rfl,rfl,aU.of (s1 _ _ hZ),wR D4,a,_,_,_,rfl,rfl,cK.of (s1 _ _ ha),at3,Lp,p,n,bN n g,o,e,rfl,N1,hon,hen,?_⟩
  refine⟨_,rfl,Z,_,rfl,.inl (aU.of (s1 _ _ hZ)),_,_,rfl,rfl,q _ H1 s1 fun d' o2 e2 zd' eo ee=>?_⟩;obtain rfl:d=d':=by rw[zd] at zd';exact gY zd'
  obtain rfl:o=o2:=by rw[Ch.o0] at eo;exact ba eo
  obtain rfl:e=e2:=by rw[<-q3] at ee;exact gY ee
  rw[show (HV zs).length=zs.length from aF _];exact qT.mpr (by lia)
end
noncomputable def dH(n:Nat)(g:Nat->List Nat)(hs:List Int)(i h:Nat):Nat:=far (bN n g) h (hs.getD i 0).toNat
noncomputable def ix(n:Nat)(g:Nat->List Nat)(hs:List Int)(s l:List (Option Nat))(i:Nat):Bool:=match s.getD i none,l.getD i none with
 |some h,some o=>decide (dH n g hs i h<=dH n g hs i o)
 |_,_=>false
noncomputable def dX(n:Nat)(g:Nat->List Nat)(hs:List Int)(i h:Nat):List Nat:=(g h).filter fun o=>decide (dH n g hs i o<dH n g hs i h)
def NF(nr:Bool)(n:Nat)(g:Nat->List Nat)(hs:List Int)(s l:List (Option Nat)):Prop:=∀i h,s.getD i none=some h->ix n g hs s l i=true->∀o∈dX n g hs i h,∃j,s.getD j none=some h/\l.getD j none=some o/\dH n g hs j o<dH n g hs j h/\(nr=true->dH n g hs j h<=dH n g hs i h)
def UZ(s l:List (Option Nat))(h o:Nat):Nat:=((List.range s.length).find? fun j=>decide (s.getD j none=some h)&&decide (l.getD j none=some o)).getD 0
theorem Oh{g:Nat->List Nat}{s l:List (Option Nat)}{h o j:Nat}(Hd:dw g s l)(e1:s.getD j none=some h)(e2:l.getD j none=some o):UZ s l h o=j:=by
 unfold UZ;cases e:(List.range s.length).find? fun j=>decide (s.getD j none=some h)&&decide (l.getD j none=some o) with
 |none=>
  have:=List.find?_eq_none.mp e j (bu.mpr (aT e1).1);rw[e1,e2] at this;simp at this
 |some k=>
  have:=List.find?_some e;rw[cX,dP,dP] at this;exact Hd.UW k j h o this.1 e1 this.2 e2
noncomputable def kZ(n:Nat)(g:Nat->List Nat)(hs:List Int)(ss ls:Nat->List (Option Nat))(b i:Nat):Nat:=if ix n g hs (ss b) (ls b) i=true then UZ (ss b) (ls b) (((ss b).getD i none).getD 0) ((dX n g hs i (((ss b).getD i none).getD 0)).headD 0) else i
def k8(hs:List Int)(l:List (Option Nat))(c:Nat):Bool:=match l.getD c none with
 |some o=>decide ((o:Int)=hs.getD c 0)
 |none=>false
def wW(hs:List Int)(ls:Nat->List (Option Nat))(nx:Nat->Nat->Nat):Nat->Nat->Nat->Option (List Nat)
 |0,_,_=>none
 |k+1,b,c=>if k8 hs (ls b) c=true then some [c] else (wW hs ls nx k (b+1) (nx (b+1) c)).map (c::·)
noncomputable def H_(n:Nat)(g:Nat->List Nat)(hs:List Int)(L:Nat)(ss ls:Nat->List (Option Nat))(b i:Nat):Option (List Nat):=
 if b<L/\ix n g hs (ss b) (ls b) i=true then wW hs ls (kZ n g hs ss ls) (L-b) b (kZ n g hs ss ls b i) else none
inductive nQ (hs:List Int) (L:Nat) (ss ls:Nat->List (Option Nat)):Nat->Nat->List Nat->Nat->Prop where
 |last {b h c o:Nat} (hb:b<L) (e1:(ss b).getD c none=some h) (e2:(ls b).getD c none=some o) (e3:(o:Int)=hs.getD c 0):nQ hs L ss ls b h [c] o
 |cons {b h c o e:Nat} {zs:List Nat} (hb:b<L) (e1:(ss b).getD c none=some h) (e2:(ls b).getD c none=some o) (r:nQ hs L ss ls (b+1) o zs e):nQ hs L ss ls b h (c::zs) e
abbrev IN(zs:List Nat):List Int:=zs.map fun (i:Nat)=>(i:Int)
theorem nR{zs:List Nat}{k:Nat}:(IN zs).getD k 0=((zs.getD k 0:Nat):Int):=by
 rw[bH,bH,bp];cases zs[k]? <;> rfl
theorem mQ{m L:Nat}{ss ls:Nat->List (Option Nat)}{c:Int}{zs:List Int}:∀ {k b h:Nat},dz m L ss ls b h (c::zs) (k+1)=if fX m L ss c (b:Int) h=true then dz m L ss ls (b+1) (((ls b).getD c.toNat none).getD 0) zs k else none
 |0,b,h=>rfl
 |k+1,b,h=>by
  have ih:=mQ (m:=m) (L:=L) (ss:=ss) (ls:=ls) (c:=c) (zs:=zs) (k:=k) (b:=b) (h:=h);rw[show dz m L ss ls b h (c::zs) (k+1+1)=(match dz m L ss ls b h (c::zs) (k+1) with
   |none=>none
   |some h=>if fX m L ss ((c::zs).getD (k+1) 0) ((b+(k+1):Nat):Int) h=true then some (((ls (b+(k+1))).getD ((c::zs).getD (k+1) 0).toNat none).getD 0) else none) from rfl,ih]
  by_cases e:fX m L ss c (b:Int) h=true
  .rw[aq e,aq e];rw[show dz m L ss ls (b+1) (((ls b).getD c.toNat none).getD 0) zs (k+1)=(match dz m L ss ls (b+1) (((ls b).getD c.toNat none).getD 0) zs k with
    |none=>none
    |some h=>if fX m L ss (zs.getD k 0) ((b+1+k:Nat):Int) h=true then some (((ls (b+1+k)).getD (zs.getD k 0).toNat none).getD 0) else none) from rfl,vc,show b+(k+1)=b+1+k by lia]
  .rw[ap e,ap e]
theorem nQ.walk{hs:List Int}{m L:Nat}{ss ls:Nat->List (Option Nat)}{b h:Nat}{zs:List Nat}{e:Nat}(A:nQ hs L ss ls b h zs e)(sl:∀b,b<=L->(ss b).length=m):dz m L ss ls b h (IN zs) zs.length=some e/\zs≠[]/\(∃d:Nat,zs.getD (zs.length-1) 0=d/\(e:Int)=hs.getD d 0):=by
 induction A with
 |@last b h c o hb e1 e2 e3=>
  have hc:c<m:=by rw[<-sl b (eC hb)];exact(aT e1).1
  refine⟨?_,by simp,c,rfl,e3⟩;show dz m L ss ls b h [(c:Int)] (0+1)=_;rw[mQ,aq (Cc hc hb e1),cW,e2];rfl
 |@cons b h c o e zs hb e1 e2 r ih=>
  obtain⟨w,ne,d,hd,he⟩:=ih;have hc:c<m:=by rw[<-sl b (eC hb)];exact(aT e1).1
  refine⟨?_,by simp,d,?_,he⟩
  .show dz m L ss ls b h ((c:Int)::IN zs) (zs.length+1)=_;rw[mQ,aq (Cc hc hb e1),cW,e2];exact w
  .rw[<-hd];have hz:0<zs.length:=va.mpr ne;rw[cx,show zs.length+1-1=(zs.length-1)+1 by lia,vc]
theorem nQ.chain{hs:List Int}{m L:Nat}{ss ls:Nat->List (Option Nat)}{b h i:Nat}{zs:List Nat}{e:Nat}(A:nQ hs L ss ls b h zs e)(sl:∀b,b<=L->(ss b).length=m)(hb:b<L)(e1:(ss b).getD i none=some h)(ni:zs.headD 0≠i):kY hs m L ss ls i b (IN zs)=true:=by
 obtain⟨w,ne,d,hd,he⟩:=A.walk sl;have hi:i<m:=by rw[<-sl b (eC hb)];exact(aT e1).1
 unfold kY;rw[i7 hi hb e1,cW,cW,e1,aF];show (true&&(!(IN zs).isEmpty&&(!decide ((IN zs).getD 0 0=(i:Int))&&GD hs (IN zs) (dz m L ss ls b h (IN zs) zs.length))))=true;rw[w];unfold GD;rw[aF,nR,nR,hd,cW];cases zs with
 |nil=>exact absurd rfl ne
 |cons c zs=>
  have n1:¬ ((c:Int)=(i:Int)):=fun z=>ni (gY z);simp only[cM,List.isEmpty_cons,z4,jq,List.getD_cons_zero,dk n1,bE he]
section
variable {n:Nat} {g:Nat->List Nat} {hs ns:List Int} {m L:Nat} {ss ls:Nat->List (Option Nat)} {nr:Bool}
structure hX(nr:Bool)(n:Nat)(g:Nat->List Nat)(hs:List Int)(L:Nat)(ss ls:Nat->List (Option Nat))(ns:List Int):Prop where
 r:qc n g hs L ss ls ns
 nf:∀b,b<L->NF nr n g hs (ss b) (ls b)
 hm:∀h∈hs,0<=h/\h<n
 off:∀b,b<=L->∀i h,(ss b).getD i none=some h->hs.getD i 0≠(h:Int)
 sl:∀b,b<=L->(ss b).length=hs.length
theorem hX.home(N:hX nr n g hs L ss ls ns){b i h:Nat}(hb:b<=L)(e:(ss b).getD i none=some h):∃k:Nat,k<n/\hs.getD i 0=(k:Int)/\(hs.getD i 0).toNat=k/\k≠h/\h<n/\i<hs.length:=by
 have hi:i<hs.length:=by rw[<-N.sl b hb];exact(aT e).1
 have mm:hs.getD i 0∈hs:=by rw[bH,b9 hi];exact gv _
 obtain⟨a,c⟩:=N.hm _ mm;have o:=N.off b hb i h e;refine⟨(hs.getD i 0).toNat,by lia,by lia,rfl,by lia,N.r.lt b hb i h e,hi⟩
theorem jf{i h o:Nat}:o∈dX n g hs i h↔o∈g h/\dH n g hs i o<dH n g hs i h:=by
 unfold dX;rw[cf,dP]
theorem A0(F:gI n (bN n g)){i h:Nat}(hh:h<n)(hk:(hs.getD i 0).toNat<n)(ne:(hs.getD i 0).toNat≠h):∃o l,dX n g hs i h=o::l:=by
 have fs:=F.Nq hh hk;cases e:dH n g hs i h with
 |zero=>
  unfold dH at e;rw[e] at fs;exact absurd fs.1.symm ne
 |succ d=>
  unfold dH at e;rw[e] at fs;obtain⟨b,t,w⟩:=e_.Fy fs.1;have tl:=F.LC t;have:=F.Nr tl.2.1 hk w;have mb:b∈dX n g hs i h:=jf.mpr ⟨(yz.mp t).2,by unfold dH;rw[e];lia⟩;cases z:dX n g hs i h with
  |nil=>rw[z] at mb;cases mb
  |cons o l=>exact⟨o,l,rfl⟩
theorem k9{s l:List (Option Nat)}{i h o:Nat}(e1:s.getD i none=some h)(e2:l.getD i none=some o):ix n g hs s l i=decide (dH n g hs i h<=dH n g hs i o):=by
 unfold ix;rw[e1,e2]
theorem uM{s l:List (Option Nat)}{i:Nat}(h:ix n g hs s l i=true):∃x o,s.getD i none=some x/\l.getD i none=some o:=by
 unfold ix at h;cases e1:s.getD i none with
 |none=>rw[e1] at h;cases h
 |some x=>
  cases e2:l.getD i none with
  |none=>rw[e1,e2] at h;cases h
  |some o=>exact⟨x,o,rfl,rfl⟩
theorem hX.taker(N:hX nr n g hs L ss ls ns)(F:gI n (bN n g)){b i:Nat}(hb:b<L)(led:ix n g hs (ss b) (ls b) i=true):
  ∃h o' o l j,(ss b).getD i none=some h/\(ls b).getD i none=some o'/\o'∈g h/\h<n/\dX n g hs i h=o::l/\kZ n g hs ss ls b i=j/\(ss b).getD j none=some h/\(ls b).getD j none=some o/\o∈g h/\dH n g hs i o<dH n g hs i h/\¬ dH n g hs i o'<dH n g hs i h/\dH n g hs j o<dH n g hs j h/\(nr=true->dH n g hs j h<=dH n g hs i h):=by
 obtain⟨h,o',e1,e2⟩:=uM led;obtain⟨k,k1,k2,k3,k4,k5,_⟩:=N.home (eC hb) e1;obtain⟨o,l,eg⟩:=A0 F (hs:=hs) (i:=i) k5 (by rw[k3];exact k1) (by rw[k3];exact k4);have mo:o∈dX n g hs i h:=by rw[eg];exact cA
 obtain⟨j,j1,j2,j3,j4⟩:=N.nf b hb i h e1 led o mo;obtain⟨o2,e3,m2⟩:=(N.r.tie b hb).tie i h e1;rw[e2] at e3;cases e3;refine⟨h,o',o,l,j,e1,e2,m2,k5,eg,?_,j1,j2,(jf.mp mo).1,(jf.mp mo).2,?_,j3,j4⟩
 .unfold kZ;rw[aq led,e1];show UZ (ss b) (ls b) h ((dX n g hs i h).headD 0)=j;rw[eg];exact Oh (N.r.tie b hb) j1 j2
 .rw[k9 e1 e2,dP] at led;lia
theorem hX.next(N:hX nr n g hs L ss ls ns){b c h o:Nat}(hb:b<L)(e1:(ss b).getD c none=some h)(e2:(ls b).getD c none=some o)(nh:k8 hs (ls b) c≠true):(ss (b+1)).getD c none=some o:=by
 have:=N.r.next b hb c (by rw[e1];intro z;cases z);rw[this,e2];unfold k8 at nh;rw[e2] at nh;have nh':¬ ((o:Int)=hs.getD c 0):=fun z=>nh (bE z);exact ap nh'
theorem Cg{hs:List Int}{ls:Nat->List (Option Nat)}{nx:Nat->Nat->Nat}:∀ {k b c:Nat} {zs:List Nat},wW hs ls nx k b c=some zs->zs.length<=k
 |0,_,_,_,h=>by cases h
 |k+1,b,c,zs,h=>by
  unfold wW at h;by_cases e:k8 hs (ls b) c=true
  .rw[aq e] at h;cases h;simp
  .rw[ap e] at h;obtain⟨mT,h',rfl⟩:=pi.mp h;have:=Cg h';rw[cx];lia
theorem DM(N:hX nr n g hs L ss ls ns)(F:gI n (bN n g)):∀ (k b c h o:Nat) (zs:List Nat),k=L-b->b<L->(ss b).getD c none=some h->(ls b).getD c none=some o->o∈g h->dH n g hs c o<dH n g hs c h->
  wW hs ls (kZ n g hs ss ls) k b c=some zs->∃e:Nat,e<n/\nQ hs L ss ls b h zs e/\zs.headD 0=c/\(nr=true->zs.length<=dH n g hs c h):=by
 intro k;induction k with
 |zero=>intro b c h o zs _ _ _ _ _ _ z;cases z
 |succ k ih=>
  intro b c h o zs hk hb e1 e2 mo dl z;have hn:=N.r.lt b (eC hb) c h e1;have on:=(F.LC (yz.mpr ⟨hn,mo⟩)).2.1;unfold wW at z;by_cases hm:k8 hs (ls b) c=true
  .rw[aq hm] at z;cases z;unfold k8 at hm;rw[e2] at hm;exact⟨o,on,.last hb e1 e2 (bU hm),rfl,fun _=>by show 1<=_;lia⟩
  .rw[ap hm] at z;obtain⟨mT,z',rfl⟩:=pi.mp z;have RF:b+1<L:=by
    refine Nat.lt_of_not_le fun y=>?_;rw[show k=0 by lia] at z';cases z'
   have e3:=N.next hb e1 e2 hm;have fin:∀c' o2:Nat,kZ n g hs ss ls (b+1) c=c'->(ss (b+1)).getD c' none=some o->(ls (b+1)).getD c' none=some o2->o2∈g o->dH n g hs c' o2<dH n g hs c' o->(nr=true->dH n g hs c' o<=dH n g hs c o)->
     ∃e:Nat,e<n/\nQ hs L ss ls b h (c::mT) e/\(c::mT).headD 0=c/\(nr=true->(c::mT).length<=dH n g hs c h):=by
    intro c' o2 x1 x2 x3 x4 x6 x7;rw[x1] at z';obtain⟨e,a1,a2,_,a4⟩:=ih (b+1) c' o o2 mT (by lia) RF x2 x3 x4 x6 z';exact⟨e,a1,.cons hb e1 e2 a2,rfl,fun y=>by have:=a4 y;have:=x7 y;rw[cx];lia⟩
   by_cases led:ix n g hs (ss (b+1)) (ls (b+1)) c=true
   .obtain⟨h',o',o2,l,j,f1,f2,f3,f4,f5,f6,f7,f8,f9,f10,f11,XQ,f13⟩:=N.taker F RF led;obtain rfl:o=h':=by rw[e3] at f1;exact ba f1
    exact fin j o2 f6 f7 f8 f9 XQ f13
   .obtain⟨o2,f1,f2⟩:=(N.r.tie (b+1) RF).tie c o e3;have nl:=led;rw[k9 e3 f1,dP] at nl;exact fin c o2 (by unfold kZ;rw[ap led]) e3 f1 f2 (by lia) fun _=>bf _
theorem Oi(N:hX nr n g hs L ss ls ns)(F:gI n (bN n g)){b i:Nat}{zs:List Nat}(z:H_ n g hs L ss ls b i=some zs):
  ∃ (h o' e d q c:Nat),b<L/\i<hs.length/\(ss b).getD i none=some h/\(ls b).getD i none=some o'/\h<n/\o'<n/\e<n/\kY hs hs.length L ss ls i b (IN zs)=true/\zs.getD (zs.length-1) 0=d/\d<hs.length/\hs.getD d 0=(e:Int)/\
   zs.getD 0 0=c/\c<hs.length/\hs.getD c 0=(q:Int)/\q<n/\(nr=true->zs.length<=far (bN n g) h q)/\zs≠[]/\zs.length<=L:=by
 unfold H_ at z;by_cases c0:b<L/\ix n g hs (ss b) (ls b) i=true
 rotate_left
 .rw[ap c0] at z;cases z
 rw[aq c0] at z;obtain⟨hb,led⟩:=c0;obtain⟨h,o',o,l,j,f1,f2,f3,f4,f5,f6,f7,f8,f9,f10,f11,XQ,f13⟩:=N.taker F hb led;obtain⟨qi,i1,i2,i3,i4,_,il⟩:=N.home (eC hb) f1;obtain⟨qj,j1,j2,j3,j4,_,jl⟩:=N.home (eC hb) f7;have on':=(F.LC (yz.mpr ⟨f4,f3⟩)).2.1;rw[f6] at z;obtain⟨e,a1,a2,a5,a6⟩:=DM N F (L-b) b j h o zs rfl hb f7 f8 f9 XQ z;have noo:o≠o':=fun y=>f11 (by rw[<-y];exact f10);have nij:j≠i:=by
  rintro rfl;rw[f2] at f8;cases f8;exact noo rfl
 obtain⟨w,ne,dd,hd,he⟩:=a2.walk (m:=hs.length) N.sl;have ch:=a2.chain (m:=hs.length) N.sl hb f1 (by rw[a5];exact nij);refine⟨h,o',e,dd,qj,j,hb,il,f1,f2,f4,on',a1,ch,hd,?_,he.symm,?_,jl,j2,j1,fun y=>?_,ne,bj (Cg z) (Nat.sub_le _ _)⟩
 .obtain⟨d2,o2,h2,zd,D4,Ch⟩:=GN N.r ch;rw[aF,nR,hd] at zd;have:=Ch.dm;have:=gY zd;lia
 .cases zs with
  |nil=>exact absurd rfl ne
  |cons c zs=>exact a5
 .have:=a6 y;unfold dH at this;rw[j3] at this;exact this
end
abbrev Oj:Stmt:=gR 49
abbrev XR:Stmt:=gR 50
abbrev XS:Stmt:=gR 53
theorem Ci{β:Type}{K:PySem.W.Frag}{a D:Addr}{g:TG}{tt:TT}{te:TE}{fin:Hp->Prop}{σB:St}{H0:Hp}(ms:List β)(e G:β->V)(dU:St->Prop)(ha:H0 a=some (.lst (ms.map e)))(hD:H0 D=none)(hn:ms.length<=1000)(h0:dU σB)(hs:∀m σ H (R:V->St->Hp->Prop) (Kf:St->Hp->Prop),m∈ms->dU σ->aI H0 H->(∀σ2 H2,dU σ2->aI H H2->R (G m) σ2 H2)->
   g (e m) σ H fun σ2 H2=>tt σ2 H2 fun b H3=>if b=true then te σ2 H3 fun v H4=>R v σ2 H4 else Kf σ2 H3)(hd:∀H,aI H0 H->H D=some (.lst (ms.map G))->fin H):iG (EA K a) g tt te D fin σB (upd H0 D (.lst [])):=by
 refine eG (xs:=ms.map e) (fun i ys σ H=>dU σ/\aI H0 H/\H D=some (.lst ys)/\ys=(ms.take i).map G) ⟨h0,aj hD,af,rfl⟩ (fun i ys σ H _ z=>aU.of (z.2.1 _ _ ha)) ?_ ?_
 .rintro i x ys σ H Kt Kf hx ⟨sh,sm,oZ,rfl⟩ kt kf;rw[bp] at hx;cases hz:ms[i]? with
  |none=>rw[hz] at hx;cases hx
  |some m=>
   rw[hz] at hx;obtain rfl:e m=x:=ba hx;refine hs m σ H Kt Kf (eB hz) sh sm (fun σ2 H2 Dy s2=>?_);refine kt _ _ _ (s2 _ _ oZ) ?_ ⟨Dy,eT.cG (sm.trans s2) hD,af,?_⟩
   .rw[aF];exact gu (List.length_take_le' _ _) (gu hn (by decide))
   .rw[gX,hz,zI,bK];rfl
 .rintro ys σ H ⟨_,sm,oZ,rfl⟩;rw[aF,iY] at oZ;exact hd H sm oZ
theorem wX{K:PySem.W.Frag}{a D:Addr}{os:List Nat}{g:TG}{tt:TT}{te:TE}{fin:Hp->Prop}{σB:St}{H0:Hp}(c:Nat->Bool)(dU:St->Prop)(ha:H0 a=some (.lst (NV os)))(hD:H0 D=none)(hn:os.length<=1000)(h0:dU σB)(hs:∀x σ H (Kt:V->St->Hp->Prop) (Kf:St->Hp->Prop),x∈os->dU σ->aI H0 H->(∀σ2 H2,dU σ2->aI H H2->c x=true->Kt (.int (x:Nat)) σ2 H2)->(∀σ2 H2,dU σ2->aI H H2->c x=false->Kf σ2 H2)->
   g (.int (x:Nat)) σ H fun σ2 H2=>tt σ2 H2 fun b H3=>if b=true then te σ2 H3 fun v H4=>Kt v σ2 H4 else Kf σ2 H3)(hd:∀H,aI H0 H->H D=some (.lst (NV (os.filter c)))->fin H):iG (EA K a) g tt te D fin σB (upd H0 D (.lst [])):=by
 refine eG (xs:=NV os) (fun i ys σ H=>dU σ/\aI H0 H/\H D=some (.lst ys)/\ys=NV ((os.take i).filter c)) ⟨h0,aj hD,af,rfl⟩ (fun i ys σ H _ z=>aU.of (z.2.1 _ _ ha)) ?_ ?_
 .rintro i x ys σ H Kt Kf hx ⟨sh,sm,oZ,rfl⟩ kt kf;obtain⟨y,hy,rfl⟩:=Kc hx;have tk:os.take (i+1)=os.take i++[y]:=by rw[gX,hy];rfl
  refine hs y σ H Kt Kf (eB hy) sh sm (fun σ2 H2 Dy s2 e=>?_) (fun σ2 H2 Dy s2 e=>?_)
  .refine kt _ _ _ (s2 _ _ oZ) ?_ ⟨Dy,eT.cG (sm.trans s2) hD,af,?_⟩
   .rw[aF];exact gu (bj (jN _ _) (List.length_take_le' _ _)) (gu hn (by decide))
   .rw[tk,ic,show [y].filter c=[y] by simp[iZ,e],je]
  .refine kf _ _ ⟨Dy,sm.trans s2,s2 _ _ oZ,?_⟩;rw[tk,ic,show [y].filter c=[] by simp[iZ,e],kn]
 .rintro ys σ H ⟨_,sm,oZ,rfl⟩;rw[show (NV os).length=os.length from aF _,iY] at oZ;exact hd H sm oZ
theorem yE{K:PySem.W.Frag}{a D:Addr}{xs:List V}{g:TG}{tt:TT}{te:TE}{fin:Hp->Prop}{σB:St}{H0:Hp}(c:Nat->Bool)(dU:St->Prop)(ha:H0 a=some (.tup xs))(hD:H0 D=none)(hn:xs.length<=1000)(h0:dU σB)(hs:∀ (i:Nat) x t σ H (Kt:V->St->Hp->Prop) (Kf:St->Hp->Prop),xs[i]?=some x->dU σ->aI H0 H->H t=some (.tup [.int (i:Int),x])->(∀σ2 H2,dU σ2->aI H H2->c i=true->Kt (.int (i:Nat)) σ2 H2)->(∀σ2 H2,dU σ2->aI H H2->c i=false->Kf σ2 H2)->
   g (.ref t) σ H fun σ2 H2=>tt σ2 H2 fun b H3=>if b=true then te σ2 H3 fun v H4=>Kt v σ2 H4 else Kf σ2 H3)(hd:∀H,aI H0 H->H D=some (.lst (NV ((List.range xs.length).filter c)))->fin H):iG (Jh K a) g tt te D fin σB (upd H0 D (.lst [])):=by
 refine rN (xs:=xs) (fun i ys σ H=>dU σ/\aI H0 H/\H D=some (.lst ys)/\ys=NV ((List.range i).filter c)) ⟨h0,aj hD,af,rfl⟩ (fun i ys σ H _ z=>cK.of (z.2.1 _ _ ha)) ?_ ?_
 .rintro i x t ys σ H Kt Kf hx ⟨sh,sm,oZ,rfl⟩ ht kt kf;have st:=aj (o:=.tup [.int (i:Int),x]) ht;have hi:i<xs.length:=(cI.mp hx).1;refine hs i x t σ _ Kt Kf hx sh (sm.trans st) af (fun σ2 H2 Dy s2 e=>?_) (fun σ2 H2 Dy s2 e=>?_)
  .refine kt _ _ _ (s2 _ _ (st _ _ oZ)) ?_ ⟨Dy,eT.cG ((sm.trans st).trans s2) hD,af,?_⟩
   .rw[aF];exact gu (bj (jN _ _) (by rw[dD];exact eC hi)) (gu hn (by decide))
   .rw[fJ,ic,show [i].filter c=[i] by simp[iZ,e],je]
  .refine kf _ _ ⟨Dy,(sm.trans st).trans s2,s2 _ _ (st _ _ oZ),?_⟩;rw[fJ,ic,show [i].filter c=[] by simp[iZ,e],kn]
 .rintro ys σ H ⟨_,sm,oZ,rfl⟩;exact hd H sm oZ
theorem gK:(["_law_other","_law_fars_here","_law_home","_law_house"]:List Str).Nodup:=by decide +kernel
theorem eF:(["_law_j","_law_here","_law_stand","_law_i","_law_gone","_law_house"]:List Str).Nodup:=by decide +kernel
theorem wY{a b:Option Nat}:decide (j6 a=j6 b)=decide (a=b):=by
 rw[jn,dP,dP];exact⟨JW,fun z=>by rw[z]⟩
theorem lD{n:Nat}{hs:List Int}(hm:∀h∈hs,0<=h/\h<n){i:Nat}(hi:i<hs.length):∃k:Nat,k<n/\hs.getD i 0=(k:Int)/\(hs.getD i 0).toNat=k:=by
 have mm:hs.getD i 0∈hs:=by rw[bH,b9 hi];exact gv _
 obtain⟨a,c⟩:=hm _ mm;exact⟨(hs.getD i 0).toNat,by lia,by lia,rfl⟩
section
variable {P:Program} {w:World} {K:PySem.W.Frag} {mg:Str->Option Value} {base:Heap}
theorem L7:aJ ["_law_fars_here","_law_homes","_law_stand","_law_gone","_law_i","_law_far_here"] ["_law_fars_here","_law_homes","_law_stand","_law_gone","_law_i"] (am Oj):=⟨rfl,rfl,rfl,by decide +kernel,rfl,by decide +kernel,by decide +kernel⟩
def GX:Sp:=fun vs H Q _=>∃ (r a S G:Addr) (ds:List Addr) (n:Nat) (g:Nat->List Nat) (hs:List Int) (s l:List (Option Nat)) (i:Nat),vs=[.ref r,.ref a,.ref S,.ref G,.int i]/\fk H r ds n g/\H a=some (.tup (HV hs))/\H S=some (.tup (SV s))/\H G=some (.tup (SV l))/\s.length=hs.length/\dw g s l/\fE n g/\(∀i h,s.getD i none=some h->h<n)/\(∀h∈hs,0<=h/\h<n)/\i<hs.length/\Q (.bl (ix n g hs s l i)) H
theorem Ol{f:Addr}{fd:FuncData}(F:fW K "_law_is_led" "_law_is_led" Oj f fd):bC P w K mg base bi 1 f fd ["_law_fars_here","_law_homes","_law_stand","_law_gone","_law_i"] GX:=by
 refine F.ok L7 (fun vs H Q E h=>?_) (fun dE A outer s0 H vs Q E hr h=>?_)
 .obtain⟨r,a,S,G,ds,n,g,hs,s,l,i,rfl,_⟩:=h;rfl
 .obtain⟨r,a,S,G,ds,n,g,hs,s,l,i,rfl,FR,ha,hS,hG,sl,Hd,Gd,P2,hm,hi,q⟩:=h;have oR:=hr.u (n:=1);refine⟨_,(ah (bA (PW.pt (pB (aL kG (az aZ (pv 2) (pv 4) (fun _ _=>rfl)) cS (aG _)) (mB (aL eN (az aZ (pv 3) (pv 4) (fun _ _=>rfl)) (az aZ (pv 2) (pv 4) (fun _ _=>rfl)) (aG _))))) (al (aH g7)) aR)
   (ah (aK (i:=5) L7.nd rfl (Or.inl rfl) (bQ oR (pv 0) (az aZ (pv 1) (pv 4) (fun _ _=>rfl)) (fun _ _=>rfl)))
   (al (aH (cy Bn (bQ oR (pv 5) (az aZ (pv 3) (pv 4) (fun _ _=>rfl)) (fun _ _=>rfl)) (bQ oR (pv 5) (az aZ (pv 2) (pv 4) (fun _ _=>rfl)) (fun _ _=>rfl)) (aG _)))))),?_⟩
  have pS:fT (SV s) (i:Int)=some (j6 (s.getD i none)):=dW (by lia);have AX:fT (SV l) (i:Int)=some (j6 (l.getD i none)):=dW (by rw[Hd.len];lia);refine⟨_,rfl,_,rfl,S,_,_,_,rfl,rfl,cK.of hS,pS,rfl,_,rfl,?_⟩;cases es:s.getD i none with
  |none=>
   refine bW (fun _=>?_) (fun e=>absurd (bE rfl) e);have e2:ix n g hs s l i=false:=by unfold ix;rw[es]
   rw[e2] at q;exact lW q
  |some h=>
   rw[es] at pS;obtain⟨o,eo,mo⟩:=Hd.tie i h es;rw[eo] at AX;have hn:=P2 i h es;obtain⟨on,one⟩:=Gd.lt h hn o mo;obtain⟨k,hk,ek,D5⟩:=lD hm hi;refine bW (fun e=>absurd (bU e) (by intro z;cases z)) (fun _=>?_);refine⟨_,rfl,_,rfl,G,_,_,_,rfl,rfl,cK.of hG,AX,_,rfl,_,rfl,S,_,_,_,rfl,rfl,cK.of hS,pS,rfl,_,rfl,?_⟩;refine bW (fun e=>absurd (gY (V.int.inj (bU e))) one) (fun _=>?_);refine⟨_,rfl,_,rfl,_,rfl,a,_,_,_,rfl,rfl,cK.of ha,iN hi,r,_,rfl,by rw[ek];exact FR.get hk,?_⟩;refine⟨_,rfl,_,rfl,_,rfl,G,_,_,_,rfl,rfl,cK.of hG,AX,_,_,rfl,((FR.rows k hk).get on),_,rfl,_,rfl,_,rfl,S,_,_,_,rfl,rfl,cK.of hS,pS,_,_,rfl,((FR.rows k hk).get hn),_,_,rfl,rfl,?_⟩;rw[k9 es eo] at q;unfold dH at q;rw[D5] at q;have e3:decide (((far (bN n g) h k:Nat):Int)<=((far (bN n g) o k:Nat):Int))=decide (far (bN n g) h k<=far (bN n g) o k):=qT.mpr (by lia);show Q (V.bl (decide (((far (bN n g) h k:Nat):Int)<=((far (bN n g) o k:Nat):Int)))) H;rw[e3];exact q
theorem XT:aJ ["_law_outs","_law_fars_here","_law_home","_law_house"] ["_law_outs","_law_fars_here","_law_home","_law_house"] (am XR):=⟨rfl,rfl,rfl,by decide +kernel,rfl,by decide +kernel,by decide +kernel⟩
def Kh:Sp:=fun vs H Q _=>∃ (O r:Addr) (as ds:List Addr) (n:Nat) (g:Nat->List Nat) (k h:Nat),vs=[.ref O,.ref r,.int k,.int h]/\fR H O as n g/\fk H r ds n g/\fE n g/\k<n/\h<n/\∀ (D:Addr) (H':Hp),aI H H'->H D=none->H' D=some (.lst (NV ((g h).filter fun o=>decide (far (bN n g) o k<far (bN n g) h k))))->Q (.ref D) H'
theorem Sf{f:Addr}{fd:FuncData}(F:fW K "_law_goods" "_law_goods" XR f fd):bC P w K mg base bi 1 f fd ["_law_outs","_law_fars_here","_law_home","_law_house"] Kh:=by
 refine F.ok XT (fun vs H Q E h=>?_) (fun dE A outer s0 H vs Q E hr h=>?_)
 .obtain⟨O,r,as,ds,n,g,k,h,rfl,_⟩:=h;rfl
 .obtain⟨O,r,as,ds,n,g,k,h,rfl,OF,FR,Gd,hk,hh,q⟩:=h;have oR:=hr.u (n:=1);refine'⟨_,(al (aH ?c1)),?_⟩;case c1=>
   refine' cm (g:=(bo 0)) (tt:=(jW (iA (xp fun i j=>.bl (decide (i<j))) (kN (kN (aV 1) (aV 2)) (aV 0)) (kN (kN (aV 1) (aV 2)) (aV 3))))) (te:=(aV 0)) (NB:=["_law_other","_law_fars_here","_law_home","_law_house"]) (src:=[none,some 1,some 2,some 3]) (bY (by kernel_rfl)) rfl (b_ (bQ oR (pv 0) (pv 3) (fun _ _=>rfl))) ?g ?t ?e;case g=>exact fun cl C s₃ H₃ fp=>(au (i:=0) gK rfl (Or.inl rfl) (Or.inr rfl))
   case t=>exact fun cl C s₃ H₃ fp=>eR (aL pC (bQ oR (bQ oR (pv 1) (pv 2) (fun _ _=>rfl)) (pv 0) (fun _ _=>rfl)) (bQ oR (bQ oR (pv 1) (pv 2) (fun _ _=>rfl)) (pv 3) (fun _ _=>rfl)) (aG _))
   case e=>exact fun cl C s₃ H₃ fp=>(pv 0)
  refine⟨_,rfl,_,rfl,O,_,rfl,OF.get hh,_,rfl,⟨_,aU.of (OF.rows.2 h hh)⟩,fun D hD=>?_⟩;have l8:=Gd.le h hh;refine wX (os:=g h) (fun o=>decide (far (bN n g) o k<far (bN n g) h k)) (fun σ=>∃b,σ=[b,some (.ref r),some (.int (k:Int)),some (.int (h:Int))]) (OF.rows.2 h hh) hD (by lia) ⟨_,rfl⟩ ?_ ?_
  .rintro x σ H5 Kt Kf hx ⟨b',rfl⟩ sm kt kf;have Ib:=FR.same sm;have xn:=(Gd.lt h hh x hx).1;refine⟨_,rfl,_,rfl,r,_,rfl,Ib.get hk,_,rfl,_,_,rfl,(Ib.rows k hk).get xn,_,rfl,_,rfl,r,_,rfl,Ib.get hk,_,rfl,_,_,rfl,(Ib.rows k hk).get hh,_,_,rfl,rfl,_,rfl,?_⟩;refine bW (fun c=>?_) (fun c=>?_)
   .exact⟨_,rfl,kt _ _ ⟨_,rfl⟩ (aI.refl _) (bE (by have:=bU c;lia))⟩
   .exact kf _ _ ⟨_,rfl⟩ (aI.refl _) (dk fun z=>c (bE (by lia)))
  .intro H5 sm U0;exact q D H5 sm hD U0
theorem XU:aJ ["_law_stand","_law_gone","_law_i","_law_house"] ["_law_stand","_law_gone","_law_i","_law_house"] (am XS):=⟨rfl,rfl,rfl,by decide +kernel,rfl,by decide +kernel,by decide +kernel⟩
def Om:Sp:=fun vs H Q _=>∃ (S G:Addr) (g:Nat->List Nat) (s l:List (Option Nat)) (i h o j:Nat),vs=[.ref S,.ref G,.int i,.int o]/\H S=some (.tup (SV s))/\H G=some (.tup (SV l))/\s.length<=16/\dw g s l/\s.getD i none=some h/\s.getD j none=some h/\l.getD j none=some o/\∀H',aI H H'->Q (.int j) H'
theorem Sg{f:Addr}{fd:FuncData}(F:fW K "_law_taker" "_law_taker" XS f fd)(B:Bl mg):bC P w K mg base bi 1 f fd ["_law_stand","_law_gone","_law_i","_law_house"] Om:=by
 refine F.ok XU (fun vs H Q E h=>?_) (fun dE A outer s0 H vs Q E hr h=>?_)
 .obtain⟨S,G,g,s,l,i,h,o,j,rfl,_⟩:=h;rfl
 .obtain⟨S,G,g,s,l,i,h,o,j,rfl,hS,hG,HZ,Hd,ei,ej,eo,q⟩:=h;refine'⟨_,(al (aH (az aA ?c1 ao (fun _ _=>rfl)))),?_⟩;case c1=>
   refine' cm (g:=(rh K 2 (fq (bo 0) (fq (bo 1) rf)))) (tt:=(Qi (jW (iA (Up) (aV 1) (iA (xx K) (aV 2) (aV 3)))) (jW (iA (Up) (iA (xx K) (aV 4) (aV 0)) (aV 5))))) (te:=(aV 0)) (NB:=["_law_j","_law_here","_law_stand","_law_i","_law_gone","_law_house"]) (src:=[none,none,some 0,some 2,some 1,some 3]) (bY (by kernel_rfl)) rfl (rM rfl B.enum (aa (pv 0) ag)) ?g ?t ?e;case g=>exact fun cl C s₃ H₃ fp=>(fw (n:=2) rfl (a9 (au (i:=0) eF rfl (Or.inl rfl) (Or.inr rfl)) (a9 (au (i:=1) eF rfl (Or.inl rfl) (Or.inr rfl)) dZ)))
   case t=>exact fun cl C s₃ H₃ fp=>eR (PW.pt (vC (aL eN (pv 1) (az aZ (pv 2) (pv 3) (fun _ _=>rfl)) (aG _)) (qm (aL eN (az aZ (pv 4) (pv 0) (fun _ _=>rfl)) (pv 5) (aG _)))))
   case e=>exact fun cl C s₃ H₃ fp=>(pv 0)
  refine⟨_,rfl,S,_,rfl,cK.of hS,fun D hD=>?_⟩;have hi:=(aT ei).1;have hj:=(aT ej).1;refine yE (xs:=SV s) (fun x=>decide (s.getD x none=some h)&&decide (l.getD x none=some o)) (fun σ=>∃b c,σ=[b,c,some (.ref S),some (.int (i:Int)),some (.ref G),some (.int (o:Int))]) hS hD (by rw[aF];lia) ⟨_,_,rfl⟩ ?_ ?_
  .rintro x v t σ H5 Kt Kf hx ⟨b,c,rfl⟩ sm ht kt kf;obtain⟨hxl,rfl⟩:=AU hx;refine⟨_,_,rfl,cK.of ht,rfl,_,_,rfl,_,_,rfl,rfl,?_⟩;have pS:fT (SV s) (i:Int)=some (.int (h:Int)):=by rw[dW hi,ei];rfl
   refine⟨_,rfl,_,rfl,_,rfl,S,_,_,_,rfl,rfl,cK.of (sm _ _ hS),pS,lC,_,rfl,?_⟩;have e1:decide (j6 (s.getD x none)=V.int (h:Int))=decide (s.getD x none=some h):=wY (b:=some h);rw[e1];refine bW (fun e=>?_) (fun e=>?_)
   .refine⟨_,rfl,_,rfl,G,_,_,_,rfl,rfl,cK.of (sm _ _ hG),dW (by rw[Hd.len];exact hxl),_,rfl,lC,_,rfl,?_⟩;have e2:decide (j6 (l.getD x none)=V.int (o:Int))=decide (l.getD x none=some o):=wY (b:=some o);rw[e2];refine bW (fun e3=>?_) (fun e3=>?_)
    .exact⟨_,rfl,kt _ _ ⟨_,_,rfl⟩ (aI.refl _) (by rw[e,e3];rfl)⟩
    .exact kf _ _ ⟨_,_,rfl⟩ (aI.refl _) (by rw[qS.mpr e3,vm])
   .exact uI (kf _ _ ⟨_,_,rfl⟩ (aI.refl _) (by rw[qS.mpr e,mi]))
  .intro H5 sm U0;rw[aF] at U0;have mj:j∈(List.range s.length).filter (fun x=>decide (s.getD x none=some h)&&decide (l.getD x none=some o)):=cf.mpr ⟨bu.mpr hj,by rw[ej,eo];simp⟩;have all:∀x∈(List.range s.length).filter (fun x=>decide (s.getD x none=some h)&&decide (l.getD x none=some o)),x=j:=fun x hx=>by
    have:=(cf.mp hx).2;rw[cX,dP,dP] at this;exact Hd.UW x j h o this.1 ej this.2 eo
   generalize (List.range s.length).filter _=fl at *;have Xt:0<fl.length:=qM mj;have Oc:fT (NV fl) 0=some (.int (j:Int)):=by
    have:=sr (js:=fl) (k:=0) Xt;rw[all _ (nJ Xt)] at this;exact this
   exact⟨D,_,_,_,rfl,rfl,aU.of U0,Oc,q H5 sm⟩
end
end AQ
namespace L2
open PySem PySem.Spec PyProof.Rows
section
variable {X:Cx}
def U1(X:Cx)(H:Hp)(d:Nat)(x y:V):Prop:=∀ (ae:List (Addr×Obj)) (s:Shared) (σ:St) (A:Around) (u v:Value),aQ X ae σ H s->A.units+d<cLine->bq x u->bq y v->SeqAt.EqAt A s u v true
theorem Ki:U1 X H 0 (.int i) (.int i):=by
 intro ae s σ A u v I hu rx ry;have h:=EM (A:=A) (s:=s) rx ry rfl rfl;rw[show vO (.int i) (.int i)=true by show decide (i=i)=true;simp] at h;exact h
theorem uN(I:aQ X ae σ H s)(hu:A.units+d<cLine)(rx:aY xs us)(ry:aY ys vs)(he:∀i,i<xs.length->i<ys.length->U1 X H d (xs.getD i .bR) (ys.getD i .bR)):∀j (h1:j<us.toArray.size) (h2:j<vs.toArray.size),SeqAt.EqAt A s us.toArray[j] vs.toArray[j] true:=by
 intro j h1 h2;have j1:j<xs.length:=by rw[rx.length];simpa using h1
 have j2:j<ys.length:=by rw[ry.length];simpa using h2
 have e1:xs[j]?=some (xs.getD j .bR):=by rw[bH,b9 j1];rfl
 have e2:ys[j]?=some (ys.getD j .bR):=by rw[bH,b9 j2];rfl
 obtain⟨u,oR,ru⟩:=rx.get e1;obtain⟨v,Wl,rv⟩:=ry.get e2;have eu:us.toArray[j]=u:=by
  have:us[j]?=some us.toArray[j]:=by simp at h1 |-
  rw[oR] at this;exact(ba this).symm
 have ev:vs.toArray[j]=v:=by
  have:vs[j]?=some vs.toArray[j]:=by simp at h2 |-
  rw[Wl] at this;exact(ba this).symm
 rw[eu,ev];exact he j j1 j2 ae s σ A u v I hu ru rv
theorem yF:(List.range n).all (fun _=>true)=true:=ie.mpr fun _ _=>rfl
def L8(X:Cx)(QA:Bool)(d:Nat):R2:=fun x y H Q=>∃p q xs ys,x=.ref p/\y=.ref q/\aU X.K H p xs/\aU X.K H q ys/\xs.length=ys.length/\(∀i,i<xs.length->i<ys.length->U1 X H d (xs.getD i .bR) (ys.getD i .bR))/\Q (.bl (!QA)) H
theorem Kj{d:Nat}(hu:X.A.units+(d+1)<cLine):m3 X (compareOp .NotEq) (L8 X true d):=by
 intro ae s σ H x y v u Q I rx ry h;obtain⟨p,q,xs,ys,rfl,rfl,hp,hq,hl,he,k⟩:=h;obtain rfl:v=Value.ref p:=rx;obtain rfl:u=Value.ref q:=ry;obtain⟨us,r1,p1,_⟩:=I.list hp;obtain⟨vs,r2,p2,_⟩:=I.list hq;refine SeqAt.RcNeAt.lists (e:=fun _=>true) p1.isList p2.isList (by simp only[dj];rw[<-r1.length,<-r2.length];exact hl) (by lia) (uN I (by show X.A.units+1+d<cLine;lia) r1 r2 he) _ _ _ _ ⟨.bl _,H,I,rfl,?_⟩;rw[yF];exact k
end
def cU(cells:List (Str×Addr))(a:Addr):Prop:=∃x,cells.lookup x=some a
abbrev jZ(h0:Heap)(b:Addr):HO:=.ext fun h=>h.get? b=h0.get? b
open Classical in
noncomputable def jg(S:Addr->Prop)(h0:Heap)(H:Hp):Hp:=fun b=>if S b then some (jZ h0 b) else H b
open Classical in
noncomputable def Cj(S:Addr->Prop)(H:Hp):Hp:=fun b=>if S b then none else H b
section
variable {S:Addr->Prop} {h0 h h':Heap} {H H':Hp} {b:Addr} {P:Program} {w:World} {fs:List Addr}
theorem nU(e:S b):jg S h0 H b=some (jZ h0 b):=aq e
theorem bX(e:¬ S b):jg S h0 H b=H b:=ap e
theorem pf(e:S b):Cj S H b=none:=aq e
theorem ff(e:¬ S b):Cj S H b=H b:=ap e
theorem iy(e:H b=none):Cj S H b=none:=by
 by_cases c:S b
 .exact pf c
 .rw[ff c];exact e
theorem Ck(x:jx P w H h)(l:∀a,S a->H a=some (jZ h0 a)):jx P w (Cj S H) h:=fun a o e=>by
 by_cases c:S a
 .rw[pf c] at e;cases e
 .rw[ff c] at e;exact(x a o e).pT (fun _ _ _ q=>q) (fun d q=>by rw[ff fun z=>by rw[l d z] at q;cases q];exact q) fun d xs q=>by rw[ff fun z=>by rw[l d z] at q;cases q];exact q
theorem yG(x:jx P w H h)(l:∀a,S a->H a=none/\h.get? a=h0.get? a/\∃o,h0.get? a=some o):jx P w (jg S h0 H) h:=fun a o e=>by
 by_cases c:S a
 .rw[nU c] at e;cases e;obtain⟨_,e1,o,e2⟩:=l a c;exact⟨e1,⟨o,e1.trans e2⟩,fun h1 h2 z k=>(k o (z.trans e2)).trans e2.symm⟩
 .rw[bX c] at e;exact(x a o e).pT (fun _ _ _ q=>q) (fun d q=>by rw[bX fun z=>by rw[(l d z).1] at q;cases q];exact q) fun d xs q=>by rw[bX fun z=>by rw[(l d z).1] at q;cases q];exact q
theorem On(u:Un fs [] (jg S h0 H) H' h h')(l:∀a,S a->H a=none/\h.get? a=h0.get? a/\a∉fs)(l':∀a,S a->h'.get? a=h0.get? a):Un fs [] H (Cj S H') h h' where
 keep:=fun b o e n hb hx=>by
  by_cases c:S b
  .rw[l' b c,<-(l b c).2.1];exact e
  .exact u.keep b o e (by rw[bX c];exact n) hb hx
 slot:=fun b o e n hb hx=>u.slot b o e (by rw[bX fun z=>(l b z).2.2 hb];exact n) hb hx
 free:=fun b o e n hx=>by
  by_cases c:S b
  .exact pf c
  .exact iy (u.free b o e (by rw[bX c];exact n) hx)
 there:=u.there
 mz:=fun b xs e=>by
  have c:¬ S b:=fun z=>by rw[(l b z).1] at e;cases e
  rw[ff c];exact u.mz b xs (by rw[bX c];exact e)
 oy:=fun b o v e=>by
  have c:¬ S b:=fun z=>by rw[(l b z).1] at e;cases e
  rw[ff c];exact u.oy b o v (by rw[bX c];exact e)
 oz:=fun b ps e=>by
  have c:¬ S b:=fun z=>by rw[(l b z).1] at e;cases e
  rw[ff c];exact u.oz b ps (by rw[bX c];exact e)
theorem Kk(u:Un fs [] (Cj S H) H' h h')(l:∀a,S a->H a=some (jZ h0 a)):Un fs [] H (jg S h0 H') h h' where
 keep:=fun b o e n hb hx=>u.keep b o e (iy n) hb hx
 slot:=fun b o e n hb hx=>u.slot b o e (iy n) hb hx
 free:=fun b o e n hx=>by
  have c:¬ S b:=fun z=>by rw[l b z] at n;cases n
  rw[bX c];exact u.free b o e (iy n) hx
 there:=u.there
 mz:=fun b xs e=>by
  have c:¬ S b:=fun z=>by rw[l b z] at e;cases e
  rw[bX c];exact u.mz b xs (by rw[ff c];exact e)
 oy:=fun b o v e=>by
  have c:¬ S b:=fun z=>by rw[l b z] at e;cases e
  rw[bX c];exact u.oy b o v (by rw[ff c];exact e)
 oz:=fun b ps e=>by
  have c:¬ S b:=fun z=>by rw[l b z] at e;cases e
  rw[bX c];exact u.oz b ps (by rw[ff c];exact e)
end
structure yH(cells:List (Str×Addr))(h0:Heap)(H:Hp):Prop where
 inj:∀x y c,cells.lookup x=some c->cells.lookup y=some c->x=y
 at_:∀a,cU cells a->H a=some (jZ h0 a)
 cell:∀x c,cells.lookup x=some c->∃v,h0.IsCell c v
theorem yH.mono{cells:List (Str×Addr)}{h0:Heap}{H H':Hp}(l:yH cells h0 H)(s:∀a,cU cells a->H a=some (jZ h0 a)->H' a=some (jZ h0 a)):yH cells h0 H':=⟨l.inj,fun a c=>s a c (l.at_ a c),l.cell⟩
def sO(cells:List (Str×Addr))(h0:Heap)(x:Str)(v:V):Prop:=∃u c,bq v u/\cells.lookup x=some c/\h0.IsCell c (some u)
def Oo(X:Cx)(sp:Sp)(t:TA):TE:=fun σ H Q=>t σ H fun vs H1=>(∀a,cU X.env.cells a->H1 a=none)->∀h0:Heap,yH X.env.cells h0 (jg (cU X.env.cells) h0 H1)->(∀ (i:Nat) (x:Str) (v:V),X.N[i]?=some x->σ[i]?=some (some v)->X.env.scope.names.lookup x=some .cell->sO X.env.cells h0 x v)->
 sp vs (jg (cU X.env.cells) h0 H1) (fun v H'=>(∀a,cU X.env.cells a->H' a=some (jZ h0 a))/\Q v (Cj (cU X.env.cells) H')) E0
section
variable {X:Cx} {k:Nat} {x:Str} {ps:List Str} {sp:Sp} {e:Expr} {es:List Expr} {t:TA} {p pos:Pos}
theorem Kl(C:cE X.prog X.w X.K X.mg X.base bi k x ps sp)(hr:cD k X.A)(Qf:X.fn=fun _=>true)(hex:X.ex=[])(ha:PA X (e::es) t)(hg:Gl X x:=by rfl)(CQ:(x==("__debug__":Str))=false:=by decide)(he:starEach (e::es) X.env=(false,eval e X.env)::starEach es X.env:=by rfl)(yW:(backTo pos (starEach es X.env)).any (·.1)=false:=by rfl):
  PE X (.Call (.Name x p) (e::es) [] pos) (Oo X sp t):=by
 obtain⟨f,fd,hm,hk,hb,F⟩:=C.ex;intro ae s σ H Q I h;refine l6 (ql I hg hm ?_ CQ);refine ve (h₀:=X.base) I.ok.mod.Px hk (cJ (ha pos ae s σ H _ I h) fun us s1 ⟨vs,H1,I1,r,q⟩=>⟨I1.oC,?_⟩) he yW;have cF:∀a,cU X.env.cells a->H1 a=none/\(∃o,s1.heap.get? a=some o)/\a∉CJ X.stack/\X.base.get? a=none:=fun a ⟨y,ey⟩=>by
  obtain⟨v,o,ho,hd⟩:=I1.cell y a ey;have ab:=I1.ok.Py y a (by rw[Qf]) ey;refine⟨I1.kD y a ey,⟨o,ho⟩,fun pK=>?_,n6 (bj I1.ok.DS ab)⟩;rcases bZ.mp (I1.rc a pK) with z|z
  .exact I1.K6 y a ey z
  .obtain⟨_,o',Er,_⟩:=I1.ok.oB.mem z;exact absurd (bT (bn Er) ab) (jU _)
 have L:yH X.env.cells s1.heap (jg (cU X.env.cells) s1.heap H1):=⟨I1.ok.inj,fun a c=>nU c,I1.cell⟩
 have q':=q (fun a c=>(cF a c).1) s1.heap L fun i y v h1 h2 h3=>by
  obtain⟨m,_,hl⟩:=I1.loc;obtain⟨u,ru,lk⟩:=hl i y v h1 h2 (.inr (.inl h3));rcases lk with ⟨z,_⟩|⟨_,c,e1,e2⟩
  .have z:X.env.scope.names.lookup y=some .local:=z;rw[h3] at z;cases z
  .exact⟨u,c,ru,e1,e2⟩
 have E0':xt X.prog X.w X.K X.mg X.base X.A X.stack s1 (jg (cU X.env.cells) s1.heap H1):=by
  obtain⟨e1,e2,e3,e4,e5,e6,e7,e8⟩:=I1.MM;refine⟨e1,e2,fun b o eb=>⟨(e3 b o eb).1,?_⟩,e4,e5,fun b pK=>?_,yG e7 fun a c=>⟨(cF a c).1,rfl,(cF a c).2.1⟩,e8⟩
  .rw[bX fun z=>by rw[(cF b z).2.2.2] at eb;cases eb];exact(e3 b o eb).2
  .rw[bX fun z=>(cF b z).2.2.1 pK];exact e6 b pK
 have hl:us.length=ps.length:=by rw[<-r.length];exact F.len _ _ _ _ q'
 have pK:=hb s1 us I1.oC (by rw[kn];exact hl);rw[kn] at pK;refine oh (mn (F.run X.A X.stack s1 _ ⟨us,[]⟩ us vs _ E0 hr E0' pK r q') fun rr s' hq=>?_);cases rr with
 |error e=>exact hq.elim
 |ok fl=>
  cases fl with
  |ret u=>
   obtain⟨v,H',os,bare,un,bS,rv,k1,k2⟩:=hq;have l':∀a,cU X.env.cells a->s'.heap.get? a=s1.heap.get? a:=fun a c=>(bS a _ (k1 a c)).1;exact I1.after ⟨v,Cj _ H',os,bare,On un (fun a c=>⟨(cF a c).1,rfl,(cF a c).2.2.1⟩) l',Ck bS k1,rv,k2⟩
  |next=>exact False.elim hq
  |brk=>exact False.elim hq
  |cont=>exact False.elim hq
end
def wZ(scope:Scope)(dM:List (Str×Addr))(qual:Str)(f c L:Addr):Env:=
 { scope:=scope,locals:=L,globals:=mainGlobals,cells:=dM,qual:=qual++".<locals>.",func:=some f,code:=.ref c,frame:=some L,builtins:=builtinsNs }
def A1(X:Cx)(NB:List Str)(scope:Scope)(dM:List (Str×Addr))(qual:Str)(f c:Addr)(s:Shared)(H:Hp):Cx:=
 { X with A:=X.A.deeper (wZ scope dM qual f c s.heap.objs.size),N:=NB,s₀:=s,H₀:=H,env:=wZ scope dM qual f c s.heap.objs.size,outer:=X.stack,stack:=wZ scope dM qual f c s.heap.objs.size::X.stack,ex:=[],fn:=fun _=>false,pn:=[],xe:=fun _ _=>False }
structure Cm(NB:List Str)(nP:Nat)(scope:Scope)(qual:Str)(params:Arguments)(body:Expr):Prop where
 kind:scope.kind=.function
 nd:NB.Nodup
 bind:∀dM pm c wb us,us.length=nP->bindArgs (PySem.W.kla_fn "<lambda>" qual params body scope dM pm (.ref c) wb) ⟨us,[]⟩=pure ((NB.take nP).zip us)
 par:∀x∈NB.take nP,scope.names.lookup x=some .local
 fr:∀i x,nP<=i->NB[i]?=some x->scope.names.lookup x=some .free
 wc:∀z∈scope.names,z.2≠.cell
 co:scope.isCoroutine=false
 gen:scope.isGenerator=false
theorem yI{x:Str}{v:Value}:∀ {l:List (Str×Value)},(l.map (·.1)).Nodup->(x,v)∈l->l.lookup x=some v
 |(y,u)::l,nd,h=>by
  obtain⟨n1,n2⟩:=dQ.mp nd;rcases bZ.mp h with z|z
  .injection z with z1 z2;rw[z1,z2,fU,beq_self_eq_true]
  .have ne:x≠y:=fun e=>n1 (by rw[<-e];exact bO.mpr ⟨_,z,rfl⟩);rw[fU,show (x==y)=false by simpa using ne];exact yI n2 z
theorem GY{x:Str}{v:Value}{l:List Str}{us:List Value}{i:Nat}(nd:l.Nodup)(hl:l.length<=us.length)(h1:l[i]?=some x)(h2:us[i]?=some v):(l.zip us).reverse.lookup x=some v:=by
 refine yI ?_ (List.mem_reverse.mpr (eB (i:=i) ?_))
 .rw[List.map_reverse,List.map_fst_zip hl];exact(List.reverse_perm l).nodup_iff.mpr nd
 .rw[Ei];exact⟨h1,h2⟩
section
variable {X:Cx} {ae:List (Addr×Obj)} {σ:St} {H:Hp} {s:Shared} {NB:List Str} {nP:Nat} {scope:Scope} {qual:Str} {params:Arguments} {body:Expr} {dM cells:List (Str×Addr)} {f c:Addr} {h₁ h0:Heap} {t₁:Nat} {vs ws:List V} {us:List Value}
theorem GZ(I:aQ X ae σ H s)(S:Cm NB nP scope qual params body)(hd:X.A.handled=none)(U2:X.calm=true)(c1:∀x c,dM.lookup x=some c->cells.lookup x=some c)(c2:∀x,(x,NameKind.free)∈scope.names->∃c,dM.lookup x=some c)(L:yH cells h0 H)(hw:∀ (i:Nat) (x:Str) (v:V),NB[nP+i]?=some x->ws[i]?=some v->sO cells h0 x v)(hn:h₁.Ns s.heap.objs.size (fun x=>((NB.take nP).zip us).reverse.lookup x))(hk:∀b o,s.heap.get? b=some o->h₁.get? b=some o)(rv:aY vs us)(hv:vs.length=nP)(eW:nP+ws.length=NB.length):
  aQ (A1 X NB scope dM qual f c s (Cj (cU cells) H)) [] ((vs++ws).map some) (Cj (cU cells) H) { s with heap:=h₁,toks:=t₁ }:=by
 have inS:∀ {x c},dM.lookup x=some c->cU cells c:=fun {x c} e=>⟨x,c1 x c e⟩
 have Oc:∀a,cU cells a->s.heap.get? a=h0.get? a:=fun a z=>(I.bS a _ (L.at_ a z)).1;have rB:∀x c v,cells.lookup x=some c->h0.IsCell c v->h₁.IsCell c v:=fun x c v e ⟨o,ho,Mr⟩=>⟨o,hk _ _ ((Oc c ⟨x,e⟩).trans ho),Mr⟩
 refine⟨⟨I.ok.mod,S.kind,rfl,rfl,bf _,fun x y c e1 e2=>L.inj x y c (c1 x c e1) (c1 y c e2),fun x hx=>?_,(fun x c z e=>by cases z),fun _=>hd,Around.frames_deeper I.ok.frames,.inr ⟨rfl,rfl⟩,(fun b hb=>by cases hb),fun b o e=>⟨(I.bs b o e).1,iy (I.bs b o e).2⟩,bj I.ok.DS I.sz,(fun b o e hb=>by cases hb),(fun b hb=>by cases hb),I.stack,fun b hb=>iy (I.qk b hb)⟩,
  rfl,I.bare,Un.kept hk,⟨_,hn,fun i x w e1 e2 e3=>?_⟩,fun x c e=>?_,iy (I.bS.fresh (bf _)),fun x c e=>pf (inS e),fun p hp=>absurd (show p∈([]:List (Addr×Obj)) from hp) (by simp),(Ck I.bS L.at_).kept hk,?_⟩
 .have hx:scope.names.lookup x=some .cell\/scope.names.lookup x=some .free:=hx;rcases hx with z|z
  .exact absurd rfl (S.wc _ (kd z))
  .exact c2 x (kd z)
 .have e1:NB[i]?=some x:=e1;have e2:(vs++ws)[i]?=some w:=by
   rw[bp] at e2;obtain⟨w',h1,h2⟩:=pi.mp e2;rw[h1];exact h2
  by_cases hi:i<nP
  .rw[iC (by rw[hv];exact hi)] at e2;obtain⟨u,hu,ru⟩:=rv.get e2;have hp:(NB.take nP)[i]?=some x:=by rw[zg hi];exact e1
   have hx:x∈NB.take nP:=eB hp;refine⟨u,ru,.inl ⟨S.par x hx,?_⟩⟩;exact GY (S.nd.sublist (qQ _ _)) (by rw[<-rv.length,hv];exact u_ _ _) hp hu
  .rw[mU (by rw[hv];lia),hv] at e2;obtain⟨u,c',ru,ec,hc⟩:=hw (i-nP) x w (by rw[show nP+(i-nP)=i by lia];exact e1) e2;have hF:=S.fr i x (by lia) e1;obtain⟨U3,Sh⟩:=c2 x (kd hF);have:U3=c':=by have:=c1 x U3 Sh;rw[ec] at this;exact(ba this).symm
   subst this;exact⟨u,ru,.inr ⟨.inr hF,U3,Sh,rB x U3 _ ec hc⟩⟩
 .obtain⟨v,Ad⟩:=L.cell x c (c1 x c e);exact⟨v,rB x c v (c1 x c e) Ad⟩
 .show ((vs++ws).map some).length=NB.length;rw[aF,cu,hv];exact eW
def G0(nP:Nat)(scope:Scope)(qual:Str)(params:Arguments)(body:Expr)(NB:List Str)(te:TE)(f:Addr)(vs:List V)(H:Hp)(Q:VK):Prop:=∃ (cells:List (Str×Addr)) (c:Addr) (h0:Heap) (ws:List V),H f=some (rF f qual params body scope cells c)/\H c=some (pJ c qual)/\vs.length=nP/\nP+ws.length=NB.length/\yH cells h0 H/\
 (∀ (i:Nat) (x:Str) (v:V),NB[nP+i]?=some x->ws[i]?=some v->sO cells h0 x v)/\te ((vs++ws).map some) (Cj (cU cells) H) fun v H'=>(∀a,cU cells a->H' a=none)->Q v (jg (cU cells) h0 H')
theorem Km{te:TE}{Q:VK}{k:Nat}(hr:cD k X.A)(U2:X.calm=true)(S:Cm NB nP scope qual params body)(I:aQ X ae σ H s)(rv:aY vs us)(hb:∀dM c s H,PE (A1 X NB scope dM qual f c s H) body te)(h:G0 nP scope qual params body NB te f vs H Q):
  wpAny (model X.prog X.w) X.A (call (.ref f) us) (EP X ae σ Q) X.xe s:=by
 obtain⟨cells,c,h0,ws,hf,hc,hv,eW,L,hw,h⟩:=h;obtain⟨dM,pm,wb,c1,c2,MU⟩:=(I.bS f _ hf).1;have Ws:s.heap.CodeRec (.ref c) qual:=(I.bS c _ hc).1;have Fb:X.A.depth<recursionLimit:=by have:=hr.dp;lia
 have hul:us.length=nP:=by rw[<-rv.length];exact hv
 refine oh (PySem.W.kla_callFunE Fb MU rfl S.co S.gen rfl Ws ?_);rw[S.bind _ _ _ _ _ hul];refine wpAny_pure (wpAny_newFunctionEnv S.wc (fun x hx=>?_) (fun h₁ M7 Q6=>⟨I.nolimit.fresh _ Q6,?_⟩) S.kind)
 .exact S.par _ (oa hx).1
 have M8:∀b o,s.heap.get? b=some o->h₁.get? b=some o:=fun b o e=>Q6.extBut b o (bg (bn e)) (cR _ e);refine PySem.W.kla_codeExpr ?_;have J:=GZ (f:=f) (c:=c) (t₁:=s.toks+((NB.take nP).zip us).length) I S hr.hd U2 c1 c2 L hw M7 M8 rv hv eW;refine iQ (hb dM c s _ [] _ _ _ _ J h) (fun w s' ⟨v',H',J',r',q'⟩=>?_) fun _ _ z=>z.elim;have kp:∀a,cU cells a->H' a=none/\s'.heap.get? a=h0.get? a/\∃o,h0.get? a=some o:=fun a z=>by
  obtain⟨y,ey⟩:=id z;have e0:s.heap.get? a=h0.get? a:=(I.bS a _ (L.at_ a z)).1;obtain⟨v,o,ho,_⟩:=L.cell y a ey;have es:s.heap.get? a=some o:=e0.trans ho;refine⟨J'.base.free a o es (pf z) (by intro z;cases z),?_,o,ho⟩;rw[ho];exact J'.base.keep a o es (pf z) (fun pK=>by have:=I.qk a pK;rw[L.at_ a z] at this;cases this) (by intro z;cases z)
 exact⟨v',jg (cU cells) h0 H',I.K_ (ch:=[]) J'.os (Kk J'.base L.at_) (yG J'.bS kp) J'.bare (fun b hb=>by cases hb),r',q' fun a z=>(kp a z).1⟩
def Si(i:Nat)(nP:Nat)(scope:Scope)(qual:Str)(params:Arguments)(body:Expr)(NB:List Str)(te:TE)(t:TA):TE:=fun σ H Q=>∃f,σ[i]?=some (some (.ref f))/\(∃cells c,H f=some (rF f qual params body scope cells c))/\t σ H fun vs H1=>G0 nP scope qual params body NB te f vs H1 Q
theorem Cn{te:TE}{k i:Nat}{x:Str}{e:Expr}{es:List Expr}{t:TA}{p pos:Pos}(hr:cD k X.A)(U2:X.calm=true)(S:Cm NB nP scope qual params body)(hx:PE X (.Name x p) (aV i))(ha:PA X (e::es) t)(hb:∀f dM c s H,PE (A1 X NB scope dM qual f c s H) body te)(he:starEach (e::es) X.env=(false,eval e X.env)::starEach es X.env:=by rfl)(yW:(backTo pos (starEach es X.env)).any (·.1)=false:=by rfl):
  PE X (.Call (.Name x p) (e::es) [] pos) (Si i nP scope qual params body NB te t):=by
 intro ae s σ H Q I h;obtain⟨f,hσ,⟨cells,c,hf⟩,h⟩:=h;have fn:∀ {s:Shared} {H:Hp} {cells:List (Str×Addr)} {c:Addr},jx X.prog X.w H s.heap->H f=some (rF f qual params body scope cells c)->PySem.W.FnAt f s.heap:=fun {s H cells c} bS hf=>by
  obtain⟨dM,pm,wb,_,_,e⟩:=(bS f _ hf).1;exact⟨_,_,_,_,e⟩
 refine l6 (cJ (hx ae s σ H (fun v H1=>v=.ref f/\H1=H) I ⟨_,hσ,rfl,rfl⟩) fun u s1 ⟨v,H1,I1,r1,ev,eH⟩=>?_);subst ev;subst eH;cases r1;refine PySem.W.callWith_F (fn I1.bS hf) (cJ (ha pos ae s1 σ H1 _ I1 h) fun us s2 ⟨vs,H2,I2,r,q⟩=>⟨?_,?_⟩) he yW
 .obtain⟨XV,c',_,_,C8,_⟩:=id q;exact fn I2.bS C8
 .exact Km hr U2 S I2 r (hb f) q
end
end L2
namespace eT
open PySem L2 wv
theorem sr{xs:List Nat}{i:Nat}{x:V}(h:(NV xs)[i]?=some x):∃z,xs[i]?=some z/\x=.int (z:Nat):=by
 rw[bp] at h;obtain⟨z,hz,rfl⟩:=pi.mp h;exact⟨z,hz,rfl⟩
theorem Kn{xs ys:List Nat}:NV (xs++ys)=NV xs++NV ys:=bK
theorem Xw:(["other","self","home","own"]:List Str).Nodup:=by decide +kernel
noncomputable def Co(n:Nat)(ts:Ts)(i j:Nat):List Nat:=(fP n ts i).filter fun o=>decide (far ts o j<far ts i j)
theorem L9(n:Int)(tl ol ds:Addr):(p_ n tl ol ds).lookup ("good":Str)=none:=wz n tl ol ds (by decide +kernel) (by decide +kernel) (by decide +kernel) (by decide +kernel)
section
variable {P:Program} {w:World} {K:PySem.W.Frag} {mg:Str->Option Value} {base:Heap}
theorem G4:aJ ["self","house","home","own"] ["self","house","home"] (am FH):=⟨rfl,rfl,rfl,by decide +kernel,rfl,by decide +kernel,by decide +kernel⟩
def qG(C:Addr):Sp:=fun vs H Q _=>∃ (L:Addr->Prop) (p:Addr) (n:Nat) (ts:Ts) (i j:Nat),vs=[.ref p,.int i,.int j]/\eD C H L p n ts/\i<n/\j<n/\∀r H',aI H H'->H r=none->H' r=some (.lst (NV (Co n ts i j)))->Q (.ref r) H'
theorem G5{f C:Addr}{fd:FuncData}(F:fW K "good" "Net.good" FH f fd)(T:NT K mg C)(M:o6 P w K mg base bi 5 C "far" ["self","one","other"] (o7 C)):
  bC P w K mg base bi 6 f fd ["self","house","home"] (qG C):=by
 obtain⟨fM,fdM,mM,bM,GM⟩:=M.ex;refine F.ok G4 (fun vs H Q E h=>?_) (fun dE A outer s H vs Q E hr h=>?_)
 .obtain⟨L,p,n,ts,i,j,rfl,_⟩:=h;rfl
 .obtain⟨L,p,n,ts,i,j,rfl,N,hi,hj,k2⟩:=h;obtain⟨dx,tl,ol,ds,h1,_,_,RO,R,_⟩:=N.ob;have fi:=N.nC;have n2:=fi.n2;refine'⟨_,ah (aK (i:=3) G4.nd rfl (Or.inr rfl) (jB (pv 0) T.cl mM GM hr bM .nil aM (aa (pv 1) (aa (pv 2) ag))))
   (al (aH ?c)),?_⟩
  case c=>
   refine' cm (g:=bo 0) (tt:=jW (iA (xp fun i j=>.bl (decide (i<j))) (iA (tG K) (iA (tG K) (MJ K (aV 1) "distances") (aV 0)) (aV 2)) (aV 3))) (te:=aV 0) (NB:=["other","self","home","own"]) (src:=[none,some 0,some 2,some 3]) (bY (by kernel_rfl)) rfl (b_ (az aA (oI (pv 0) rfl) (pv 1) (fun _ _=>rfl))) ?g ?t ?e;case g=>exact fun cl C s₃ H₃ fp=>au (i:=0) Xw rfl (Or.inl rfl) (Or.inr rfl)
   case t=>exact fun cl C s₃ H₃ fp=>eR (aL pC (az aA (az aA (oI (pv 1) rfl) (pv 0) (fun _ _=>rfl)) (pv 2) (fun _ _=>rfl)) (pv 3) (aG _))
   case e=>exact fun cl C s₃ H₃ fp=>pv 0
  refine⟨_,rfl,p,dx,_,rfl,h1,DA _ _ _ _,_,rfl,_,rfl,L,p,n,ts,i,j,rfl,N,hi,hj,?_⟩;obtain⟨bs,b,r1,r2,r3,_⟩:=RO.row hi;refine⟨_,rfl,p,C,dx,_,_,rfl,h1,T.cl,T.nO,Jy _ _ _ _,_,rfl,ol,_,_,_,rfl,rfl,aU.of r1,br r2,b,rfl,⟨_,aU.of r3⟩,fun D hD=>?_⟩;have nb:b≠D:=ai r3 hD;refine eG (xs:=NV (fP n ts i)) (fun m ys σ H2=>(∃a,σ=[a,some (.ref p),some (.int (j:Int)),some (.int ((far ts i j:Nat):Int))])/\ys=NV (((fP n ts i).take m).filter fun o=>decide (far ts o j<far ts i j))/\H2=upd H D (.lst ys)) ⟨⟨_,rfl⟩,by simp,rfl⟩ (fun m ys σ H2 _ ⟨_,_,e⟩=>by rw[e];exact aU.of (by rw[ak nb];exact r3)) ?_ ?_
  .rintro m x ys σ H2 Kt Kf hx ⟨⟨a,rfl⟩,ey,rfl⟩ kt kf;obtain⟨v,hv,rfl⟩:=sr hx;have PV:v∈fP n ts i:=eB hv;have FP:v<n:=BZ fi hi PV;have sm:aI H (upd H D (.lst ys)):=aj hD;obtain⟨bs2,b2,q1,q2,q3,_⟩:=R.row FP;have hg:(NV ((List.range n).map (far ts v)))[j]?=some (.int (far ts v j:Nat)):=by
    rw[bp,bp,kh hj];rfl
   have tk:(fP n ts i).take (m+1)=(fP n ts i).take m++[v]:=by rw[gX,hv];rfl
   have hm:m<(fP n ts i).length:=(cI.mp hv).1;refine⟨_,rfl,p,C,dx,_,_,rfl,sm _ _ h1,T.cl,T.nD,B1 _ _ _ _,_,rfl,ds,_,_,_,rfl,rfl,aU.of (sm _ _ q1),br q2,_,rfl,b2,_,_,_,rfl,rfl,aU.of (sm _ _ q3),br hg,_,rfl,_,_,rfl,rfl,_,rfl,?_⟩;refine bW (fun e=>?_) (fun e=>?_)
   .refine⟨_,rfl,kt _ _ _ af ?_ ⟨⟨_,rfl⟩,?_,by rw[fu]⟩⟩
    .rw[ey,sj];refine gu (jN _ _) (gu (u_ _ _) (bT (show m<33 from ?_) (by decide)));have:(fP n ts i).length<=n:=bj (jN _ _) (by simp);lia
    .have:decide (far ts v j<far ts i j)=true:=by simp at e |-;lia
     rw[ey,tk,ic,Kn];simp[iZ,this]
   .refine kf _ _ ⟨⟨_,rfl⟩,?_,rfl⟩;have:decide (far ts v j<far ts i j)=false:=by simp at e |-;lia
    rw[ey,tk,ic];simp[iZ,this]
  .rintro ys σ H2 ⟨_,ey,rfl⟩;rw[sj,iY] at ey;refine k2 D _ (aj hD) hD ?_;rw[af,ey];rfl
end
end eT
namespace AQ
open PySem L2 wv
open eT (zr zp PO HK Zs i_ ja jI eK wy FU)
abbrev XW:Stmt:=gR 51
abbrev XX:Stmt:=gR 52
def KLe(kz:Nat->Int)(a b:Nat):Prop:=64*kz a+a<=64*kz b+b
theorem Ko{kz:Nat->Int}{us:List Nat}{zs mT:Zs}(e:zp zs=us.map fun l=>(kz l,ci l))(pm:mT.Perm zs)(ord:eT.UJ (zp mT)):∃out:List Nat,(mT.map fun z=>V.int z.2.2)=NV out/\out.Perm us/\out.Pairwise (KLe kz):=by
 have pz:(zp mT).Perm (us.map fun l=>(kz l,ci l)):=by rw[<-e];exact pm.map _
 have mem:∀u∈zp mT,∃l∈us,u=(kz l,ci l):=fun u hu=>by
  obtain⟨l,hl,e⟩:=bO.mp (pz.mem_iff.mp hu);exact⟨l,hl,e.symm⟩
 refine⟨(zp mT).map fun u=>u.2.toNat,?_,?_,?_⟩
 .unfold zp NV;rw[fV,fV];refine kg fun z hz=>?_;obtain⟨l,_,el⟩:=mem z.2 (bO.mpr ⟨z,hz,rfl⟩);show V.int z.2.2=V.int ((z.2.2.toNat:Nat):Int);rw[el];rfl
 .have:=pz.map fun u=>u.2.toNat;rw[fV] at this;refine this.trans ?_;rw[show ((fun u:Int×Int=>u.2.toNat) ∘ fun l=>(kz l,ci l))=id from funext fun l=>rfl,kB]
 .refine jO.mpr (ord.imp_of_mem fun {u v} hu hv h=>?_);obtain⟨l,_,rfl⟩:=mem u hu;obtain⟨m,_,rfl⟩:=mem v hv;exact h
theorem sP:(["_law_i","_law_house"]:List Str).Nodup:=by decide +kernel
theorem gk:(["_law_i","_law_way","_law_fars_here","_law_homes","_law_stand"]:List Str).Nodup:=by decide +kernel
theorem lZ:(["_law_far_here","_law_i"]:List Str).Nodup:=by decide +kernel
theorem fS:(["_law_house","_law_stand","_law_i","_law_taken"]:List Str).Nodup:=by decide +kernel
theorem A2{xs:List Nat}:pH vO (NV xs) []=xs.isEmpty:=by cases xs <;> rfl
theorem Kq{o:Option Nat}:(!decide (j6 o=V.bR))=o.isSome:=by
 cases o with
 |none=>rw[bE (show j6 none=V.bR from rfl)];rfl
 |some x=>rw[dk (show ¬ j6 (some x)=V.bR from fun z=>by cases z)];rfl
theorem Op{o:Option Nat}:decide (j6 o=V.bR)=o.isNone:=by
 cases o with
 |none=>exact bE rfl
 |some x=>exact dk fun z=>by cases z
noncomputable def dN(n:Nat)(g:Nat->List Nat)(hs:List Int)(s:List (Option Nat))(i:Nat):Nat:=dH n g hs i ((s.getD i none).getD 0)
structure D8(nr:Bool)(n:Nat)(g:Nat->List Nat)(hs:List Int)(s gl:List (Option Nat))(pre dn:List Nat):Prop where
 nd:dn.Nodup
 sub:∀j∈dn,j∈pre
 mid:DZ g s gl dn
 near:∀j∈dn,∀h o,s.getD j none=some h->gl.getD j none=some o->dH n g hs j o<dH n g hs j h
 left:∀i∈pre,i∉dn->∀h,s.getD i none=some h->∀o∈dX n g hs i h,∃j∈dn,s.getD j none=some h/\gl.getD j none=some o/\(nr=true->dH n g hs j h<=dH n g hs i h)
theorem D8.nil{nr:Bool}{n:Nat}{g:Nat->List Nat}{hs:List Int}{s:List (Option Nat)}:D8 nr n g hs s (List.replicate s.length none) [] []:=⟨jT,(fun j h=>nomatch h),DZ.nil,(fun j h=>nomatch h),(fun j h=>nomatch h)⟩
theorem Kr{g:Nat->List Nat}{s gl:List (Option Nat)}{dn:List Nat}(M:DZ g s gl dn){h o:Nat}:(h,o)∈gW s gl dn↔∃j∈dn,s.getD j none=some h/\gl.getD j none=some o:=by
 unfold gW;rw[bO];constructor
 .rintro⟨j,hj,e⟩;obtain⟨h',o',a,b,c⟩:=M.inn j hj;rw[a,b] at e;have e1:h'=h:=congrArg Prod.fst e;have e2:o'=o:=congrArg Prod.snd e;subst e1 e2;exact⟨j,hj,a,b⟩
 .rintro⟨j,hj,a,b⟩;exact⟨j,hj,by rw[a,b];rfl⟩
theorem D8.pass{nr:Bool}{n:Nat}{g:Nat->List Nat}{hs:List Int}{s gl:List (Option Nat)}{pre dn:List Nat}{i h:Nat}(L:D8 nr n g hs s gl pre dn)(hi:s.getD i none=some h)(up:nr=true->∀j∈pre,dN n g hs s j<=dN n g hs s i)(all:∀o∈dX n g hs i h,(h,o)∈gW s gl dn):D8 nr n g hs s gl (pre++[i]) dn:=by
 refine⟨L.nd,fun j hj=>iE _ (L.sub j hj),L.mid,L.near,fun j hj nj x hx o ho=>?_⟩;rcases bV.mp hj with m|m
 .exact L.left j m nj x hx o ho
 .obtain rfl:=cH.mp m;rw[hi] at hx;cases hx;obtain⟨k,hk,a,b⟩:=(Kr L.mid).mp (all o ho);refine⟨k,hk,a,b,fun y=>?_⟩;have:=up y k (L.sub k hk);unfold dN at this;rw[a,hi] at this;exact this
theorem D8.take{nr:Bool}{n:Nat}{g:Nat->List Nat}{hs:List Int}{s gl:List (Option Nat)}{pre dn:List Nat}{i h o:Nat}(L:D8 nr n g hs s gl pre dn)(hi:s.getD i none=some h)(ni:i∉pre)(ho:o∈dX n g hs i h)(fr:(h,o)∉gW s gl dn):
  D8 nr n g hs s (gl.set i (some o)) (pre++[i]) (dn++[i])/\gW s (gl.set i (some o)) (dn++[i])=gW s gl dn++[(h,o)]:=by
 have G6:i∉dn:=fun z=>ni (L.sub i z);obtain⟨M,e⟩:=L.mid.step G6 hi (jf.mp ho).1 fr;have il:i<gl.length:=by rw[L.mid.len];exact(aT hi).1
 have old:∀j∈dn,(gl.set i (some o)).getD j none=gl.getD j none:=fun j hj=>by rw[et il,ap (fun z:j=i=>G6 (z ▸ hj))]
 have new:(gl.set i (some o)).getD i none=some o:=by rw[et il,aq rfl]
 refine⟨⟨lN.mpr ⟨L.nd,dQ.mpr ⟨(fun z=>nomatch z),jT⟩,fun u hu v hv z=>G6 (by rw[cH] at hv;rw[<-hv,<-z];exact hu)⟩,fun j hj=>?_,M,fun j hj x y hx hy=>?_,fun j hj nj x hx y hy=>?_⟩,e⟩
 .rcases bV.mp hj with m|m
  .exact iE _ (L.sub j m)
  .exact iW _ m
 .rcases bV.mp hj with m|m
  .rw[old j m] at hy;exact L.near j m x y hx hy
  .obtain rfl:=cH.mp m;rw[new] at hy;rw[hi] at hx;cases hx;cases hy;exact(jf.mp ho).2
 .rcases bV.mp hj with m|m
  .obtain⟨k,hk,a,b,c⟩:=L.left j m (fun z=>nj (iE _ z)) x hx y hy;exact⟨k,iE _ hk,a,by rw[old k hk];exact b,c⟩
  .exact absurd (iW _ m) nj
structure G7(g:Nat->List Nat)(s g5 gl:List (Option Nat))(d5 pre dn:List Nat):Prop where
 nd:dn.Nodup
 old:∀j∈d5,j∈dn/\gl.getD j none=g5.getD j none
 sub:∀j∈pre,j∈dn
 mid:DZ g s gl dn
theorem G7.start{nr:Bool}{n:Nat}{g:Nat->List Nat}{hs:List Int}{s gl:List (Option Nat)}{pre dn:List Nat}(L:D8 nr n g hs s gl pre dn):G7 g s gl gl dn [] dn:=⟨L.nd,fun j hj=>⟨hj,rfl⟩,(fun j h=>nomatch h),L.mid⟩
theorem G7.skip{g:Nat->List Nat}{s g5 gl:List (Option Nat)}{d5 pre dn:List Nat}{i:Nat}(L:G7 g s g5 gl d5 pre dn)(h:gl.getD i none≠none):G7 g s g5 gl d5 (pre++[i]) dn:=by
 refine⟨L.nd,L.old,fun j hj=>?_,L.mid⟩;rcases bV.mp hj with m|m
 .exact L.sub j m
 .rw[cH.mp m];by_cases z:i∈dn
  .exact z
  .exact absurd (L.mid.out i z) h
theorem G7.take{g:Nat->List Nat}{s g5 gl:List (Option Nat)}{d5 pre dn:List Nat}{i h o:Nat}(L:G7 g s g5 gl d5 pre dn)(hn:gl.getD i none=none)(hi:s.getD i none=some h)(ho:o∈g h)(fr:(h,o)∉gW s gl dn):
  G7 g s g5 (gl.set i (some o)) d5 (pre++[i]) (dn++[i])/\gW s (gl.set i (some o)) (dn++[i])=gW s gl dn++[(h,o)]/\(dn++[i]).Nodup:=by
 have G6:i∉dn:=fun z=>by
  obtain⟨_,_,_,b,_⟩:=L.mid.inn i z;rw[hn] at b;cases b
 obtain⟨M,e⟩:=L.mid.step G6 hi ho fr;have il:i<gl.length:=by rw[L.mid.len];exact(aT hi).1
 have nd:(dn++[i]).Nodup:=lN.mpr ⟨L.nd,dQ.mpr ⟨(fun z=>nomatch z),jT⟩,fun u hu v hv z=>G6 (by rw[cH] at hv;rw[<-hv,<-z];exact hu)⟩;refine⟨⟨nd,fun j hj=>⟨iE _ (L.old j hj).1,?_⟩,fun j hj=>?_,M⟩,e,nd⟩
 .rw[et il,ap (fun z:j=i=>G6 (z ▸ (L.old j hj).1))];exact(L.old j hj).2
 .rcases bV.mp hj with m|m
  .exact iE _ (L.sub j m)
  .exact iW _ m
theorem Ks{nr:Bool}{n:Nat}{g:Nat->List Nat}{hs:List Int}{s g5 gl:List (Option Nat)}{us d5 dn:List Nat}(L5:D8 nr n g hs s g5 us d5)(L6:G7 g s g5 gl d5 us dn)(pm:us.Perm (y7 s s.length)):dw g s gl/\NF nr n g hs s gl:=by
 have du:∀j∈dn,j∈us:=fun j hj=>by
  obtain⟨h,o,a,_,_⟩:=L6.mid.inn j hj;exact pm.mem_iff.mpr (cf.mpr ⟨bu.mpr (aT a).1,by rw[a];rfl⟩)
 have U4:us.Nodup:=pm.nodup_iff.mpr (l3 _ l_);have pd:dn.Perm us:=(Ee L6.nd U4).mpr fun j=>⟨du j,L6.sub j⟩
 have Hd:=L6.mid.done (pd.trans pm);refine⟨Hd,fun i h hi led o ho=>?_⟩;have iu:i∈us:=pm.mem_iff.mpr (cf.mpr ⟨bu.mpr (aT hi).1,by rw[hi];rfl⟩);have G6:i∉d5:=fun z=>by
  obtain⟨h',o',a,b,_⟩:=L5.mid.inn i z;rw[hi] at a;cases a;have c:=L5.near i z h o' hi b;rw[k9 hi (by rw[(L6.old i z).2];exact b),dP] at led;lia
 obtain⟨j,hj,a,b,c⟩:=L5.left i iu G6 h hi o ho;exact⟨j,a,by rw[(L6.old j hj).2];exact b,L5.near j hj h o a b,c⟩
section
variable {P:Program} {w:World} {K:PySem.W.Frag} {mg:Str->Option Value} {base:Heap}
theorem A3:aJ ["_law_outs","_law_fars_here","_law_homes","_law_stand","_law_order_here","_law_gone","_law_taken","_law_i","_law_goods_here","_law_free"] ["_law_outs","_law_fars_here","_law_homes","_law_stand","_law_order_here"] (am XX):=⟨rfl,rfl,rfl,by decide +kernel,rfl,by decide +kernel,by decide +kernel⟩
def Oq:Sp:=fun vs H Q _=>∃ (O r a S D:Addr) (as ds:List Addr) (n:Nat) (g:Nat->List Nat) (hs:List Int) (s:List (Option Nat)) (us:List Nat) (nr:Bool),vs=[.ref O,.ref r,.ref a,.ref S,.ref D]/\fR H O as n g/\fk H r ds n g/\fE n g/\H a=some (.tup (HV hs))/\H S=some (.tup (SV s))/\H D=some (.lst (NV us))/\us.Perm (y7 s s.length)/\(nr=true->us.Pairwise fun i j=>dN n g hs s i<=dN n g hs s j)/\s.length=hs.length/\s.length<=16/\eM n g s/\(∀h∈hs,0<=h/\h<n)/\
 ∀ (t:Addr) (gs:List (Option Nat)) (H':Hp),aI H H'->H' t=some (.tup (SV gs))->dw g s gs->NF nr n g hs s gs->Q (.ref t) H'
structure Ne(H:Hp)(Gn Tk D:Addr)(us:List Nat)(s:List (Option Nat))(Hc:Hp)(gl:List (Option Nat))(dn:List Nat):Prop where
 sm:aI H Hc
 ord:Hc D=some (.lst (NV us))
 gn:Hc Gn=some (.lst (SV gl))
 tk:Hc Tk=some (.dT (DI (gW s gl dn)))
theorem Ne.same{H:Hp}{Gn Tk D:Addr}{us:List Nat}{s:List (Option Nat)}{Hc H':Hp}{gl:List (Option Nat)}{dn:List Nat}(h:Ne H Gn Tk D us s Hc gl dn)(x:aI Hc H'):Ne H Gn Tk D us s H' gl dn:=⟨h.sm.trans x,x _ _ h.ord,x _ _ h.gn,x _ _ h.tk⟩
theorem Ne.put{H:Hp}{Gn Tk D t:Addr}{us:List Nat}{s:List (Option Nat)}{Hc:Hp}{gl:List (Option Nat)}{dn:List Nat}{i h o:Nat}(N:Ne H Gn Tk D us s Hc gl dn)(hG:H Gn=none)(hT:H Tk=none)(P3:Gn≠Tk)(U5:D≠Gn)(U6:D≠Tk)(fr:(h,o)∉gW s gl dn)(e:gW s (gl.set i (some o)) (dn++[i])=gW s gl dn++[(h,o)])(ht:(upd Hc Gn (.lst (SV (gl.set i (some o))))) t=none):
  Ne H Gn Tk D us s (upd (upd (upd Hc Gn (.lst (SV (gl.set i (some o))))) t (.tup [.int (h:Int),.int (o:Int)])) Tk (.dT (fN (DI (gW s gl dn)) (lI (h,o)) (.bl true)))) (gl.set i (some o)) (dn++[i]):=by
 have keep:∀b u,Hc b=some u->b≠Gn->b≠Tk->(upd (upd (upd Hc Gn (.lst (SV (gl.set i (some o))))) t (.tup [.int (h:Int),.int (o:Int)])) Tk (.dT (fN (DI (gW s gl dn)) (lI (h,o)) (.bl true)))) b=some u:=fun b u e n1 n2=>by
  have e8:(upd Hc Gn (.lst (SV (gl.set i (some o))))) b=some u:=by rw[ak n1];exact e
  rw[ak n2,ak (ai e8 ht)];exact e8
 refine⟨fun b u e=>keep _ _ (N.sm _ _ e) (ai e hG) (ai e hT),keep _ _ N.ord U5 U6,?_,?_⟩
 .rw[ak P3];exact aj ht _ _ af
 .rw[af,nu _ (Gw fr),<-Gx,e]
theorem Sj{f:Addr}{fd:FuncData}(F:fW K "_law_by_order" "_law_by_order" XX f fd)(B:Bl mg)(GO:cE P w K mg base bi 1 "_law_goods" ["_law_outs","_law_fars_here","_law_home","_law_house"] Kh):bC P w K mg base bi 2 f fd ["_law_outs","_law_fars_here","_law_homes","_law_stand","_law_order_here"] Oq:=by
 refine F.ok A3 (fun vs H Q E h=>?_) (fun dE A outer s0 H vs Q E hr h=>?_)
 .obtain⟨O,r,a,S,D,as,ds,n,g,hs,s,us,nr,rfl,_⟩:=h;rfl
 .obtain⟨O,r,a,S,D,as,ds,n,g,hs,s,us,nr,rfl,OF,FR,Gd,ha,hS,DW,op,pw,sl,HZ,R,hm,q⟩:=h;have h1:cD 1 _:=hr.mono (by decide);have oR:=hr.u (n:=1);refine'⟨_,(ah (aK (i:=5) A3.nd rfl (Or.inl rfl) (a_ MS (cZ (aa cS ag)) (av aE (by rfl) B.len cL (aa (pv 3) ag))))
   (ah (aK (i:=6) A3.nd rfl (Or.inr rfl) Fj)
   (ah (cT dR rfl (b_ (pv 4)) (au (i:=7) A3.nd rfl (Or.inr rfl))
    (ah (aK (i:=8) A3.nd rfl (Or.inl rfl) (aB GO h1 aM (aa (pv 0) (aa (pv 1) (aa (az aZ (pv 2) (pv 7) (fun _ _=>rfl)) (aa (az aZ (pv 3) (pv 7) (fun _ _=>rfl)) ag))))))
    (ah (gc (i:=9) (g:=(bo 0)) (tt:=(tB (wg (tD (bx (iA (xx K) (aV 1) (aV 2)) (bx (aV 0) hE))) (aV 3)))) (te:=(aV 0)) (NB:=["_law_house","_law_stand","_law_i","_law_taken"]) (src:=[none,some 3,some 7,some 6]) (bY (by kernel_rfl)) rfl (b_ (pv 8)) ?g4 ?t4 ?e4 A3.nd rfl rfl rfl)
    (al (bA (aL (E8 (e:=vO) hr.u) (pv 9) (cZ ag) (aG _)) (ah (iR (az aA (pv 9) ao (fun _ _=>rfl)) (oF (pv 5) (pv 7) i8))
     (al (nw oR (pv 6) (eJ (aa (az aZ (pv 3) (pv 7) (fun _ _=>rfl)) (aa (az aA (pv 5) (pv 7) (fun _ _=>rfl)) ag))) g7 rfl))) aR)))))
   (ah (cT dR rfl (b_ (pv 4)) (au (i:=7) A3.nd rfl (Or.inr rfl))
    (al (bA (aL kG (az aA (pv 5) (pv 7) (fun _ _=>rfl)) cS (aG _)) (ah (iR (az aA ?c5 ao (fun _ _=>rfl)) (oF (pv 5) (pv 7) i8))
     (al (nw oR (pv 6) (eJ (aa (az aZ (pv 3) (pv 7) (fun _ _=>rfl)) (aa (az aA (pv 5) (pv 7) (fun _ _=>rfl)) ag))) g7 rfl))) aR)))
   (al (aH (cr gm (by rfl) B.tup qK (aa (pv 5) ag)))))))),?_⟩
  case g4=>exact fun cl C s₃ H₃ fp=>(au (i:=0) fS rfl (Or.inl rfl) (Or.inr rfl))
  case t4=>exact fun cl C s₃ H₃ fp=>eR (vB (oV oR (eJ (aa (az aZ (pv 1) (pv 2) (fun _ _=>rfl)) (aa (pv 0) ag))) (pv 3)))
  case e4=>exact fun cl C s₃ H₃ fp=>(pv 0)
  case c5=>
   refine' cm (g:=(bo 0)) (tt:=(tB (wg (tD (bx (iA (xx K) (aV 1) (aV 2)) (bx (aV 0) hE))) (aV 3)))) (te:=(aV 0)) (NB:=["_law_house","_law_stand","_law_i","_law_taken"]) (src:=[none,some 3,some 7,some 6]) (bY (by kernel_rfl)) rfl (b_ (bQ oR (pv 0) (az aZ (pv 3) (pv 7) (fun _ _=>rfl)) (fun _ _=>rfl))) ?g ?t ?e;case g=>exact fun cl C s₃ H₃ fp=>(au (i:=0) fS rfl (Or.inl rfl) (Or.inr rfl))
   case t=>exact fun cl C s₃ H₃ fp=>eR (vB (oV oR (eJ (aa (az aZ (pv 1) (pv 2) (fun _ _=>rfl)) (aa (pv 0) ag))) (pv 3)))
   case e=>exact fun cl C s₃ H₃ fp=>(pv 0)
  have U4:(y7 s s.length).Nodup:=l3 _ l_;have ul:(y7 s s.length).length<=16:=bj Cb HZ;have um:∀i∈y7 s s.length,∃h k:Nat,s.getD i none=some h/\h<n/\i<s.length/\k<n/\hs.getD i 0=(k:Int)/\(hs.getD i 0).toNat=k:=fun i hi=>by
   obtain⟨a1,a2⟩:=cf.mp hi;obtain⟨h,eh⟩:=nY.mp a2;obtain⟨k,b1,b2,b3⟩:=lD hm (i:=i) (by rw[<-sl];exact bu.mp a1);exact⟨h,k,eh,R.1 h (aT eh).2,bu.mp a1,b1,b2,b3⟩
  have nud:us.Nodup:=op.nodup_iff.mpr U4;have usl:us.length<=16:=by rw[op.length_eq];exact ul
  have tf:=aI.refl H;refine⟨by show 1<=sizeLine;decide,fun L hL=>⟨_,rfl,S,_,rfl,.inr (cK.of (aj hL _ _ (tf _ _ hS))),L,_,_,rfl,rfl,af,by lia,?_,?_,fun Gn hG=>?_⟩⟩
  .rw[aF];lia
  .rw[cW,aF];exact bj (show 1*s.length<=16 by lia) (by decide)
  have eL:(List.replicate ((((SV s).length:Nat):Int)).toNat [V.bR]).flatten=SV (List.replicate s.length none):=by rw[cW,aF];exact Gy
  rw[eL];have sk:aI H (upd (upd H L (.lst [.bR])) Gn (.lst (SV (List.replicate s.length none)))):=(aj hL).trans (aj hG);have hG3:H Gn=none:=(aj hL).free hG;have Os:(upd (upd H L (.lst [.bR])) Gn (.lst (SV (List.replicate s.length none)))) Gn=some (.lst (SV (List.replicate s.length none))):=af;generalize upd (upd H L (.lst [.bR])) Gn (.lst (SV (List.replicate s.length none)))=H4 at *;intro Tk Sk;have hT3:H Tk=none:=sk.free Sk;have P3:Gn≠Tk:=ai Os Sk;have Ot:aI H (upd H4 Tk (.dT [])):=sk.trans (aj Sk);have Sl:(upd H4 Tk (.dT [])) Gn=some (.lst (SV (List.replicate s.length none))):=aj Sk _ _ Os;have Sm:(upd H4 Tk (.dT [])) Tk=some (.dT []):=af;generalize upd H4 Tk (.dT [])=H5 at *;have U7:H Gn=none:=hG3;have hTH:H Tk=none:=hT3;have U5:D≠Gn:=ai DW hG3;have U6:D≠Tk:=ai DW hT3;have N5:Ne H Gn Tk D us s H5 (List.replicate s.length none) []:=⟨tf.trans Ot,Ot _ _ DW,Sl,Sm⟩
  clear sk Ot Os Sl Sm Sk hG hL tf;refine⟨_,rfl,D,rfl,⟨_,aU.of N5.ord⟩,?_⟩;refine ij (K:=K) (a:=D) (xs:=NV us) (fun k σ Hc=>(∃x8 x9 Ou,σ=[some (.ref O),some (.ref r),some (.ref a),some (.ref S),some (.ref D),some (.ref Gn),some (.ref Tk),x8,x9,Ou])/\∃gl dn,Ne H Gn Tk D us s Hc gl dn/\D8 nr n g hs s gl (us.take k) dn) ⟨⟨_,_,_,rfl⟩,_,_,N5,D8.nil⟩ (fun k σ Hc _ ⟨_,_,_,z,_⟩=>aU.of z.ord) ?_ ?_
  .rintro k v σ Hc hx ⟨⟨x8,x9,Ou,rfl⟩,gl,dn,N,L5⟩;obtain⟨i,P4,rfl⟩:=Kc hx;have hk:k<us.length:=(cI.mp P4).1;have tk:us.take (k+1)=us.take k++[i]:=by rw[gX,P4];rfl
   have iu:i∈y7 s s.length:=op.mem_iff.mp (eB P4);have XY:(us.take k++[i]).Nodup:=by rw[<-tk];exact nud.sublist (qQ _ _)
   have hip:i∉us.take k:=fun z=>(lN.mp XY).2.2 i z i (cH.mpr rfl) rfl;obtain⟨h,kk,eh,hn,il,U8,ek,D5⟩:=um i iu;have up:nr=true->∀j∈us.take k,dN n g hs s j<=dN n g hs s i:=fun y j hj=>by
    have pw':(us.take k++[i]).Pairwise (fun i j=>dN n g hs s i<=dN n g hs s j):=by rw[<-tk];exact(pw y).sublist (qQ _ _)
    exact(u5.mp pw').2.2 j hj i (cH.mpr rfl)
   have pS:fT (SV s) (i:Int)=some (.int (h:Int)):=by rw[dW il,eh];rfl
   have P5:=N.sm _ _ hS;have Ov:(g h).filter (fun o=>decide (far (bN n g) o kk<far (bN n g) h kk))=dX n g hs i h:=by unfold dX dH;rw[D5]
   refine⟨_,rfl,_,rfl,_,rfl,_,rfl,a,_,_,_,rfl,rfl,cK.of (N.sm _ _ ha),iN (by lia),_,rfl,_,rfl,S,_,_,_,rfl,rfl,cK.of P5,pS,O,r,as,ds,n,g,kk,h,by rw[ek];rfl,OF.same N.sm,FR.same N.sm,Gd,U8,hn,fun D6 H6 s6 LL Ow=>?_⟩;rw[Ov] at Ow;have N6:=N.same s6;have P6:=s6 _ _ P5;have gl8:(dX n g hs i h).length<=8:=bj (jN _ _) (Gd.le h hn);refine⟨_,rfl,D6,rfl,⟨_,aU.of Ow⟩,fun D7 XZ=>?_⟩;refine wX (os:=dX n g hs i h) (fun o=>decide ((h,o)∉gW s gl dn)) (fun σ=>∃b,σ=[b,some (.ref S),some (.int (i:Int)),some (.ref Tk)]) Ow XZ (by lia) ⟨_,rfl⟩ ?_ ?_
   .rintro o σ H8 Kt Kf ho ⟨b',rfl⟩ Ox kt kf;refine⟨_,rfl,_,rfl,S,_,_,_,rfl,rfl,cK.of (Ox _ _ P6),pS,_,rfl,by show 2<=sizeLine;decide,fun t ht=>⟨_,rfl,Tk,_,rfl,iT.t (k:=lI (h,o)) (aj ht _ _ (Ox _ _ N6.tk)) af,_,rfl,?_⟩⟩;refine bW (fun e=>?_) (fun e=>?_)
    .exact⟨_,rfl,kt _ _ ⟨_,rfl⟩ (aj ht) (bE (by rw[lA] at e;simpa using e))⟩
    .exact kf _ _ ⟨_,rfl⟩ (aj ht) (dk fun z=>z (by rw[lA] at e;simpa using e))
   intro H8 s8 hD8;dsimp only;have N8:=N6.same s8;have X0:=s8 _ _ P6;have X7:∀o∈(dX n g hs i h).filter (fun o=>decide ((h,o)∉gW s gl dn)),o∈dX n g hs i h/\(h,o)∉gW s gl dn:=fun o ho=>⟨(cf.mp ho).1,bU (cf.mp ho).2⟩
   have frn:(dX n g hs i h).filter (fun o=>decide ((h,o)∉gW s gl dn))=[]->∀o∈dX n g hs i h,(h,o)∈gW s gl dn:=fun e o ho=>by
    by_cases z:(h,o)∈gW s gl dn
    .exact z
    .have:o∈(dX n g hs i h).filter (fun o=>decide ((h,o)∉gW s gl dn)):=cf.mpr ⟨ho,bE z⟩;rw[e] at this;cases this
   generalize (dX n g hs i h).filter (fun o=>decide ((h,o)∉gW s gl dn))=fr at *;refine⟨_,rfl,by show 0<=sizeLine;decide,fun E1 P7=>?_⟩;have sE:=aj (o:=.lst []) P7;have N9:=N8.same sE;have X_:=sE _ _ X0;have U9:=sE _ _ hD8;refine⟨D7,E1,_,[],rfl,rfl,aU.of U9,aU.of af,fun i h1 h2=>absurd h2 (by simp),_,rfl,?_⟩;rw[aq rfl,A2];generalize upd H8 E1 (.lst [])=H9 at *;cases fr with
   |nil=>exact uI ⟨⟨_,_,_,rfl⟩,gl,dn,N9,by rw[tk];exact L5.pass eh up (frn rfl)⟩
   |cons o RU=>
    obtain⟨og,Sn⟩:=X7 o cA;obtain⟨L5',ep⟩:=L5.take eh hip og Sn;have L_:i<gl.length:=by rw[L5.mid.len];exact il
    have Oy:(SV gl).set i (.int (o:Int))=SV (gl.set i (some o)):=by unfold SV;rw[List.map_set];rfl
    have AX:fT (SV (gl.set i (some o))) (i:Int)=some (.int (o:Int)):=by rw[dW (by rw[md];exact L_),et L_,aq rfl];rfl
    have Ya:S≠Gn:=ai hS U7;refine lW ⟨_,rfl,D7,_,_,_,rfl,rfl,aU.of U9,br (j:=0) rfl,_,rfl,_,rfl,Gn,_,_,i,rfl,rfl,N9.gn,lq (by rw[aF];exact L_),?_⟩;rw[Oy];refine⟨_,rfl,_,rfl,_,rfl,S,_,_,_,rfl,rfl,cK.of (by rw[ak Ya];exact X_),pS,_,rfl,_,rfl,Gn,_,_,_,rfl,rfl,aU.of af,AX,by show 2<=sizeLine;decide,fun t2 Sq=>?_⟩;refine⟨Tk,_,rfl,rG.t (k:=lI (h,o)) (aj Sq _ _ (by rw[ak P3.symm];exact N9.tk)) af ?_,⟨_,_,_,rfl⟩,_,_,N9.put U7 hTH P3 U5 U6 Sn ep Sq,by rw[tk];exact L5'⟩;unfold DI gW;rw[aF,aF];have:=uJ L5.nd (m:=us.take k) L5.sub;rw[iF] at this;exact gu this (bT (show min k us.length<17 by lia) (by decide))
  rintro σ Hc ⟨⟨x8,x9,Ou,rfl⟩,g5,d5,N5',L5⟩;rw[show (NV us).length=us.length from aF _,iY] at L5;refine⟨_,rfl,D,rfl,⟨_,aU.of N5'.ord⟩,?_⟩;refine ij (K:=K) (a:=D) (xs:=NV us) (fun k σ Hc=>(∃x8 x9 Ou,σ=[some (.ref O),some (.ref r),some (.ref a),some (.ref S),some (.ref D),some (.ref Gn),some (.ref Tk),x8,x9,Ou])/\∃gl dn,Ne H Gn Tk D us s Hc gl dn/\G7 g s g5 gl d5 (us.take k) dn) ⟨⟨_,_,_,rfl⟩,_,_,N5',G7.start L5⟩ (fun k σ Hc _ ⟨_,_,_,z,_⟩=>aU.of z.ord) ?_ ?_
  .rintro k v σ Hc hx ⟨⟨x8,x9,Ou,rfl⟩,gl,dn,N,L6⟩;obtain⟨i,P4,rfl⟩:=Kc hx;have tk:us.take (k+1)=us.take k++[i]:=by rw[gX,P4];rfl
   have iu:i∈y7 s s.length:=op.mem_iff.mp (eB P4);obtain⟨h,kk,eh,hn,il,U8,ek,D5⟩:=um i iu;have pS:fT (SV s) (i:Int)=some (.int (h:Int)):=by rw[dW il,eh];rfl
   have L_:i<gl.length:=by rw[L6.mid.len];exact il
   have P5:=N.sm _ _ hS;refine⟨_,rfl,_,rfl,Gn,_,_,_,rfl,rfl,aU.of N.gn,dW L_,rfl,_,rfl,?_⟩;rw[Op];refine bW (fun e=>?_) (fun e=>?_)
   rotate_left
   .exact⟨⟨_,_,_,rfl⟩,gl,dn,N,by rw[tk];exact L6.skip (fun z=>e (by rw[z];rfl))⟩
   have e':=Option.isNone_iff_eq_none.mp e;have G6:i∉dn:=fun z=>by
    obtain⟨_,_,_,b,_⟩:=L6.mid.inn i z;rw[e'] at b;cases b
   have XY:(dn++[i]).Nodup:=lN.mpr ⟨L6.nd,dQ.mpr ⟨(fun z=>nomatch z),jT⟩,fun u hu v hv z=>G6 (by rw[cH] at hv;rw[<-hv,<-z];exact hu)⟩;have f0:=lm L6.mid XY R Gd eh;have Yb:=OF.same N.sm;refine⟨_,rfl,_,rfl,_,rfl,S,_,_,_,rfl,rfl,cK.of P5,pS,O,_,rfl,Yb.get hn,as.getD h 0,rfl,⟨_,aU.of (Yb.rows.2 h hn)⟩,fun D7 XZ=>?_⟩;refine wX (os:=g h) (fun o=>decide ((h,o)∉gW s gl dn)) (fun σ=>∃b,σ=[b,some (.ref S),some (.int (i:Int)),some (.ref Tk)]) (Yb.rows.2 h hn) XZ (by have:=Gd.le h hn;lia) ⟨_,rfl⟩ ?_ ?_
   .rintro o σ H8 Kt Kf ho ⟨b',rfl⟩ Ox kt kf;refine⟨_,rfl,_,rfl,S,_,_,_,rfl,rfl,cK.of (Ox _ _ P5),pS,_,rfl,by show 2<=sizeLine;decide,fun t ht=>⟨_,rfl,Tk,_,rfl,iT.t (k:=lI (h,o)) (aj ht _ _ (Ox _ _ N.tk)) af,_,rfl,?_⟩⟩;refine bW (fun e=>?_) (fun e=>?_)
    .exact⟨_,rfl,kt _ _ ⟨_,rfl⟩ (aj ht) (bE (by rw[lA] at e;simpa using e))⟩
    .exact kf _ _ ⟨_,rfl⟩ (aj ht) (dk fun z=>z (by rw[lA] at e;simpa using e))
   intro H8 s8 U9;dsimp only;have N9:=N.same s8;have X_:=s8 _ _ P5;have X7:∀o∈(g h).filter (fun o=>decide ((h,o)∉gW s gl dn)),o∈g h/\(h,o)∉gW s gl dn:=fun o ho=>⟨(cf.mp ho).1,bU (cf.mp ho).2⟩
   generalize (g h).filter (fun o=>decide ((h,o)∉gW s gl dn))=fr at *;cases fr with
   |nil=>exact absurd f0 (by simp)
   |cons o RU=>
    obtain⟨og,Sn⟩:=X7 o cA;obtain⟨L6',ep,nd'⟩:=L6.take e' eh og Sn;have Oy:(SV gl).set i (.int (o:Int))=SV (gl.set i (some o)):=by unfold SV;rw[List.map_set];rfl
    have AX:fT (SV (gl.set i (some o))) (i:Int)=some (.int (o:Int)):=by rw[dW (by rw[md];exact L_),et L_,aq rfl];rfl
    have Ya:S≠Gn:=ai hS U7;refine⟨D7,_,_,_,rfl,rfl,aU.of U9,br (j:=0) rfl,_,rfl,_,rfl,Gn,_,_,i,rfl,rfl,N9.gn,lq (by rw[aF];exact L_),?_⟩;rw[Oy];refine⟨_,rfl,_,rfl,_,rfl,S,_,_,_,rfl,rfl,cK.of (by rw[ak Ya];exact X_),pS,_,rfl,_,rfl,Gn,_,_,_,rfl,rfl,aU.of af,AX,by show 2<=sizeLine;decide,fun t2 Sq=>?_⟩;refine⟨Tk,_,rfl,rG.t (k:=lI (h,o)) (aj Sq _ _ (by rw[ak P3.symm];exact N9.tk)) af ?_,⟨_,_,_,rfl⟩,_,_,N9.put U7 hTH P3 U5 U6 Sn ep Sq,by rw[tk];exact L6'⟩;unfold DI gW;rw[aF,aF];have:dn.length<=us.length:=uJ L6.nd fun j hj=>by
     obtain⟨h',o',a,_,_⟩:=L6.mid.inn j hj;exact op.mem_iff.mpr (cf.mpr ⟨bu.mpr (aT a).1,by rw[a];rfl⟩)
    exact gu this (bT (show us.length<17 by lia) (by decide))
  rintro σ Hc ⟨⟨x8,x9,Ou,rfl⟩,gl,dn,N,L6⟩;rw[show (NV us).length=us.length from aF _,iY] at L6;obtain⟨Hd,nf⟩:=Ks L5 L6 op;exact⟨_,rfl,Gn,_,rfl,.inl ⟨aU.of N.gn,fun t ht=>q t gl _ (N.sm.trans (aj ht)) af Hd nf⟩⟩
theorem Oz:aJ ["_law_pot_here","_law_fars_here","_law_homes","_law_stand","_law_sort","_law_under","_law_way"] ["_law_pot_here","_law_fars_here","_law_homes","_law_stand","_law_sort"] (am XW):=⟨rfl,rfl,rfl,by decide +kernel,rfl,by decide +kernel,by decide +kernel⟩
def OA:Sp:=fun vs H Q _=>∃ (p r a S:Addr) (ds:List Addr) (n:Nat) (g:Nat->List Nat) (hs:List Int) (s:List (Option Nat)) (so:Int),vs=[.ref p,.ref r,.ref a,.ref S,.int so]/\aX H p/\fk H r ds n g/\H a=some (.tup (HV hs))/\H S=some (.tup (SV s))/\s.length=hs.length/\s.length<=16/\eM n g s/\(∀h∈hs,0<=h/\h<n)/\(0<=so/\so<=2)/\
 ∀ (D:Addr) (us:List Nat) (H':Hp),aP p H H'->aX H' p->H D=none->H' D=some (.lst (NV us))->us.Perm (y7 s s.length)->(decide (so=0)=true->us.Pairwise fun i j=>dN n g hs s i<=dN n g hs s j)->Q (.ref D) H'
theorem Sr{f:Addr}{fd:FuncData}(F:fW K "_law_order" "_law_order" XW f fd)(B:Bl mg)(hso:mg "sorted"=none)(SH:cE P w K mg base bi 2 "_law_shuffled" ["_law_pot_here","_law_some"] (wE K)):bC P w K mg base bi 3 f fd ["_law_pot_here","_law_fars_here","_law_homes","_law_stand","_law_sort"] OA:=by
 refine F.ok Oz (fun vs H Q E h=>?_) (fun dE A outer s0 H vs Q E hr h=>?_)
 .obtain⟨p,r,a,S,ds,n,g,hs,s,so,rfl,_⟩:=h;rfl
 .obtain⟨p,r,a,S,ds,n,g,hs,s,so,rfl,hp,FR,ha,hS,sl,HZ,R,hm,U_,q⟩:=h;have h2:cD 2 _:=hr;have oR:=hr.u (n:=1);refine'⟨_,(ah (gc (i:=5) (g:=(rh K 2 (fq (bo 0) (fq (bo 1) rf)))) (tt:=(jW (iA (fun x y H Q=>y=.bR/\Q (.bl (!decide (x=.bR))) H) (aV 1) (tC .bR)))) (te:=(aV 0)) (NB:=["_law_i","_law_house"]) (src:=[none,none]) (bY (by kernel_rfl)) rfl (rM rfl B.enum (aa (pv 3) ag)) ?g1 ?t1 ?e1 Oz.nd rfl rfl rfl)
   (ah (bA (aL eN (pv 4) ao (aG _)) (al (aH (aB SH h2 aM (aa (pv 0) (aa (pv 5) ag))))) aR)
   (ah (aK (i:=6) Oz.nd rfl (Or.inr rfl) (a_ jA ao (a_ ik ao (pv 4))))
   (al (aH ?c3))))),?_⟩
  case g1=>exact fun cl C s₃ H₃ fp=>(fw (n:=2) rfl (a9 (au (i:=0) sP rfl (Or.inl rfl) (Or.inr rfl)) (a9 (au (i:=1) sP rfl (Or.inl rfl) (Or.inr rfl)) dZ)))
  case t1=>exact fun cl C s₃ H₃ fp=>eR (aL vH (pv 1) cS (aG _))
  case e1=>exact fun cl C s₃ H₃ fp=>(pv 0)
  case c3=>
   refine' cm (g:=(rh K 2 (fq (bo 0) (fq (bo 1) rf)))) (te:=(aV 1)) (NB:=["_law_far_here","_law_i"]) (src:=[none,none]) (bY (by kernel_rfl)) rfl (b_ (av sd (by rfl) hso ze (aa ?c2 ag))) ?g ?t ?e;case c2=>
    refine' cm (g:=(bo 0)) (te:=(tD (bx (iA (rI EC fun i j=>.int (i*j)) (aV 1) (kN (kN (aV 2) (iA (xx K) (aV 3) (aV 0))) (iA (xx K) (aV 4) (aV 0)))) (bx (aV 0) hE)))) (NB:=["_law_i","_law_way","_law_fars_here","_law_homes","_law_stand"]) (src:=[none,some 6,some 1,some 2,some 3]) (bY (by kernel_rfl)) rfl (b_ (pv 5)) ?gi ?ti ?ei;case gi=>exact fun cl C s₃ H₃ fp=>(au (i:=0) gk rfl (Or.inl rfl) (Or.inr rfl))
    case ti=>exact fun cl C s₃ H₃ fp=>eQ
    case ei=>exact fun cl C s₃ H₃ fp=>(eJ (aa (a_ ik (pv 1) (bQ oR (bQ oR (pv 2) (az aZ (pv 3) (pv 0) (fun _ _=>rfl)) (fun _ _=>rfl)) (az aZ (pv 4) (pv 0) (fun _ _=>rfl)) (fun _ _=>rfl))) (aa (pv 0) ag)))
   case g=>exact fun cl C s₃ H₃ fp=>(fw (n:=2) rfl (a9 (au (i:=0) lZ rfl (Or.inl rfl) (Or.inr rfl)) (a9 (au (i:=1) lZ rfl (Or.inl rfl) (Or.inr rfl)) dZ)))
   case t=>exact fun cl C s₃ H₃ fp=>eQ
   case e=>exact fun cl C s₃ H₃ fp=>(pv 1)
  refine⟨_,rfl,S,_,rfl,cK.of hS,fun D1 Lx=>?_⟩;refine yE (xs:=SV s) (fun x=>(s.getD x none).isSome) (fun σ=>∃b c,σ=[b,c]) hS Lx (by rw[aF];lia) ⟨_,_,rfl⟩ ?_ ?_
  .rintro x v t σ H5 Kt Kf hx ⟨b,c,rfl⟩ sm ht kt kf;obtain⟨hxl,rfl⟩:=AU hx;refine⟨_,_,rfl,cK.of ht,rfl,_,_,rfl,_,_,rfl,rfl,?_⟩;refine⟨_,rfl,rfl,_,rfl,?_⟩;rw[Kq];refine bW (fun e=>?_) (fun e=>?_)
   .exact⟨_,rfl,kt _ _ ⟨_,_,rfl⟩ (aI.refl _) e⟩
   .exact kf _ _ ⟨_,_,rfl⟩ (aI.refl _) (qS.mpr e)
  intro H1 s1 G8;rw[aF] at G8;change H1 D1=some (.lst (NV (y7 s s.length))) at G8;dsimp only;have U4:(y7 s s.length).Nodup:=l3 _ l_;have ul:(y7 s s.length).length<=16:=bj Cb HZ;have um:∀i∈y7 s s.length,∃h k:Nat,s.getD i none=some h/\h<n/\i<s.length/\k<n/\hs.getD i 0=(k:Int)/\(hs.getD i 0).toNat=k:=fun i hi=>by
   obtain⟨a1,a2⟩:=cf.mp hi;obtain⟨h,eh⟩:=nY.mp a2;obtain⟨k,b1,b2,b3⟩:=lD hm (i:=i) (by rw[<-sl];exact bu.mp a1);exact⟨h,k,eh,R.1 h (aT eh).2,bu.mp a1,b1,b2,b3⟩
  refine⟨_,rfl,rfl,_,rfl,?_⟩;refine bW (fun e=>?_) (fun e=>?_)
  .refine⟨_,rfl,_,rfl,p,D1,_,rfl,hp.same s1,G8,by rintro rfl;exact hp.some Lx,by rw[aF];lia,fun D ys H3 pm Gh xa hDn hDy=>?_⟩;obtain⟨us,rfl,op⟩:=wK pm;have e2:so=2:=V.int.inj (bU e);exact q D us H3 ((aP.of s1).trans Gh) xa (s1.free hDn) hDy op (fun y=>by rw[e2] at y;exact absurd y (by decide))
  have e2:so=0\/so=1:=by
   have:so≠2:=fun z=>e (bE (by rw[z]));lia
  refine⟨_,rfl,_,_,rfl,rfl,.inl ⟨by decide,by decide⟩,_,_,rfl,rfl,?_⟩;refine⟨_,rfl,D1,rfl,⟨_,aU.of G8⟩,fun D2 jj=>?_⟩;refine yD (xs:=y7 s s.length) (fun i=>((1-2*so)*((dN n g hs s i:Nat):Int),ci i)) (fun σ=>∃b,σ=[b,some (.int (1-2*so)),some (.ref r),some (.ref a),some (.ref S)]) G8 jj (by lia) ⟨_,rfl⟩ ?_ ?_
  .rintro x σ H5 Rr Kf hx ⟨b,rfl⟩ sm kr;obtain⟨h,k,eh,hn,xl,hk,ek,D5⟩:=um x hx;have s5:=s1.trans sm;have Ib:=FR.same s5;have pS:fT (SV s) (x:Int)=some (.int (h:Int)):=by rw[dW xl,eh];rfl
   refine⟨_,rfl,_,rfl,_,rfl,_,rfl,a,_,_,_,rfl,rfl,cK.of (s5 _ _ ha),iN (by lia),r,_,rfl,by rw[ek];exact Ib.get hk,_,rfl,_,rfl,S,_,_,_,rfl,rfl,cK.of (s5 _ _ hS),pS,_,_,rfl,(Ib.rows k hk).get hn,_,_,rfl,rfl,.inl ⟨by lia,by lia⟩,_,rfl,by show 2<=sizeLine;decide,fun p hp=>?_⟩;have e:((dN n g hs s x:Nat):Int)=((far (bN n g) h k:Nat):Int):=by unfold dN dH;rw[eh,D5];rfl
   have:=kr [some (.int (x:Int)),some (.int (1-2*so)),some (.ref r),some (.ref a),some (.ref S)] p ⟨_,rfl⟩ hp
   (try dsimp only at this)
   rw[e] at this;exact this
  intro zs H2 s2 sv po ez;have zl:zs.length<=16:=by rw[<-eK,ez,aF];exact ul
  refine FU ?_;refine wy sv po (by lia) (fun u hu=>?_) fun D3 mT jY pm ord=>⟨D3,rfl,⟨_,aU.of af⟩,fun D hD=>?_⟩
  .rw[ez] at hu;obtain⟨l,hl,rfl⟩:=bO.mp hu;obtain⟨_,_,_,_,xl,_⟩:=um l hl;show (0:Int)<=(l:Int)/\(l:Int)<64;lia
  obtain⟨us,eo,op,pw⟩:=Ko (kz:=fun i=>(1-2*so)*((dN n g hs s i:Nat):Int)) ez pm ord;have sD:=aj (o:=.lst (zr mT)) jY;have y6:PO (upd H2 D3 (.lst (zr mT))) mT:=fun z hz=>sD _ _ (po z (pm.mem_iff.mp hz));refine Ci mT (fun z=>V.ref z.1) (fun z=>V.int z.2.2) (fun σ=>∃a b,σ=[a,b]) af hD (by rw[pm.length_eq];lia) ⟨_,_,rfl⟩ ?_ ?_
  .rintro z σ H5 Rr Kf hz ⟨a,b,rfl⟩ sm kk;exact⟨z.1,_,rfl,cK.of (sm _ _ (y6 z hz)),rfl,_,_,rfl,_,_,rfl,rfl,_,rfl,kk _ _ ⟨_,_,rfl⟩ (aI.refl _)⟩
  intro H3 s3 DW;rw[eo] at DW;have tf:aI H H3:=s1.trans (s2.trans (sD.trans s3));refine q D us H3 (aP.of tf) (hp.same tf) (s1.free (s2.free (sD.free hD))) DW op fun y=>?_;have e3:so=0:=bU y;refine pw.imp_of_mem fun {i j} hi hj h=>?_;obtain⟨_,_,_,_,il,_⟩:=um i (op.mem_iff.mp hi);obtain⟨_,_,_,_,jl,_⟩:=um j (op.mem_iff.mp hj);unfold KLe at h;rw[e3] at h;lia
end
abbrev Yc:Stmt:=gR 54
abbrev Yd:Stmt:=gR 55
abbrev Ye:Stmt:=gR 56
abbrev OB:Stmt:=gR 57
theorem uO{K:PySem.W.Frag}{a D:Addr}{xs:List V}{g:TG}{tt:TT}{te:TE}{fin:Hp->Prop}{σB:St}{H0:Hp}(Pv:Nat->List V->St->Hp->Prop)(h0:Pv 0 [] σB H0)(hl:∀i ys σ H,i<=xs.length->Pv i ys σ H->cK K H a xs)(hs:∀i x ys σ H (Kt:V->St->Hp->Prop) (Kf:St->Hp->Prop),xs[i]?=some x->Pv i ys σ H->
   (∀v σ2 H4,H4 D=some (.lst ys)->ys.length<sizeLine->Pv (i+1) (ys++[v]) σ2 (upd H4 D (.lst (ys++[v])))->Kt v σ2 H4)->(∀σ2 H3,Pv (i+1) ys σ2 H3->Kf σ2 H3)->
   g x σ H fun σ2 H2=>tt σ2 H2 fun b H3=>if b=true then te σ2 H3 fun v H4=>Kt v σ2 H4 else Kf σ2 H3)(hd:∀ys σ H,Pv xs.length ys σ H->fin H):iG (VG K a) g tt te D fin σB H0:=by
 refine⟨fun i m σ H=>m=xs.length-i/\i<=xs.length/\∃ys,Pv i ys σ H,⟨xs.length,by simp,dG _,[],h0⟩,?_⟩;rintro i m σ H ⟨rfl,hi,ys,p⟩;have q:=hl i ys σ H hi p;by_cases dL:i<xs.length
 .refine .inr ⟨⟨xs,xs[i],q,by simp[dL]⟩,?_⟩;rintro x H' ⟨rfl,y⟩;exact hs i x ys σ _ (fun v σ2 H4=>∃ys,H4 D=some (.lst ys)/\ys.length<sizeLine/\∃m',m'<xs.length-i/\m'=xs.length-(i+1)/\i+1<=xs.length/\∃pY,Pv (i+1) pY σ2 (upd H4 D (.lst (ys++[v]))))
   (fun σ2 H3=>∃m',m'<xs.length-i/\m'=xs.length-(i+1)/\i+1<=xs.length/\∃pY,Pv (i+1) pY σ2 H3) (y xs q) p
   (fun v σ2 H4 z1 z2 z3=>⟨ys,z1,z2,_,by lia,rfl,dL,_,z3⟩) (fun σ2 H3 z=>⟨_,by lia,rfl,dL,_,z⟩)
 .have e:i=xs.length:=by lia
  subst e;exact .inl ⟨⟨xs,q,bf _⟩,hd ys σ H p⟩
theorem Cp{X:Cx}{d:Nat}(hu:X.A.units+(d+1)<cLine):m3 X (compareOp .Eq) (L8 X false d):=by
 intro ae s σ H x y v u Q I rx ry h;obtain⟨p,q,xs,ys,rfl,rfl,hp,hq,hl,he,k⟩:=h;obtain rfl:v=Value.ref p:=rx;obtain rfl:u=Value.ref q:=ry;obtain⟨us,r1,p1,_⟩:=I.list hp;obtain⟨vs,r2,p2,_⟩:=I.list hq;refine SeqAt.eq_listAt (e:=fun _=>true) p1.isList p2.isList (by simp only[dj];rw[<-r1.length,<-r2.length];exact hl) (by lia) (uN I (by show X.A.units+1+d<cLine;lia) r1 r2 he) ⟨.bl _,H,I,rfl,?_⟩;rw[yF];exact k
theorem OC:(["_law_one"]:List Str).Nodup:=by decide +kernel
theorem G9:(["_law_house"]:List Str).Nodup:=by decide +kernel
theorem G_{X:Cx}{H:Hp}{os:List Nat}:∀i,i<(NV os).length->i<(NV os).length->U1 X H 0 ((NV os).getD i .bR) ((NV os).getD i .bR):=fun i h _=>by
 rw[bH,b9 h,Option.getD_some,List.getElem_map];exact Ki
theorem yJ{as:List Addr}{k:Nat}:tE (as.map V.ref) none (some (k:Int))=(as.take k).map V.ref:=by
 have h1:HT.qr (as.map V.ref).length 0 none=0:=rfl;have h2:HT.qr (as.map V.ref).length (as.map V.ref).length (some (k:Int))=min k as.length:=by
  unfold HT.qr;simp;try lia
 unfold tE;rw[h1,h2,qZ,vv,List.map_take,List.take_eq_take_iff];simp;try lia
section
variable {nr:Bool} {n:Nat} {g:Nat->List Nat} {hs:List Int} {L:Nat} {ss ls:Nat->List (Option Nat)}
theorem hX.start{s:List (Option Nat)}{ls:Nat->List (Option Nat)}(h:R8 n hs s)(R:eM n g s)(sl:s.length=hs.length):hX nr n g hs 0 (fun _=>s) ls []:=
 ⟨qc.start (fun z hz=>nomatch hz) fun i h e=>R.1 h (aT e).2,fun b hb=>absurd hb (by lia),h.1,fun b _=>h.2,fun b _=>sl⟩
theorem hX.push{gs:List (Option Nat)}(N:hX nr n g hs L ss ls [])(G:fE n g)(R:eM n g (ss L))(Hd:dw g (ss L) gs)(nf:NF nr n g hs (ss L) gs):hX nr n g hs (L+1) (yy ss (L+1) (bh hs gs)) (yy ls L gs) []:=by
 have R5:eM n g (bh hs gs):=Hd.right G R wN (fun i=>LZ i);refine⟨N.r.push Hd (fun _ _=>rfl) (fun _ h=>h) (fun z hz=>nomatch hz) fun i h e=>R5.1 h (aT e).2,fun b hb=>?_,N.hm,fun b hb i h e=>?_,fun b hb=>?_⟩
 .rw[iO (show b≠L+1 by lia)];by_cases e:b=L
  .rw[e,jM];exact nf
  .rw[iO e];exact N.nf b (by lia)
 .by_cases e':b=L+1
  .rw[e',jM,wO] at e;intro z;unfold LX at e;split at e
   .cases e
   .rename_i x _;by_cases c:(x:Int)=hs.getD i 0
    .rw[aq c] at e;cases e
    .rw[ap c] at e;cases e;exact c z.symm
  .rw[iO e'] at e;exact N.off b (by lia) i h e
 .by_cases e':b=L+1
  .rw[e',jM,wN,Hd.len];exact N.sl L (bf _)
  .rw[iO e'];exact N.sl b (by lia)
theorem hX.cut{M:Nat}{ns:List Int}(N:hX nr n g hs L ss ls ns)(h:M<=L):hX nr n g hs M ss ls ns:=
 ⟨⟨fun b hb=>N.r.tie b (by lia),fun b hb=>N.r.next b (by lia),fun z hz b hb=>N.r.fresh z hz b (by lia),fun b hb i a c d e f=>N.r.out b (by lia) i a c d e (by lia),fun b hb=>N.r.lt b (by lia)⟩,fun b hb=>N.nf b (by lia),N.hm,fun b hb=>N.off b (by lia),fun b hb=>N.sl b (by lia)⟩
theorem uP{H:Hp}{as:List Addr}{L M:Nat}{f:Nat->HO}(h:Holds H as L f)(le:M<=L):Holds H (as.take M) M f:=by
 refine⟨by rw[iF,h.1];lia,fun j hj=>?_⟩;have e:(as.take M).getD j 0=as.getD j 0:=by rw[bH,bH,zg hj]
 rw[e];exact h.2 j (by lia)
end
def Ha(H H':Hp)(v:V):Option (List Nat)->Prop
 |none=>v=.bR
 |some zs=>∃D,v=.ref D/\H D=none/\H' D=some (.lst (NV zs))
section
variable {P:Program} {w:World} {K:PySem.W.Frag} {mg:Str->Option Value} {base:Heap}
theorem Ss:aJ ["_law_pot_here","_law_stands","_law_log_here","_law_many"] ["_law_pot_here","_law_stands","_law_log_here"] (am Yd):=⟨rfl,rfl,rfl,by decide +kernel,rfl,by decide +kernel,by decide +kernel⟩
def OD:Sp:=fun vs H Q _=>∃ (p SA LA:Addr) (bJ bB:List Addr) (m L:Nat) (ss ls:Nat->List (Option Nat)),vs=[.ref p,.ref SA,.ref LA]/\aX H p/\cQ H SA LA bJ bB m L ss ls/\SA≠p/\LA≠p/\L<=160/\
 ∀ (t Yf Yg:Addr) (Yh Yi:List Addr) (M:Nat) (H':Hp),H' t=some (.tup [.ref Yf,.ref Yg])->cQ H' Yf Yg Yh Yi m M ss ls->M<=L->Yf≠p->Yg≠p->aP p H H'->aX H' p->Q (.ref t) H'
theorem Su{f:Addr}{fd:FuncData}(F:fW K "_law_cut" "_law_cut" Yd f fd)(B:Bl mg)(TK:cE P w K mg base bi 1 "_law_take" ["_law_pot_here","_law_many"] jJ):bC P w K mg base bi 2 f fd ["_law_pot_here","_law_stands","_law_log_here"] OD:=by
 refine F.ok Ss (fun vs H Q E h=>?_) (fun dE A outer s0 H vs Q E hr h=>?_)
 .obtain⟨p,SA,LA,bJ,bB,m,L,ss,ls,rfl,_⟩:=h;rfl
 .obtain⟨p,SA,LA,bJ,bB,m,L,ss,ls,rfl,hp,LG,Sv,Va,A4,q⟩:=h;have h1:cD 1 _:=hr.mono (by decide);refine⟨_,(ah (bA (aL rq (aB TK h1 aM (aa (pv 0) (aa ao ag))) ao (aG _)) (al (aH (eJ (aa (pv 1) (aa (pv 2) ag))))) aR)
   (ah (aK (i:=3) Ss.nd rfl (Or.inl rfl) (aB TK h1 aM (aa (pv 0) (aa (a_ cY (av aE (by rfl) B.len cL (aa (pv 2) ag)) ao) ag))))
   (al (aH (eJ (aa (kI m8 (pv 1) m6 (m7 (a_ cY (pv 3) ao))) (aa (kI m8 (pv 2) m6 (m7 (pv 3))) ag))))))),?_⟩
  refine⟨_,rfl,p,3,rfl,by decide,by decide,hp,fun d a b d0 d1 a0 b0 b1=>⟨_,_,rfl,rfl,_,rfl,?_⟩⟩;have Gk:aX (upd H p (.lst [.int a,.int b])) p:=aX.upd a0 b0 b1;have P0:aP p H (upd H p (.lst [.int a,.int b])):=aP.upd;have UY:=LG.eE P0 hp Sv Va;generalize upd H p (.lst [.int a,.int b])=H1 at *;refine bW (fun e=>?_) (fun e=>?_)
  .refine⟨_,rfl,_,rfl,by show 2<=sizeLine;decide,fun t ht=>?_⟩;have st:=aj (o:=.tup [.ref SA,.ref LA]) ht;exact q t SA LA bJ bB L _ af (UY.same st) (bf _) Sv Va (P0.trans (aP.of st)) (Gk.same st)
  .obtain⟨g1,g2,g3,g4,g5,g6⟩:=UY;have ll:(((bB.map V.ref).length:Nat):Int)=(L:Int):=by rw[aF,g4.1]
   refine⟨_,rfl,_,rfl,LA,_,rfl,.inl (aU.of g2),_,_,rfl,rfl,p,_,rfl,by lia,by lia,Gk,fun d2 a2 b2 e0 e1 c0 c1 c2=>?_⟩;have y6:aX (upd H1 p (.lst [.int a2,.int b2])) p:=aX.upd c0 c1 c2;have Gm:aP p H1 (upd H1 p (.lst [.int a2,.int b2])):=aP.upd;have Yj:=cQ.eE ⟨g1,g2,g3,g4,g5,g6⟩ Gm Gk Sv Va;generalize upd H1 p (.lst [.int a2,.int b2])=H2 at *;obtain⟨k,rfl⟩:∃k:Nat,(k:Int)=d2:=⟨d2.toNat,by lia⟩
   have kL:k<=L:=by lia
   obtain⟨g1,g2,g3,g4,g5,g6⟩:=Yj;refine⟨_,rfl,_,rfl,_,_,rfl,rfl,_,rfl,SA,_,rfl,aU.of g1,fun S2 hS2=>?_⟩;rw[show ((k:Int)+1)=((k+1:Nat):Int) by lia,yJ];have s3:=aj (o:=.lst ((bJ.take (k+1)).map V.ref)) hS2;refine⟨_,rfl,_,rfl,_,rfl,LA,_,rfl,aU.of (s3 _ _ g2),fun L2 UV=>?_⟩;rw[yJ];have s4:=aj (o:=.lst ((bB.take k).map V.ref)) UV;have hSn:(upd (upd H2 S2 (.lst ((bJ.take (k+1)).map V.ref))) L2 (.lst ((bB.take k).map V.ref))) S2=some (.lst ((bJ.take (k+1)).map V.ref)):=s4 _ _ af;have hLn:(upd (upd H2 S2 (.lst ((bJ.take (k+1)).map V.ref))) L2 (.lst ((bB.take k).map V.ref))) L2=some (.lst ((bB.take k).map V.ref)):=af;have s34:=s3.trans s4;have nS:S2≠p:=by rintro rfl;exact y6.some hS2
   have nL:L2≠p:=by rintro rfl;exact(y6.same s3).some UV
   generalize upd (upd H2 S2 (.lst ((bJ.take (k+1)).map V.ref))) L2 (.lst ((bB.take k).map V.ref))=H3 at *;refine⟨by show 2<=sizeLine;decide,fun t ht=>?_⟩;have st:=aj (o:=.tup [.ref S2,.ref L2]) ht;have s5:=s34.trans st;exact q t S2 L2 _ _ k _ af ⟨st _ _ hSn,st _ _ hLn,uP (g3.mono fun j _ e=>s5 _ _ e) (by lia),uP (g4.mono fun j _ e=>s5 _ _ e) kL,fun b hb=>g5 b (by lia),fun b hb=>g6 b (by lia)⟩ kL nS nL (P0.trans (Gm.trans (aP.of s5))) (y6.same s5)
theorem Yk:aJ ["_law_found","_law_due"] ["_law_found","_law_due"] (am Ye):=⟨rfl,rfl,rfl,by decide +kernel,rfl,by decide +kernel,by decide +kernel⟩
def OE:Sp:=fun vs H Q _=>∃ (a b:Addr) (os:List Nat),vs=[.ref a,.ref b]/\H a=some (.lst (NV os))/\H b=some (.lst (NV os))/\os.length<=200/\∀H',aI H H'->Q (.bl true) H'
theorem Sw{f:Addr}{fd:FuncData}(F:fW K "_law_is_list" "_law_is_list" Ye f fd)(B:Bl mg):bC P w K mg base bi 1 f fd ["_law_found","_law_due"] OE:=by
 refine F.ok Yk (fun vs H Q E h=>?_) (fun dE A outer s H vs Q E hr h=>?_)
 .obtain⟨a,b,os,rfl,_⟩:=h;rfl
 .obtain⟨a,b,os,rfl,ha,hb,ol,q⟩:=h;refine'⟨_,(ah (bA (PW.pt (pB (eI (dA (av eX (by rfl) B.DV j7 (aa (pv 0) (aa (fK (v:=.ty "list") rfl B.lst uX rfl) ag))))) (mB (aL (Kj (d:=0) hr.u) (pv 0) (pv 1) (aG _))))) (al (aH g7)) aR)
   (al (aH (av (uv rfl) (by rfl) B.all PyProof.Rows.boot_all (aa ?c1 ag))))),?_⟩
  case c1=>
   refine' cm (g:=(bo 0)) (te:=(Et (PD (MX K) (bx (aV 0) (bx (tC (.ty "int")) hE))) (La (PD (MX K) (bx (aV 0) (bx (tC (.ty "bool")) hE)))))) (NB:=["_law_one"]) (src:=[none]) (bY (by kernel_rfl)) rfl (b_ (pv 0)) ?g ?t ?e;case g=>exact fun cl C s₃ H₃ fp=>(au (i:=0) OC rfl (Or.inl rfl) (Or.inr rfl))
   case t=>exact fun cl C s₃ H₃ fp=>eQ
   case e=>exact fun cl C s₃ H₃ fp=>(f_ (av eX (by rfl) B.DV j7 (aa (pv 0) (aa (fK (v:=.ty "int") rfl B.int mV rfl) ag))) (gO (z9 (av eX (by rfl) B.DV j7 (aa (pv 0) (aa (fK (v:=.ty "bool") rfl B.bool uY rfl) ag))))))
  refine⟨_,rfl,_,_,_,.type "list",true,rfl,⟨rfl,lX⟩,.of (.lst ha),true,rfl,?_⟩;refine bW (fun e=>absurd e (by decide)) (fun _=>?_);refine⟨_,rfl,_,rfl,a,b,_,_,rfl,rfl,aU.of ha,aU.of hb,rfl,G_,_,rfl,?_⟩;refine bW (fun e=>absurd e (by decide)) (fun _=>?_);refine⟨_,rfl,a,rfl,⟨_,aU.of ha⟩,fun D hD=>?_⟩;refine Ci os (fun (x:Nat)=>V.int (x:Int)) (fun _=>V.bl true) (fun σ=>∃x,σ=[x]) ha hD (by lia) ⟨_,rfl⟩ ?_ ?_
  .rintro x σ H2 R Kf hx ⟨x',rfl⟩ sm kk;refine⟨_,rfl,_,_,_,.type "int",true,rfl,⟨rfl,iK⟩,.of (.int _),true,rfl,?_⟩;exact lW ⟨_,rfl,_,_,_,.type "int",false,rfl,⟨rfl,hU⟩,.of (.int _),false,rfl,kk _ _ ⟨_,rfl⟩ (aI.refl _)⟩
  .intro H2 sm jj;have e0:(os.map fun _=>V.bl true)=(os.map fun _=>true).map V.bl:=by rw[fV];rfl
   rw[e0] at jj;refine⟨D,_,rfl,aU.of jj,?_⟩;have e:(os.map fun _=>true).all id=true:=by
    rw[ie];intro x yY;obtain⟨_,_,rfl⟩:=bO.mp yY;rfl
   rw[e];exact q _ sm
theorem yK:aJ ["_law_pot_here","_law_outs","_law_fars_here","_law_homes","_law_stand","_law_sort","_law_stands","_law_log_here","_law_beat","_law_order_here"] ["_law_pot_here","_law_outs","_law_fars_here","_law_homes","_law_stand","_law_sort"] (am OB):=⟨rfl,rfl,rfl,by decide +kernel,rfl,by decide +kernel,by decide +kernel⟩
def A5:Sp:=fun vs H Q _=>∃ (p O r a S:Addr) (as ds:List Addr) (n:Nat) (g:Nat->List Nat) (hs:List Int) (s:List (Option Nat)) (so:Int),vs=[.ref p,.ref O,.ref r,.ref a,.ref S,.int so]/\(0<=so/\so<=2)/\aX H p/\tQ as n p/\fR H O as n g/\fk H r ds n g/\fE n g/\H a=some (.tup (HV hs))/\H S=some (.tup (SV s))/\s.length=hs.length/\s.length<=16/\eM n g s/\R8 n hs s/\
 ∀ (t SA LA:Addr) (bJ bB:List Addr) (L:Nat) (ss ls:Nat->List (Option Nat)) (H':Hp),H' t=some (.tup [.ref SA,.ref LA])->cQ H' SA LA bJ bB s.length L ss ls->hX (decide (so=0)) n g hs L ss ls []->L<=160->aP p H H'->aX H' p->H SA=none->H LA=none->Q (.ref t) H'
theorem OG{f:Addr}{fd:FuncData}(F:fW K "_law_log" "_law_log" OB f fd)(B:Bl mg)(OR:cE P w K mg base bi 3 "_law_order" ["_law_pot_here","_law_fars_here","_law_homes","_law_stand","_law_sort"] OA)(BY:cE P w K mg base bi 2 "_law_by_order" ["_law_outs","_law_fars_here","_law_homes","_law_stand","_law_order_here"] Oq)(BE:cE P w K mg base bi 1 "_law_behind" ["_law_homes","_law_stand","_law_gone"] Gu):
  bC P w K mg base bi 4 f fd ["_law_pot_here","_law_outs","_law_fars_here","_law_homes","_law_stand","_law_sort"] A5:=by
 refine F.ok yK (fun vs H Q E h=>?_) (fun dE A outer s0 H vs Q E hr h=>?_)
 .obtain⟨p,O,r,a,S,as,ds,n,g,hs,s,so,rfl,_⟩:=h;rfl
 .obtain⟨p,O,r,a,S,as,ds,n,g,hs,s,so,rfl,U_,hp,qb,OF,FR,G,ha,hS,sl,HZ,R,HM,q⟩:=h;have h1:cD 1 _:=hr.mono (by decide);have h3:cD 3 _:=hr;have h2:cD 2 _:=hr.mono (by decide);have Sv:S≠p:=by rintro rfl;obtain⟨u,v,e,_⟩:=hp;rw[e] at hS;cases hS
  have Yl:a≠p:=by rintro rfl;obtain⟨u,v,e,_⟩:=hp;rw[e] at ha;cases ha
  refine'⟨_,(ah (aK (i:=6) yK.nd rfl (Or.inl rfl) (cZ (aa (pv 4) ag)))
   (ah (aK (i:=7) yK.nd rfl (Or.inl rfl) (cZ ag))
   (ah (cT dR rfl (cq rfl B.range (aa (a_ jA ao (a_ ik ao (cr h9 (by rfl) B.int mV (aa (cy rq (pv 5) ao (aG _)) ag)))) ag)) (au (i:=8) yK.nd rfl (Or.inl rfl))
    (al (bA (aL (E8 (e:=vO) hr.u) ?c1 (cZ ag) (aG _)) (ah (aK (i:=9) yK.nd rfl (Or.inl rfl) (aB OR h3 aM (aa (pv 0) (aa (pv 2) (aa (pv 3) (aa (az aA (pv 6) (jV gQ ao) (fun _ _=>rfl)) (aa (pv 5) ag)))))))
     (ah (cg (im h_ j_ j8 dg (pv 7) (aa (aB BY h2 aM (aa (pv 1) (aa (pv 2) (aa (pv 3) (aa (az aA (pv 6) (jV gQ ao) (fun _ _=>rfl)) (aa (pv 9) ag)))))) ag)))
     (al (cg (im h_ j_ j8 dg (pv 6) (aa (aB BE h1 aM (aa (pv 3) (aa (az aA (pv 6) (jV gQ ao) (fun _ _=>rfl)) (aa (az aA (pv 7) (jV gQ ao) (fun _ _=>rfl)) ag)))) ag)))))) aR)))
   (al (aH (eJ (aa (pv 6) (aa (pv 7) ag)))))))),?_⟩
  case c1=>
   refine' cm (g:=(bo 0)) (tt:=(jW (iA (fun x y H Q=>y=.bR/\Q (.bl (!decide (x=.bR))) H) (aV 0) (tC .bR)))) (te:=(aV 0)) (NB:=["_law_house"]) (src:=[none]) (bY (by kernel_rfl)) rfl (EB (az aA (pv 6) (jV gQ ao) (fun _ _=>rfl))) ?g ?t ?e;case g=>exact fun cl C s₃ H₃ fp=>(au (i:=0) G9 rfl (Or.inl rfl) (Or.inr rfl))
   case t=>exact fun cl C s₃ H₃ fp=>eR (aL vH (pv 0) cS (aG _))
   case e=>exact fun cl C s₃ H₃ fp=>(pv 0)
  refine⟨_,rfl,by show 1<=sizeLine;decide,fun SA Sx=>⟨by show 0<=sizeLine;decide,fun LA Ym=>?_⟩⟩;have Yn:SA≠LA:=ai af Ym;have OH:H LA=none:=(aj Sx).free Ym;have Ot:=(aj (o:=.lst [.ref S]) Sx).trans (aj (o:=.lst []) Ym);have OI:SA≠p:=by rintro rfl;exact hp.some Sx
  have OJ:LA≠p:=by rintro rfl;exact hp.some OH
  let J:Nat->Hp->Prop:=fun i Hc=>aP p H Hc/\aX Hc p/\∃bJ bB L ss ls,L<=i/\cQ Hc SA LA bJ bB s.length L ss ls/\eM n g (ss L)/\hX (decide (so=0)) n g hs L ss ls []
  have J0:J 0 (upd (upd H SA (.lst [.ref S])) LA (.lst [])):=by
   refine⟨aP.of Ot,hp.same Ot,[S],[],0,fun _=>s,fun _=>[],bf _,⟨by rw[ak Yn];exact af,af,⟨rfl,fun j hj=>?_⟩,Holds.nil,fun b _=>rfl,fun b hb=>absurd hb (by lia)⟩,R,hX.start HM R sl⟩;have:j=0:=by lia
   subst this;exact Ot _ _ hS
  have N1:(160-120*(if decide (so > 0)=true then 1 else 0):Int).toNat<=160:=by split <;> lia
  refine⟨_,rfl,_,_,rfl,rfl,.inr ⟨_,rfl,_,_,rfl,rfl,.inl ⟨by decide,by decide⟩,_,_,rfl,rfl,_,rfl,?_,?_,df (lo:=0) (fun i σ Hc=>(∃v8 v9,σ=[some (.ref p),some (.ref O),some (.ref r),some (.ref a),some (.ref S),some (.int so),some (.ref SA),some (.ref LA),v8,v9])/\J i Hc) ⟨⟨_,_,rfl⟩,J0⟩ ?_ ?_⟩⟩
  .split <;> lia
  .split <;> lia
  .rintro i σ Hc hi0 ⟨⟨v8,v9,rfl⟩,sc,pc,bJ,bB,L,ss,ls,hL,LG,RC,LN⟩;have hi:i<160:=bT hi0 N1;obtain⟨g1,g2,g3,g4,g5,g6⟩:=LG;have LG:cQ Hc SA LA bJ bB s.length L ss ls:=⟨g1,g2,g3,g4,g5,g6⟩
   have sli:(ss L).length=s.length:=g5 L (bf _);have hT:=g3.2 L (by lia);refine⟨_,rfl,_,rfl,SA,_,_,_,rfl,rfl,aU.of g1,kW g3.1,_,rfl,⟨_,cK.of hT⟩,fun D hD=>?_⟩;refine uO (K:=K) (xs:=SV (ss L)) (fun j ys σ H3=>(∃b,σ=[b])/\ys.length<=j/\aI Hc H3/\H3 D=some (.lst ys)) ⟨⟨_,rfl⟩,bf _,aj hD,af⟩ (fun j ys σ H3 _ z=>cK.of (z.2.2.1 _ _ hT)) ?_ ?_
   .rintro j x ys σ H3 Kt Kf hx ⟨⟨b,rfl⟩,yl,sm,jY⟩ kt kf;have hj:=(cI.mp hx).1;rw[aF] at hj;refine⟨_,rfl,rfl,_,rfl,?_⟩;refine bW (fun e=>?_) (fun e=>kf _ _ ⟨⟨_,rfl⟩,by lia,sm,jY⟩);exact⟨_,rfl,kt _ _ _ jY (gu yl (bT (show j<17 by lia) (by decide))) ⟨⟨_,rfl⟩,by rw[cu,zq];lia,eT.cG sm hD,af⟩⟩
   rintro ys σ H3 ⟨_,_,sm,jY⟩;dsimp only;refine⟨by show 0<=sizeLine;decide,fun E1 P7=>?_⟩;have s3:=sm.trans (aj (o:=.lst []) P7);have uB:=aj (o:=.lst []) P7 _ _ jY;refine⟨D,E1,_,[],rfl,rfl,aU.of uB,aU.of af,fun i h1 h2=>absurd h2 (by simp),_,rfl,?_⟩;have LG3:=LG.same s3;have Vb:=sc.trans (aP.of s3);have Yo:=pc.same s3;generalize upd H3 E1 (.lst [])=H4 at *;refine bW (fun _=>?_) (fun _=>⟨⟨_,_,rfl⟩,Vb,Yo,bJ,bB,L,ss,ls,by lia,LG3,RC,LN⟩);obtain⟨g1,g2,g3,g4,g5,g6⟩:=LG3;refine⟨_,rfl,_,rfl,_,rfl,_,rfl,_,rfl,SA,_,_,_,rfl,rfl,aU.of g1,kW g3.1,_,rfl,p,r,a,bJ.getD L 0,ds,n,g,hs,ss L,so,rfl,Yo,FR.eE Vb hp,Vb _ _ ha Yl,g3.2 L (by lia),by lia,by lia,RC,HM.1,U_,fun Do us Hq sq pq nDo Wx op pw=>?_⟩;have Vc:=Vb.trans sq;have LGq:=cQ.eE ⟨g1,g2,g3,g4,g5,g6⟩ sq Yo OI OJ;obtain⟨g1,g2,g3,g4,g5,g6⟩:=LGq;refine⟨_,rfl,.inl ⟨rfl,_,aU.of g2⟩,_,rfl,_,rfl,_,rfl,_,rfl,_,rfl,SA,_,_,_,rfl,rfl,aU.of g1,kW g3.1,_,rfl,O,r,a,bJ.getD L 0,Do,as,ds,n,g,hs,ss L,us,decide (so=0),rfl,OF.eE Vc hp qb,FR.eE Vc hp,G,Vc _ _ ha Yl,g3.2 L (by lia),Wx,op,pw,by lia,by lia,RC,HM.1,fun t gs H5 s5' ht Hd nf=>?_⟩;have s5:=aP.of (p:=p) s5';have p5:=pq.same s5';have gl:gs.length=s.length:=by rw[Hd.len];exact sli
   have OK:=s5 _ _ g2 OJ;refine⟨LA,_,_,rfl,rfl,OK,by rw[aF,g4.1];exact bT (show L<161 by lia) (by decide),?_⟩;have DX:aP p H (upd H5 LA (.lst (bB.map V.ref++[.ref t]))):=dJ (Vc.trans s5) OH;have p6:aX (upd H5 LA (.lst (bB.map V.ref++[.ref t]))) p:=by obtain⟨x,y,e,z⟩:=p5;exact⟨x,y,by rw[ak OJ.symm];exact e,z⟩
   have kt6:sI Hq (upd H5 LA (.lst (bB.map V.ref++[.ref t]))):=(sI.ofE s5 pq).trans (sI.upd OK);have P6:(upd H5 LA (.lst (bB.map V.ref++[.ref t]))) SA=some (.lst (bJ.map V.ref)):=by rw[ak Yn];exact s5 _ _ g1 OI
   have hL6:(upd H5 LA (.lst (bB.map V.ref++[.ref t]))) LA=some (.lst ((bB++[t]).map V.ref)):=by rw[af,bK];rfl
   have Vd:(upd H5 LA (.lst (bB.map V.ref++[.ref t]))) t=some (.tup (SV gs)):=sI.upd OK _ _ ht;generalize upd H5 LA (.lst (bB.map V.ref++[.ref t]))=H6 at *;have ll:(bB++[t]).length=L+1:=by rw[cu,g4.1];rfl
   have Sy:fT ((bB++[t]).map V.ref) (-1)=some (.ref t):=by rw[kW ll,bD g4.1,aq rfl]
   refine⟨_,rfl,.inl ⟨rfl,_,aU.of P6⟩,_,rfl,_,rfl,_,rfl,SA,_,_,_,rfl,rfl,aU.of P6,kW g3.1,_,rfl,_,rfl,LA,_,_,_,rfl,rfl,aU.of hL6,Sy,a,t,_,hs,gs,rfl,DX _ _ ha Yl,Vd,by lia,by lia,fun r2 H7 s7 PM=>?_⟩;have Ve:=s7 _ _ P6;refine⟨SA,_,_,rfl,rfl,Ve,by rw[aF,g3.1];exact bT (show L+1<162 by lia) (by decide),?_⟩;have Ox:aP p H (upd H7 SA (.lst (bJ.map V.ref++[.ref r2]))):=dJ (DX.trans (aP.of s7)) Sx;have p8:aX (upd H7 SA (.lst (bJ.map V.ref++[.ref r2]))) p:=by obtain⟨x,y,e,z⟩:=p6.same s7;exact⟨x,y,by rw[ak OI.symm];exact e,z⟩
   have kt8:sI Hq (upd H7 SA (.lst (bJ.map V.ref++[.ref r2]))):=(kt6.trans (sI.of s7)).trans (sI.upd Ve);have X0:(upd H7 SA (.lst (bJ.map V.ref++[.ref r2]))) SA=some (.lst ((bJ++[r2]).map V.ref)):=by rw[af,bK];rfl
   have hL8:(upd H7 SA (.lst (bJ.map V.ref++[.ref r2]))) LA=some (.lst ((bB++[t]).map V.ref)):=by rw[ak Yn.symm];exact s7 _ _ hL6
   have ht8:(upd H7 SA (.lst (bJ.map V.ref++[.ref r2]))) t=some (.tup (SV gs)):=sI.upd Ve _ _ (s7 _ _ Vd);have hr8:(upd H7 SA (.lst (bJ.map V.ref++[.ref r2]))) r2=some (.tup (SV (bh hs gs))):=sI.upd Ve _ _ PM;generalize upd H7 SA (.lst (bJ.map V.ref++[.ref r2]))=H8 at *;have mv:=Hd.moves G RC;have R5:eM n g (bh hs gs):=Hd.right G RC wN (fun i=>LZ i);have bl:(bh hs gs).length=s.length:=by rw[wN];exact gl
   exact⟨⟨_,_,rfl⟩,Ox,p8,_,_,L+1,_,_,by lia,cQ.push ⟨g1,g2,g3,g4,g5,g6⟩ kt8 X0 hL8 ht8 hr8 bl mv,by rw[jM];exact R5,LN.push G RC Hd nf⟩
  .rintro σ Hc ⟨⟨v8,v9,rfl⟩,sc,pc,bJ,bB,L,ss,ls,hL,LG,RC,LN⟩;refine⟨_,rfl,_,rfl,by show 2<=sizeLine;decide,fun t ht=>?_⟩;have st:=aj (o:=.tup [.ref SA,.ref LA]) ht;exact q t SA LA bJ bB L ss ls _ af (LG.same st) LN (bj hL N1) (sc.trans (aP.of st)) (pc.same st) Sx OH
end
theorem yL{hs:List Int}{ls:Nat->List (Option Nat)}{nx:Nat->Nat->Nat}{k b c:Nat}(h:k8 hs (ls b) c=true):wW hs ls nx (k+1) b c=some [c]:=aq h
theorem yM{hs:List Int}{ls:Nat->List (Option Nat)}{nx:Nat->Nat->Nat}{k b c:Nat}(h:k8 hs (ls b) c≠true):wW hs ls nx (k+1) b c=(wW hs ls nx k (b+1) (nx (b+1) c)).map (c::·):=ap h
theorem yN{o:Option (List Nat)}{zs:List Nat}{c:Nat}:(o.map (c::·)).map (zs++·)=o.map ((zs++[c])++·):=by
 cases o with
 |none=>rfl
 |some l=>show some (zs++(c::l))=some ((zs++[c])++l);rw[jP];rfl
theorem yO{hs:List Int}{l:List (Option Nat)}{c:Nat}:decide (j6 (l.getD c none)=V.int (hs.getD c 0))=k8 hs l c:=by
 unfold k8;cases l.getD c none with
 |none=>exact dk fun z=>by cases z
 |some o=>exact qo
section
variable {P:Program} {w:World} {K:PySem.W.Frag} {mg:Str->Option Value} {base:Heap}
theorem DN:aJ ["_law_outs","_law_fars_here","_law_homes","_law_stands","_law_log_here","_law_i","_law_beat","_law_found","_law_one","_law_at","_law_stand"] ["_law_outs","_law_fars_here","_law_homes","_law_stands","_law_log_here","_law_i","_law_beat"] (am Yc):=⟨rfl,rfl,rfl,by decide +kernel,rfl,by decide +kernel,by decide +kernel⟩
def OL:Sp:=fun vs H Q _=>∃ (nr:Bool) (O r a SA LA:Addr) (as ds bJ bB:List Addr) (n L:Nat) (g:Nat->List Nat) (hs ns:List Int) (ss ls:Nat->List (Option Nat)) (i b:Nat),vs=[.ref O,.ref r,.ref a,.ref SA,.ref LA,.int i,.int b]/\fR H O as n g/\fk H r ds n g/\fE n g/\gI n (bN n g)/\H a=some (.tup (HV hs))/\hs.length<=16/\cQ H SA LA bJ bB hs.length L ss ls/\hX nr n g hs L ss ls ns/\L<=160/\i<hs.length/\b<L/\
 ∀ (v:V) (H':Hp),aI H H'->Ha H H' v (H_ n g hs L ss ls b i)->Q v H'
theorem Sz{f:Addr}{fd:FuncData}(F:fW K "_law_blame" "_law_blame" Yc f fd)(B:Bl mg)(LE:cE P w K mg base bi 1 "_law_is_led" ["_law_fars_here","_law_homes","_law_stand","_law_gone","_law_i"] GX)(TR:cE P w K mg base bi 1 "_law_taker" ["_law_stand","_law_gone","_law_i","_law_house"] Om)(GO:cE P w K mg base bi 1 "_law_goods" ["_law_outs","_law_fars_here","_law_home","_law_house"] Kh):bC P w K mg base bi 2 f fd ["_law_outs","_law_fars_here","_law_homes","_law_stands","_law_log_here","_law_i","_law_beat"] OL:=by
 refine F.ok DN (fun vs H Q E h=>?_) (fun dE A outer s0 H vs Q E hr h=>?_)
 .obtain⟨nr,O,r,a,SA,LA,as,ds,bJ,bB,n,L,g,hs,ns,ss,ls,i,b,rfl,_⟩:=h;rfl
 .obtain⟨nr,O,r,a,SA,LA,as,ds,bJ,bB,n,L,g,hs,ns,ss,ls,i,b,rfl,OF,FR,G,Fi,ha,A6,LG,LN,A4,hi,hb,q⟩:=h;have h1:cD 1 _:=hr.mono (by decide);refine⟨_,(ah (bA (eI (dA (aB LE h1 aM (aa (pv 1) (aa (pv 2) (aa (az aA (pv 3) (pv 6) (fun _ _=>rfl)) (aa (az aA (pv 4) (pv 6) (fun _ _=>rfl)) (aa (pv 5) ag)))))))) (al (aH cS)) aR)
   (ah (aK (i:=7) DN.nd rfl (Or.inl rfl) (cZ ag))
   (ah (aK (i:=8) DN.nd rfl (Or.inl rfl) (pv 5))
   (ah (cT dR rfl (oG rfl B.range (aa (pv 6) (aa (av aE (by rfl) B.len cL (aa (pv 4) ag)) ag))) (au (i:=9) DN.nd rfl (Or.inl rfl))
    (ah (aK (i:=10) DN.nd rfl (Or.inl rfl) (az aA (pv 3) (pv 9) (fun _ _=>rfl)))
    (ah (bA (dA (aB LE h1 aM (aa (pv 1) (aa (pv 2) (aa (pv 10) (aa (az aA (pv 4) (pv 9) (fun _ _=>rfl)) (aa (pv 8) ag))))))) (al (aK (i:=8) DN.nd rfl (Or.inl rfl) (aB TR h1 aM (aa (pv 10) (aa (az aA (pv 4) (pv 9) (fun _ _=>rfl)) (aa (pv 8) (aa (az aA (aB GO h1 aM (aa (pv 0) (aa (pv 1) (aa (az aZ (pv 2) (pv 8) (fun _ _=>rfl)) (aa (az aZ (pv 10) (pv 8) (fun _ _=>rfl)) ag))))) ao (fun _ _=>rfl)) ag))))))) aR)
    (ah (cg (im h_ j_ j8 dg (pv 7) (aa (pv 8) ag)))
    (al (bA (aL eN (az aZ (az aA (pv 4) (pv 9) (fun _ _=>rfl)) (pv 8) (fun _ _=>rfl)) (az aZ (pv 2) (pv 8) (fun _ _=>rfl)) (aG _)) (al (aH (pv 7))) aR))))))
   (al (aH cS)))))),?_⟩
  obtain⟨g1,g2,g3,g4,g5,g6⟩:=LG;have LG:cQ H SA LA bJ bB hs.length L ss ls:=⟨g1,g2,g3,g4,g5,g6⟩
  have Hdl:∀c,c<L->dw g (ss c) (ls c):=LN.r.tie;have P2:∀c,c<=L->∀i h,(ss c).getD i none=some h->h<n:=fun c hc=>LN.r.lt c hc;refine⟨_,rfl,_,rfl,_,rfl,_,rfl,SA,_,_,_,rfl,rfl,aU.of g1,fj (by rw[g3.1];lia),_,rfl,_,rfl,LA,_,_,_,rfl,rfl,aU.of g2,fj (by rw[g4.1];exact hb),_,rfl,r,a,bJ.getD b 0,bB.getD b 0,ds,n,g,hs,ss b,ls b,i,rfl,FR,ha,g3.2 b (by lia),g4.2 b hb,g5 b (by lia),Hdl b hb,G,P2 b (by lia),LN.hm,hi,_,rfl,?_⟩;unfold H_ at q;refine bW (fun e=>?_) (fun e=>?_)
  .have e':ix n g hs (ss b) (ls b) i=false:=by simpa using e
   rw[ap (fun z=>by rw[e'] at z;cases z.2)] at q;exact q .bR H (aI.refl _) rfl
  have e':ix n g hs (ss b) (ls b) i=true:=by simpa using e
  rw[aq ⟨hb,e'⟩] at q;refine⟨by show 0<=sizeLine;decide,fun Fo Yp=>?_⟩;have sF:=aj (o:=.lst []) Yp;have P1:(((bB.map V.ref).length:Nat):Int)=(L:Int):=by rw[aF,g4.1]
  refine⟨_,rfl,_,rfl,_,rfl,LA,_,rfl,.inl (aU.of (sF _ _ g2)),b,L,by rw[P1],⟨by lia,by lia,by lia,by lia⟩,?_⟩;have en:((L:Int)-(b:Int)).toNat=L-b:=by lia
  rw[en];refine df (n:=L-b) (lo:=(b:Int)) (fun k σ Hc=>∃ (one:Nat) (zs:List Nat),(∃v9 HY,σ=[some (.ref O),some (.ref r),some (.ref a),some (.ref SA),some (.ref LA),some (.int i),some (.int b),some (.ref Fo),some (.int one),v9,HY])/\aI H Hc/\Hc Fo=some (.lst (NV zs))/\zs.length=k/\one<hs.length/\
    wW hs ls (kZ n g hs ss ls) (L-b) b (kZ n g hs ss ls b i)=(wW hs ls (kZ n g hs ss ls) (L-b-k) (b+k) (kZ n g hs ss ls (b+k) one)).map (zs++·)) ⟨i,[],⟨_,_,rfl⟩,sF,af,rfl,hi,?_⟩ ?_ ?_
  .show _=(wW hs ls (kZ n g hs ss ls) (L-b) b (kZ n g hs ss ls b i)).map ([]++·);cases wW hs ls (kZ n g hs ss ls) (L-b) b (kZ n g hs ss ls b i) <;> rfl
  .rintro k σ Hc hk ⟨one,zs,⟨v9,HY,rfl⟩,sc,hFc,zl,ol,ch⟩;have Ic:b+k<L:=by lia
   have Yq:=LG.same sc;obtain⟨c1,c2,c3,c4,c5,c6⟩:=Yq;have Vf:(b:Int)+(k:Int)=((b+k:Nat):Int):=by lia
   have rS:fT (bJ.map V.ref) ((b:Int)+(k:Int))=some (.ref (bJ.getD (b+k) 0)):=by rw[Vf];exact fj (by rw[c3.1];lia)
   have rL:fT (bB.map V.ref) ((b:Int)+(k:Int))=some (.ref (bB.getD (b+k) 0)):=by rw[Vf];exact fj (by rw[c4.1];exact Ic)
   have Yr:=c3.2 (b+k) (by lia);have hLb:=c4.2 (b+k) Ic;have Hd:=Hdl _ Ic;refine⟨_,rfl,_,rfl,SA,_,_,_,rfl,rfl,aU.of c1,rS,?_⟩;refine⟨_,rfl,_,rfl,_,rfl,_,rfl,_,rfl,LA,_,_,_,rfl,rfl,aU.of c2,rL,_,rfl,r,a,bJ.getD (b+k) 0,bB.getD (b+k) 0,ds,n,g,hs,ss (b+k),ls (b+k),one,rfl,FR.same sc,sc _ _ ha,Yr,hLb,g5 _ (by lia),Hd,G,P2 _ (by lia),LN.hm,ol,_,rfl,?_⟩;refine LV (fun σ Hx=>σ=[some (.ref O),some (.ref r),some (.ref a),some (.ref SA),some (.ref LA),some (.int i),some (.int b),some (.ref Fo),some (.int ((kZ n g hs ss ls (b+k) one:Nat):Int)),some (.int ((b:Int)+(k:Int))),some (.ref (bJ.getD (b+k) 0))]/\aI Hc Hx/\kZ n g hs ss ls (b+k) one<hs.length) ?_ (fun led kc=>?_) (fun nl=>?_)
   .rintro σ Hx ⟨rfl,sx,nl⟩;have hF1:=sx _ _ hFc;refine⟨_,rfl,.inl ⟨rfl,_,aU.of hF1⟩,_,rfl,Fo,_,_,rfl,rfl,hF1,by rw[aF,zl];exact bT (show k<161 by lia) (by decide),?_⟩;have s2:aI H (upd Hx Fo (.lst (NV zs++[.int ((kZ n g hs ss ls (b+k) one:Nat):Int)]))):=eT.cG (sc.trans sx) Yp;have hF2:(upd Hx Fo (.lst (NV zs++[.int ((kZ n g hs ss ls (b+k) one:Nat):Int)]))) Fo=some (.lst (NV (zs++[kZ n g hs ss ls (b+k) one]))):=by rw[af,je]
    generalize upd Hx Fo (.lst (NV zs++[.int ((kZ n g hs ss ls (b+k) one:Nat):Int)]))=H2 at *;generalize kZ n g hs ss ls (b+k) one=SB at *;have Yj:=LG.same s2;obtain⟨d1,d2,d3,d4,d5,d6⟩:=Yj;have lcl:(ls (b+k)).length=hs.length:=by rw[Hd.len];exact g5 _ (by lia)
    refine⟨_,rfl,_,rfl,LA,_,_,_,rfl,rfl,aU.of d2,rL,_,rfl,bB.getD (b+k) 0,_,_,_,rfl,rfl,cK.of (d4.2 (b+k) Ic),dW (by lia),_,rfl,_,rfl,a,_,_,_,rfl,rfl,cK.of (s2 _ _ ha),iN nl,lC,_,rfl,?_⟩;rw[yO];rw[show L-b-k=(L-b-(k+1))+1 by lia] at ch;refine bW (fun hm=>?_) (fun hm=>?_)
    .rw[yL hm] at ch;rw[ch] at q;exact⟨_,rfl,q _ H2 s2 ⟨Fo,rfl,Yp,hF2⟩⟩
    .refine⟨SB,zs++[SB],⟨_,_,rfl⟩,s2,hF2,by rw[cu,zl];rfl,nl,?_⟩;rw[yM hm,yN] at ch;exact ch
   .obtain⟨h,o',o,l,j,f1,f2,f3,f4,f5,f6,f7,f8,f9,_⟩:=LN.taker Fi Ic led;obtain⟨kk,U8,ek,D5⟩:=lD LN.hm ol;have pS:fT (SV (ss (b+k))) (one:Int)=some (.int (h:Int)):=by rw[dW (by rw[g5 _ (by lia)];exact ol),f1];rfl
    have jl:j<hs.length:=by have:=(aT f7).1;rw[g5 _ (by lia)] at this;exact this
    have Ov:(g h).filter (fun o=>decide (far (bN n g) o kk<far (bN n g) h kk))=dX n g hs one h:=by unfold dX dH;rw[D5]
    refine⟨_,rfl,_,rfl,_,rfl,LA,_,_,_,rfl,rfl,aU.of c2,rL,_,rfl,_,rfl,_,rfl,_,rfl,_,rfl,a,_,_,_,rfl,rfl,cK.of (sc _ _ ha),iN ol,_,rfl,_,rfl,bJ.getD (b+k) 0,_,_,_,rfl,rfl,cK.of Yr,pS,O,r,as,ds,n,g,kk,h,by rw[ek];rfl,OF.same sc,FR.same sc,G,U8,f4,fun D H6 s6 hD DW=>?_⟩;rw[Ov,f5] at DW;refine⟨D,_,_,_,rfl,rfl,aU.of DW,br (j:=0) rfl,bJ.getD (b+k) 0,bB.getD (b+k) 0,g,ss (b+k),ls (b+k),one,h,o,j,rfl,s6 _ _ Yr,s6 _ _ hLb,by rw[g5 _ (by lia)];exact A6,Hd,f1,f7,f8,fun H7 s7=>?_⟩;refine kc _ _ ⟨?_,s6.trans s7,by rw[f6];exact jl⟩;rw[f6];rfl
   .refine⟨?_,aI.refl _,?_⟩ <;> (unfold kZ;rw[ap nl])
    .rfl
    .exact ol
  .rintro σ Hc ⟨one,zs,⟨v9,HY,rfl⟩,sc,hFc,zl,ol,ch⟩;rw[show L-b-(L-b)=0 by lia] at ch;have e0:wW hs ls (kZ n g hs ss ls) (L-b) b (kZ n g hs ss ls b i)=none:=ch;rw[e0] at q;exact q .bR Hc sc rfl
end
open eT (eD NT o6 DA L9 Co o7 qG)
abbrev OM:Stmt:=gR 14
abbrev Ys:Stmt:=gR 2
abbrev Yt:Stmt:=gR 19
abbrev Yu:Stmt:=gR 20
abbrev Vg:Stmt:=gR 18
def uh(n:Nat)(g:Nat->List Nat):Prop:=∀h,h<n->fP n (bN n g) h=g h
theorem ON{n:Nat}{g:Nat->List Nat}(G:fE n g):uh n (gr n g):=by
 intro h hh;obtain⟨m,rfl⟩:∃m,n=m+1:=⟨n-1,by lia⟩
 have nh:¬ T (bN (m+1) (gr (m+1) g)) h h:=fun t=>((B_ G).lt h hh h (yz.mp t).2).2 rfl;unfold fP;have e0:(h+0) % (m+1)=h:=l9 hh;rw[uZ,cM,e0,zj (by simpa using nh),fV];show _=B9 (m+1) g h m;unfold B9;have e:((fun s=>(h+s) % (m+1)) ∘ Nat.succ)=fun s=>(h+(1+s)) % (m+1):=funext fun s=>by
  show (h+(s+1)) % (m+1)=_;rw[Nat.add_comm s 1]
 rw[e];refine List.filter_congr fun o _=>qT.mpr ?_;rw[yz];exact⟨fun z=>(iM G hh).mem_iff.mp z.2,fun z=>⟨hh,(iM G hh).mem_iff.mpr z⟩⟩
section
variable {P:Program} {w:World} {K:PySem.W.Frag} {mg:Str->Option Value} {base:Heap}
theorem Ma:aJ ["stand","handing","house","goes","letter"] ["stand","handing","house","goes"] (am OM):=⟨rfl,rfl,rfl,by decide +kernel,rfl,by decide +kernel,by decide +kernel⟩
def Hb:Sp:=fun vs H Q _=>∃ (S G:Addr) (g:Nat->List Nat) (s l:List (Option Nat)) (h o j:Nat),vs=[.ref S,.ref G,.int h,.int o]/\H S=some (.tup (SV s))/\H G=some (.tup (SV l))/\s.length<=16/\dw g s l/\s.getD j none=some h/\l.getD j none=some o/\Q (.int j) H
theorem OO{f:Addr}{fd:FuncData}(F:fW K "taker" "taker" OM f fd)(B:Bl mg):bC P w K mg base bi 1 f fd ["stand","handing","house","goes"] Hb:=by
 refine F.ok Ma (fun vs H Q E h=>?_) (fun dE A outer s0 H vs Q E hr h=>?_)
 .obtain⟨S,G,g,s,l,h,o,j,rfl,_⟩:=h;rfl
 .obtain⟨S,G,g,s,l,h,o,j,rfl,hS,hG,HZ,Hd,e1,e2,q⟩:=h;refine⟨_,(ah (cT dR rfl (cq rfl B.range (aa (av aE (by rfl) B.len cL (aa (pv 0) ag)) ag)) (au (i:=4) Ma.nd rfl (Or.inl rfl))
    (al (bA (PW.pt (vC (aL eN (az aZ (pv 0) (pv 4) (fun _ _=>rfl)) (pv 2) (aG _)) (qm (aL eN (az aZ (pv 1) (pv 4) (fun _ _=>rfl)) (pv 3) (aG _))))) (al (aH (pv 4))) aR)))
   (al (aH cS))),?_⟩
  have jl:=(aT e1).1;refine⟨_,rfl,S,_,rfl,.inr (cK.of hS),(s.length:Nat),by rw[aF],by lia,by lia,?_⟩;refine df (n:=s.length) (lo:=0) (fun k σ Hc=>(∃v,σ=[some (.ref S),some (.ref G),some (.int h),some (.int o),v])/\Hc=H/\k<=j) ⟨⟨_,rfl⟩,rfl,dG _⟩ ?_ ?_
  .rintro k σ Hc hk ⟨⟨v,rfl⟩,rfl,kj⟩;rw[gL];refine⟨_,rfl,_,rfl,S,_,_,_,rfl,rfl,cK.of hS,dW hk,_,rfl,lC,_,rfl,?_⟩;have d1:decide (j6 (s.getD k none)=V.int (h:Int))=decide (s.getD k none=some h):=wY (b:=some h);rw[d1];refine bW (fun a1=>?_) (fun a1=>?_)
   .refine⟨_,rfl,_,rfl,G,_,_,_,rfl,rfl,cK.of hG,dW (by rw[Hd.len];exact hk),_,rfl,lC,_,rfl,?_⟩;have d2:decide (j6 (l.getD k none)=V.int (o:Int))=decide (l.getD k none=some o):=wY (b:=some o);rw[d2];refine bW (fun a2=>?_) (fun a2=>?_)
    .have:=Hd.UW k j h o (bU a1) e1 (bU a2) e2;subst this;exact⟨_,rfl,q⟩
    .refine⟨⟨_,rfl⟩,rfl,?_⟩;rcases Nat.lt_or_eq_of_le kj with z|z
     .exact z
     .exact absurd (bE (by rw[z];exact e2)) a2
   .refine uI ⟨⟨_,rfl⟩,rfl,?_⟩;rcases Nat.lt_or_eq_of_le kj with z|z
    .exact z
    .exact absurd (bE (by rw[z];exact e1)) a1
  .rintro σ Hc ⟨_,_,kj⟩;exact absurd jl (by lia)
theorem OP:aJ ["net","homes","stand","handing","letter","house","goes"] ["net","homes","stand","handing","letter"] (am Ys):=⟨rfl,rfl,rfl,by decide +kernel,rfl,by decide +kernel,by decide +kernel⟩
def He(C:Addr):Sp:=fun vs H Q _=>∃ (Lp:Addr->Prop) (p a S G:Addr) (n:Nat) (g:Nat->List Nat) (hs:List Int) (s l:List (Option Nat)) (i:Nat),vs=[.ref p,.ref a,.ref S,.ref G,.int i]/\eD C H Lp p n (bN n g)/\H a=some (.tup (HV hs))/\H S=some (.tup (SV s))/\H G=some (.tup (SV l))/\s.length=hs.length/\dw g s l/\fE n g/\(∀i h,s.getD i none=some h->h<n)/\(∀h∈hs,0<=h/\h<n)/\i<hs.length/\Q (.bl (ix n g hs s l i)) H
theorem OQ{f C:Addr}{fd:FuncData}(F:fW K "is_led" "is_led" Ys f fd)(T:NT K mg C)(MF:o6 P w K mg base bi 5 C "far" ["self","one","other"] (o7 C)):bC P w K mg base bi 6 f fd ["net","homes","stand","handing","letter"] (He C):=by
 obtain⟨fF,fdF,mF,bF,GF⟩:=MF.ex;refine F.ok OP (fun vs H Q E h=>?_) (fun dE A outer s0 H vs Q E hr h=>?_)
 .obtain⟨Lp,p,a,S,G,n,g,hs,s,l,i,rfl,_⟩:=h;rfl
 .obtain⟨Lp,p,a,S,G,n,g,hs,s,l,i,rfl,N,ha,hS,hG,sl,Hd,Gd,P2,hm,hi,q⟩:=h;have h5:cD 5 _:=hr;refine⟨_,(ah (aK (i:=5) OP.nd rfl (Or.inl rfl) (az aZ (pv 2) (pv 4) (fun _ _=>rfl)))
   (ah (aK (i:=6) OP.nd rfl (Or.inl rfl) (az aZ (pv 3) (pv 4) (fun _ _=>rfl)))
   (ah (bA (PW.pt (pB (aL kG (pv 6) cS (aG _)) (mB (aL eN (pv 6) (pv 5) (aG _))))) (al (aH g7)) aR)
   (al (aH (cy Bn (jB (pv 0) T.cl mF GF h5 bF .nil aM (aa (pv 6) (aa (az aZ (pv 1) (pv 4) (fun _ _=>rfl)) ag))) (jB (pv 0) T.cl mF GF h5 bF .nil aM (aa (pv 5) (aa (az aZ (pv 1) (pv 4) (fun _ _=>rfl)) ag))) (aG _))))))),?_⟩
  have pS:fT (SV s) (i:Int)=some (j6 (s.getD i none)):=dW (by lia);have AX:fT (SV l) (i:Int)=some (j6 (l.getD i none)):=dW (by rw[Hd.len];lia);refine⟨_,rfl,_,rfl,S,_,_,_,rfl,rfl,cK.of hS,pS,?_⟩;refine⟨_,rfl,_,rfl,G,_,_,_,rfl,rfl,cK.of hG,AX,?_⟩;refine⟨_,rfl,rfl,_,rfl,?_⟩;cases es:s.getD i none with
  |none=>
   rw[Hd.bR i es];refine bW (fun _=>?_) (fun e=>absurd (bE rfl) e);have e2:ix n g hs s l i=false:=by unfold ix;rw[es]
   rw[e2] at q;exact lW q
  |some h=>
   obtain⟨o,eo,mo⟩:=Hd.tie i h es;rw[eo];have hn:=P2 i h es;obtain⟨on,one⟩:=Gd.lt h hn o mo;obtain⟨k,hk,ek,D5⟩:=lD hm hi;refine bW (fun e=>absurd (bU e) (by intro z;cases z)) (fun _=>?_);refine⟨_,rfl,_,rfl,rfl,_,rfl,?_⟩;refine bW (fun e=>absurd (gY (V.int.inj (bU e))) one) (fun _=>?_);obtain⟨dx,tl,ol,ds,hp,_⟩:=N.ob;have P8:fT (HV hs) (i:Int)=some (.int (k:Int)):=by rw[iN hi,ek]
   refine⟨_,rfl,p,dx,_,rfl,hp,DA _ _ _ _,_,rfl,_,rfl,_,rfl,a,_,_,_,rfl,rfl,cK.of ha,P8,Lp,p,n,bN n g,o,k,rfl,N,on,hk,?_⟩;refine⟨_,rfl,p,dx,_,rfl,hp,DA _ _ _ _,_,rfl,_,rfl,_,rfl,a,_,_,_,rfl,rfl,cK.of ha,P8,Lp,p,n,bN n g,h,k,rfl,N,hn,hk,?_⟩;refine⟨_,_,rfl,rfl,?_⟩;rw[k9 es eo] at q;unfold dH at q;rw[D5] at q;have e3:decide (((far (bN n g) h k:Nat):Int)<=((far (bN n g) o k:Nat):Int))=decide (far (bN n g) h k<=far (bN n g) o k):=qT.mpr (by lia);show Q (V.bl (decide (((far (bN n g) h k:Nat):Int)<=((far (bN n g) o k:Nat):Int)))) H;rw[e3];exact q
theorem SC:aJ ["net","homes","stand","handing","letter","house"] ["net","homes","stand","handing","letter"] (am Yt):=⟨rfl,rfl,rfl,by decide +kernel,rfl,by decide +kernel,by decide +kernel⟩
noncomputable def Hf(n:Nat)(g:Nat->List Nat)(hs:List Int)(ss ls:Nat->List (Option Nat))(b i:Nat):V:=if ix n g hs (ss b) (ls b) i=true then .int ((kZ n g hs ss ls b i:Nat):Int) else .bR
def Ku(C:Addr):Sp:=fun vs H Q _=>∃ (nr:Bool) (Lp:Addr->Prop) (p a S G:Addr) (n L:Nat) (g:Nat->List Nat) (hs ns:List Int) (ss ls:Nat->List (Option Nat)) (b i:Nat),vs=[.ref p,.ref a,.ref S,.ref G,.int i]/\eD C H Lp p n (bN n g)/\uh n g/\fE n g/\H a=some (.tup (HV hs))/\H S=some (.tup (SV (ss b)))/\H G=some (.tup (SV (ls b)))/\hX nr n g hs L ss ls ns/\b<L/\i<hs.length/\hs.length<=16/\∀H',aI H H'->Q (Hf n g hs ss ls b i) H'
theorem SD{f C:Addr}{fd:FuncData}(F:fW K "good_tie_taker" "good_tie_taker" Yt f fd)(T:NT K mg C)(IL:cE P w K mg base bi 6 "is_led" ["net","homes","stand","handing","letter"] (He C))(TA:cE P w K mg base bi 1 "taker" ["stand","handing","house","goes"] Hb)(MG:o6 P w K mg base bi 6 C "good" ["self","house","home"] (qG C)):bC P w K mg base bi 7 f fd ["net","homes","stand","handing","letter"] (Ku C):=by
 obtain⟨fG,fdG,mG,bG,GG⟩:=MG.ex;refine F.ok SC (fun vs H Q E h=>?_) (fun dE A outer s0 H vs Q E hr h=>?_)
 .obtain⟨nr,Lp,p,a,S,G,n,L,g,hs,ns,ss,ls,b,i,rfl,_⟩:=h;rfl
 .obtain⟨nr,Lp,p,a,S,G,n,L,g,hs,ns,ss,ls,b,i,rfl,N,Rn,Gd,ha,hS,hG,LN,hb,hi,A6,q⟩:=h;have h1:cD 1 _:=hr.mono (by decide);have h6:cD 6 _:=hr;refine⟨_,(ah (bA (eI (dA (aB IL h6 aM (aa (pv 0) (aa (pv 1) (aa (pv 2) (aa (pv 3) (aa (pv 4) ag)))))))) (al (aH cS)) aR)
   (ah (aK (i:=5) SC.nd rfl (Or.inl rfl) (az aZ (pv 2) (pv 4) (fun _ _=>rfl)))
   (al (aH (aB TA h1 aM (aa (pv 2) (aa (pv 3) (aa (pv 5) (aa (az aA (jB (pv 0) T.cl mG GG h6 bG .nil aM (aa (pv 5) (aa (az aZ (pv 1) (pv 4) (fun _ _=>rfl)) ag))) ao (fun _ _=>rfl)) ag))))))))),?_⟩
  have Hd:=LN.r.tie b hb;have sl:=LN.sl b (eC hb);refine⟨_,rfl,_,rfl,_,rfl,_,rfl,_,rfl,Lp,p,a,S,G,n,g,hs,ss b,ls b,i,rfl,N,ha,hS,hG,sl,Hd,Gd,LN.r.lt b (eC hb),LN.hm,hi,_,rfl,?_⟩;unfold Hf at q;refine bW (fun e=>?_) (fun e=>?_)
  .have e':ix n g hs (ss b) (ls b) i=false:=by simpa using e
   rw[ap (by rw[e'];decide)] at q;exact q H (aI.refl _)
  have led:ix n g hs (ss b) (ls b) i=true:=by simpa using e
  rw[aq led] at q;obtain⟨h,o',o,l,j,f1,f2,f3,f4,f5,f6,f7,f8,f9,_⟩:=LN.taker N.nC hb led;obtain⟨k,hk,ek,D5⟩:=lD LN.hm hi;have pS:fT (SV (ss b)) (i:Int)=some (.int (h:Int)):=by rw[dW (by lia),f1];rfl
  have P8:fT (HV hs) (i:Int)=some (.int (k:Int)):=by rw[iN hi,ek]
  obtain⟨dx,tl,ol,ds,hp,_⟩:=N.ob;refine⟨_,rfl,_,rfl,S,_,_,_,rfl,rfl,cK.of hS,pS,?_⟩;refine⟨_,rfl,_,rfl,_,rfl,_,rfl,p,dx,_,rfl,hp,L9 _ _ _ _,_,rfl,_,rfl,_,rfl,a,_,_,_,rfl,rfl,cK.of ha,P8,Lp,p,n,bN n g,h,k,rfl,N,f4,hk,fun D H1 s1 hD Lx=>?_⟩;have ge:Co n (bN n g) h k=o::l:=by
   unfold Co;rw[Rn h f4,<-f5];unfold dX dH;rw[D5]
  rw[ge] at Lx;refine⟨D,_,_,_,rfl,rfl,aU.of Lx,br (j:=0) rfl,S,G,g,ss b,ls b,h,o,j,rfl,s1 _ _ hS,s1 _ _ hG,by lia,Hd,f7,f8,?_⟩;rw[f6] at q;exact q H1 s1
end
open eT (eD NT o6 dv)
theorem _root_.L2.kM.not{lp:Pos}{q:Str}{Pt:Addr}{H:Hp}(t:kM lp q Pt H){b:Addr}{o:HO}(h:H b=some o)(n:∀ps,o≠.oq ps):b≠Pt:=by
 rintro rfl;rcases t with z|⟨c,z,_⟩ <;> · rw[h] at z;exact n _ (ba z)
theorem _root_.L2.kM.keep{lp:Pos}{q:Str}{Pt:Addr}{H H':Hp}(t:kM lp q Pt H)(e:∀b o,H b=some o->(b=Pt\/∃p,o=.ext p)->H' b=some o):kM lp q Pt H':=by
 rcases t with z|⟨c,z,y⟩
 .exact .inl (e _ _ z (.inl rfl))
 .exact .inr ⟨c,e _ _ z (.inl rfl),e _ _ y (.inr ⟨_,rfl⟩)⟩
theorem uQ{S:Addr->Prop}{h0:Heap}{H1 H:Hp}(n:∀a,S a->H1 a=none)(s:aI (jg S h0 H1) H):aI H1 (Cj S H):=fun b o e=>by
 have c:¬ S b:=fun z=>by rw[n b z] at e;cases e
 rw[ff c];exact s b o (by rw[bX c];exact e)
theorem Hg{S:Addr->Prop}{h0:Heap}{H H':Hp}(n:∀a,S a->H a=some (jZ h0 a))(s:aI (Cj S H) H'):aI H (jg S h0 H'):=fun b o e=>by
 by_cases c:S b
 .rw[nU c,<-e,n b c]
 .rw[bX c];exact s b o (by rw[ff c];exact e)
theorem Kv{S:Addr->Prop}{h0:Heap}{H:Hp}{b:Addr}{o:HO}(n:∀a,S a->H a=some (jZ h0 a))(e:H b=some o)(x:∀p,o≠.ext p):Cj S H b=some o:=by
 rw[ff fun z=>by rw[n b z] at e;exact x _ (ba e).symm];exact e
def Vh:Expr:=match (cz Vg).getD 0 (.Pass ⟨0,0,0,0⟩) with
 |.Return (some (.Call _ (_::_::_::_::_::k::_) _ _)) _=>k
 |_=>.Name "x" ⟨0,0,0,0⟩
def A7:Arguments:=match Vh with
 |.Lambda a _ _ _=>a
 |_=>{ posonlyargs:=[],args:=[],vararg:=none,kwonlyargs:=[],kw_defaults:=[],kwarg:=none,defaults:=[] }
def A8:Expr:=match Vh with
 |.Lambda _ b _ _=>b
 |e=>e
def OS:Scope:=match Vh with
 |.Lambda _ _ s _=>s
 |_=>{ kind:=.function,names:=[],isGenerator:=false,isCoroutine:=false }
def SE:Pos:=match Vh with
 |.Lambda _ _ _ p=>p
 |_=>⟨0,0,0,0⟩
def SF:Str:=("blame":Str)++".<locals>."++"<lambda>"
abbrev k_(Pb:Addr)(H:Hp):Prop:=kM SE SF Pb H
abbrev NBB:List Str:=["one","at","net","homes","stands","log"]
theorem Mb:Cm NBB 2 OS SF A7 A8:=by
 refine⟨rfl,by decide +kernel,fun dM pm c wb us hl=>?_,by decide +kernel,fun i x hi hx=>?_,by decide +kernel,rfl,rfl⟩
 .match us,hl with
  |[_,_],_=>rfl
 .match i,hi,hx with
  |2,_,hx=>cases hx;rfl
  |3,_,hx=>cases hx;rfl
  |4,_,hx=>cases hx;rfl
  |5,_,hx=>cases hx;rfl
theorem eD.sQ{C p Pb:Addr}{H H':Hp}{L:Addr->Prop}{n:Nat}{ts:Ts}{lp:Pos}{qq:Str}(h:eD C H L p n ts)(nL:¬ L Pb)(t:kM lp qq Pb H)(s:dv Pb H H'):eD C H' L p n ts:=by
 obtain⟨dx',tl,ol,ds,e,_⟩:=h.ob;exact h.keep (fun b o lb e=>s _ _ e (by rintro rfl;exact nL lb)) (fun o e'=>s _ _ e' (t.not e (by intro ps z;cases z)))
theorem cQ.sQ{Pb SA LA:Addr}{H H':Hp}{bJ bB:List Addr}{m L:Nat}{ss ls:Nat->List (Option Nat)}{lp:Pos}{qq:Str}(h:cQ H SA LA bJ bB m L ss ls)(t:kM lp qq Pb H)(s:dv Pb H H'):cQ H' SA LA bJ bB m L ss ls:=by
 obtain⟨g1,g2,g3,g4,g5,g6⟩:=h;exact⟨s _ _ g1 (t.not g1 (by intro ps z;cases z)),s _ _ g2 (t.not g2 (by intro ps z;cases z)),g3.mono fun j _ e=>s _ _ e (t.not e (by intro ps z;cases z)),g4.mono fun j _ e=>s _ _ e (t.not e (by intro ps z;cases z)),g5,g6⟩
structure Ca(nr:Bool)(C:Addr)(H1:Hp)(Lp:Addr->Prop)(p a SA LA f c:Addr)(bJ bB:List Addr)(n L:Nat)(g:Nat->List Nat)(hs ns:List Int)(ss ls:Nat->List (Option Nat))(cells:List (Str×Addr))(h0:Heap):Prop where
 nS:∀x,cU cells x->H1 x=none
 le:yH cells h0 (jg (cU cells) h0 H1)
 cn:sO cells h0 "net" (.ref p)
 ch:sO cells h0 "homes" (.ref a)
 cs:sO cells h0 "stands" (.ref SA)
 cl:sO cells h0 "log" (.ref LA)
 net:eD C H1 Lp p n (bN n g)
 rn:uh n g
 gd:fE n g
 hH:H1 a=some (.tup (HV hs))
 lg:cQ H1 SA LA bJ bB hs.length L ss ls
 ln:hX nr n g hs L ss ls ns
 A6:hs.length<=16
 A4:L<=160
 hf:H1 f=some (rF f SF A7 A8 OS cells c)
 hc:H1 c=some (pJ c SF)
abbrev Yv(K:PySem.W.Frag)(C:Addr):TE:=pD (Ku C) [] E0 (bx (aV 2) (bx (aV 3) (bx (iA (tG K) (aV 4) (aV 1)) (bx (iA (tG K) (aV 5) (aV 1)) (bx (aV 0) hE)))))
theorem Ca.call{nr:Bool}{K:PySem.W.Frag}{C:Addr}{H1:Hp}{Lp:Addr->Prop}{p a SA LA f c:Addr}{bJ bB:List Addr}{n L:Nat}{g:Nat->List Nat}{hs ns:List Int}{ss ls:Nat->List (Option Nat)}{cells:List (Str×Addr)}{h0:Heap}(X:Ca nr C H1 Lp p a SA LA f c bJ bB n L g hs ns ss ls cells h0){Hc:Hp}{Q:VK}{one b:Nat}(s:aI (jg (cU cells) h0 H1) Hc)(ho:one<hs.length)(hb:b<L)(q:∀H',aI Hc H'->Q (Hf n g hs ss ls b one) H'):G0 2 OS SF A7 A8 NBB (Yv K C) f [.int one,.int b] Hc Q:=by
 have inj:aI H1 (jg (cU cells) h0 H1):=fun b o e=>by rw[bX fun z=>by rw[X.nS b z] at e;cases e];exact e
 have nk:∀a,cU cells a->Hc a=some (jZ h0 a):=fun a z=>s _ _ (nU z);have su:=uQ X.nS s;obtain⟨g1,g2,g3,g4,g5,g6⟩:=X.lg;refine⟨cells,c,h0,[.ref p,.ref a,.ref SA,.ref LA],s _ _ (inj _ _ X.hf),s _ _ (inj _ _ X.hc),rfl,rfl,X.le.mono (fun a _ e=>s _ _ e),fun i x v h1 h2=>?_,?_⟩
 .match i,h1,h2 with
  |0,h1,h2=>cases h1;cases h2;exact X.cn
  |1,h1,h2=>cases h1;cases h2;exact X.ch
  |2,h1,h2=>cases h1;cases h2;exact X.cs
  |3,h1,h2=>cases h1;cases h2;exact X.cl
 .exact⟨_,rfl,_,rfl,_,rfl,_,rfl,SA,_,_,_,rfl,rfl,aU.of (su _ _ g1),fj (by rw[g3.1];lia),_,rfl,_,rfl,LA,_,_,_,rfl,rfl,aU.of (su _ _ g2),fj (by rw[g4.1];exact hb),_,rfl,nr,Lp,p,a,bJ.getD b 0,bB.getD b 0,n,L,g,hs,ns,ss,ls,b,one,rfl,X.net.same su,X.rn,X.gd,su _ _ X.hH,su _ _ (g3.2 b (by lia)),su _ _ (g4.2 b hb),X.ln,hb,ho,X.A6,fun H4 s4 n4=>q _ (Hg nk s4)⟩
noncomputable def Ie(n:Nat)(g:Nat->List Nat)(hs:List Int)(L:Nat)(ss ls:Nat->List (Option Nat))(b:Int)(i:Nat):Option (List Nat):=if 0<=b then H_ n g hs L ss ls b.toNat i else none
theorem w4{n:Nat}{g:Nat->List Nat}{hs:List Int}{L:Nat}{ss ls:Nat->List (Option Nat)}{b i:Nat}:Ie n g hs L ss ls (b:Int) i=H_ n g hs L ss ls b i:=by unfold Ie;rw[aq (by lia),cW]
section
variable {P:Program} {w:World} {K:PySem.W.Frag} {mg:Str->Option Value} {base:Heap}
theorem DO:aJ ["homes","stands","log","letter","beat","instead_of","going","chain","other"] ["homes","stands","log","letter","beat","instead_of"] (am Yu):=⟨rfl,rfl,rfl,by decide +kernel,rfl,by decide +kernel,by decide +kernel⟩
def OT(C:Addr):Sp:=fun vs H Q _=>∃ (nr:Bool) (H1:Hp) (Lp:Addr->Prop) (p a SA LA f c:Addr) (bJ bB:List Addr) (n L:Nat) (g:Nat->List Nat) (hs ns:List Int) (ss ls:Nat->List (Option Nat)) (cells:List (Str×Addr)) (h0:Heap) (i:Nat) (b:Int),vs=[.ref a,.ref SA,.ref LA,.int i,.int b,.ref f]/\H=jg (cU cells) h0 H1/\
 Ca nr C H1 Lp p a SA LA f c bJ bB n L g hs ns ss ls cells h0/\i<hs.length/\∀v H',aI H H'->Ha H H' v (Ie n g hs L ss ls b i)->Q v H'
theorem SG{f C:Addr}{fd:FuncData}(F:fW K "chain_along" "chain_along" Yu f fd)(B:Bl mg)(HO:cE P w K mg base bi 3 "is_handed_on" ["stands","log","letter","beat"] kX)(GT:cE P w K mg base bi 7 "good_tie_taker" ["net","homes","stand","handing","letter"] (Ku C)):
  bC P w K mg base bi 9 f fd ["homes","stands","log","letter","beat","instead_of"] (OT C):=by
 refine F.ok DO (fun vs H Q E h=>?_) (fun dE A outer s H vs Q E hr h=>?_)
 .obtain⟨nr,H1,Lp,p,a,SA,LA,f',c,bJ,bB,n,L,g,hs,ns,ss,ls,cells,h0,i,b,rfl,_⟩:=h;rfl
 .obtain⟨nr,H1,Lp,p,a,SA,LA,f',c,bJ,bB,n,L,g,hs,ns,ss,ls,cells,h0,i,bI,rfl,rfl,X,hi,q⟩:=h;have h3:cD 3 _:=hr.mono (by decide);have inj:aI H1 (jg (cU cells) h0 H1):=fun b o e=>by rw[bX fun z=>by rw[X.nS b z] at e;cases e];exact e
  refine⟨_,(ah (bA (eI (dA (aB HO h3 aM (aa (pv 1) (aa (pv 2) (aa (pv 3) (aa (pv 4) ag))))))) (al (aH cS)) aR)
   (ah (aK (i:=6) DO.nd rfl (Or.inl rfl) (Cn (te:=Yv K C) (i:=5) hr rfl Mb (pv 5) (aa (pv 3) (aa (pv 4) ag)) (fun f dM c s H=>aB GT (hr.deeper _) aM (aa (pv 2) (aa (pv 3) (aa (az aA (pv 4) (pv 1) (fun _ _=>rfl)) (aa (az aA (pv 5) (pv 1) (fun _ _=>rfl)) (aa (pv 0) ag))))))))
   (ah (bA (aL kG (pv 6) cS (aG _)) (al (aH cS)) aR)
   (ah (aK (i:=7) DO.nd rfl (Or.inl rfl) (cZ (aa (pv 6) ag)))
   (ah (rj dR (aL m4 (az aZ (az aA (pv 2) (pv 4) (fun _ _=>rfl)) (pv 6) (fun _ _=>rfl)) (az aZ (pv 0) (pv 6) (fun _ _=>rfl)) (aG _)) (ah (Eu (i:=4) DO.nd rfl (Or.inl rfl) ao Ew)
    (ah (bA (aL eN (pv 4) (av aE (by rfl) B.len cL (aa (pv 2) ag)) (aG _)) (al (aH cS)) aR)
    (ah (aK (i:=8) DO.nd rfl (Or.inl rfl) (Cn (te:=Yv K C) (i:=5) hr rfl Mb (pv 5) (aa (pv 6) (aa (pv 4) ag)) (fun f dM c s H=>aB GT (hr.deeper _) aM (aa (pv 2) (aa (pv 3) (aa (az aA (pv 4) (pv 1) (fun _ _=>rfl)) (aa (az aA (pv 5) (pv 1) (fun _ _=>rfl)) (aa (pv 0) ag))))))))
    (ah (aK (i:=6) DO.nd rfl (Or.inl rfl) (xi (aL kG (pv 8) cS (aG _)) (pv 6) (pv 8)))
    (al (cg (im h_ j_ j8 dg (pv 7) (aa (pv 6) ag)))))))))
   (al (aH (pv 7)))))))),?_⟩
  have LGl:=X.lg.same inj;have LN:=X.ln;have A4:=X.A4;refine⟨_,rfl,_,rfl,_,rfl,_,rfl,SA,LA,bJ,bB,hs.length,L,ss,ls,i,bI,rfl,LGl,_,rfl,?_⟩;refine bW (fun e=>?_) (fun e=>?_)
  .have e':eU hs.length L ss i bI=false:=by simpa using e
   have n0:Ie n g hs L ss ls bI i=none:=by
    unfold Ie;by_cases b0:0<=bI
    .rw[aq b0];unfold H_;refine ap ?_;rintro⟨hb,led⟩;obtain⟨h,o,f1,f2⟩:=uM led;have z:=i7 hi hb f1;rw[show ((bI.toNat:Nat):Int)=bI by lia,e'] at z;cases z
    .exact ap b0
   exact q .bR _ (aI.refl _) (by rw[n0];rfl)
  have e':eU hs.length L ss i bI=true:=by simpa using e
  obtain⟨i',b,h,ei,rfl,_,hb,_⟩:=iw e';rw[w4] at q;refine⟨f',rfl,⟨cells,c,inj _ _ X.hf⟩,_,rfl,_,rfl,X.call (aI.refl _) hi hb fun H2 s2=>?_⟩;unfold H_ at q;unfold Hf;by_cases led:ix n g hs (ss b) (ls b) i=true
  rotate_left
  .rw[ap led];rw[ap (fun z=>led z.2)] at q;exact⟨_,rfl,rfl,_,rfl,lW (q .bR H2 s2 rfl)⟩
  rw[aq led];rw[aq ⟨hb,led⟩] at q;obtain⟨_,_,_,_,j,_,_,_,_,_,f6,f7,_⟩:=LN.taker X.net.nC hb led;have jl:j<hs.length:=by have:=(aT f7).1;rw[LN.sl b (eC hb)] at this;exact this
  rw[f6] at q |-;refine⟨_,rfl,rfl,_,rfl,uI ?_⟩;refine⟨_,rfl,by show 1<=sizeLine;decide,fun Z hZ=>?_⟩;have Yw:(jg (cU cells) h0 H1) Z=none:=s2.free hZ;refine⟨fun m σ Hc=>∃ (k one:Nat) (zs:List Nat),m=L-(b+k)/\(∃v8,σ=[some (.ref a),some (.ref SA),some (.ref LA),some (.int i),some (.int ((b+k:Nat):Int)),some (.ref f'),some (.int one),some (.ref Z),v8])/\aI (jg (cU cells) h0 H1) Hc/\Hc Z=some (.lst (NV (zs++[one])))/\zs.length=k/\one<hs.length/\b+k<L/\
    wW hs ls (kZ n g hs ss ls) (L-b) b j=(wW hs ls (kZ n g hs ss ls) (L-(b+k)) (b+k) one).map (zs++·),⟨_,0,j,[],rfl,⟨_,rfl⟩,s2.trans (aj hZ),af,rfl,jl,hb,?_⟩,?_⟩
  .show _=(wW hs ls (kZ n g hs ss ls) (L-b) b j).map ([]++·);cases wW hs ls (kZ n g hs ss ls) (L-b) b j <;> rfl
  rintro m σ Hc ⟨k,one,zs,rfl,⟨v8,rfl⟩,sc,hZc,zl,ol,Ic,ch⟩;have Yq:=LGl.same sc;obtain⟨c1,c2,c3,c4,c5,c6⟩:=Yq;have Hd:=LN.r.tie _ Ic;have lcl:(ls (b+k)).length=hs.length:=by rw[Hd.len];exact LN.sl _ (eC Ic)
  refine⟨_,rfl,_,rfl,LA,_,_,_,rfl,rfl,aU.of c2,fj (by rw[c4.1];exact Ic),_,rfl,bB.getD (b+k) 0,_,_,_,rfl,rfl,cK.of (c4.2 (b+k) Ic),dW (by lia),_,rfl,_,rfl,a,_,_,_,rfl,rfl,cK.of (sc _ _ (inj _ _ X.hH)),iN ol,lC,_,rfl,?_⟩;rw[yO];rw[show L-(b+k)=(L-(b+(k+1)))+1 by lia] at ch;cases hm:k8 hs (ls (b+k)) one with
  |true=>
   rw[yL hm] at ch;rw[ch] at q;exact uI ⟨_,rfl,q _ Hc sc ⟨Z,rfl,Yw,hZc⟩⟩
  |false=>
   rw[yM (by rw[hm];decide),yN] at ch;refine lW ⟨_,fun σ' H' z=>z,?_⟩;refine⟨_,rfl,_,_,rfl,rfl,?_⟩;have Vf:(((b+k:Nat):Int)+1)=((b+(k+1):Nat):Int):=by lia
   change bo 4 (V.int (((b+k:Nat):Int)+1)) _ _ _;rw[Vf];refine⟨_,rfl,_,rfl,LA,_,rfl,.inl (aU.of c2),rfl,_,rfl,?_⟩;rw[aF,c4.1];refine bW (fun e2=>?_) (fun e2=>?_)
   .have e3:b+(k+1)=L:=by have:=V.int.inj (bU e2);lia
    rw[show L-(b+(k+1))=0 by lia] at ch;have e0:wW hs ls (kZ n g hs ss ls) (L-b) b j=none:=ch;rw[e0] at q;exact q .bR Hc sc rfl
   .have ND:b+(k+1)<L:=by
     have:¬ (((b+(k+1):Nat):Int)=(L:Int)):=fun z=>e2 (bE (by show V.int _=V.int _;rw[z]));lia
    refine⟨f',rfl,⟨cells,c,sc _ _ (inj _ _ X.hf)⟩,_,rfl,_,rfl,X.call sc ol ND fun H3 s3=>?_⟩;have Vi:=s3 _ _ hZc;unfold Hf;by_cases Kw:ix n g hs (ss (b+(k+1))) (ls (b+(k+1))) one=true
    .obtain⟨_,_,_,_,j2,_,_,_,_,_,k6,k7,_⟩:=LN.taker X.net.nC ND Kw;have jl2:j2<hs.length:=by have:=(aT k7).1;rw[LN.sl _ (eC ND)] at this;exact this
     rw[aq Kw,k6];rw[show kZ n g hs ss ls (b+k+1) one=j2 from k6] at ch;refine⟨_,rfl,rfl,_,rfl,uI ⟨_,rfl,?_⟩⟩;refine⟨_,rfl,.inl ⟨rfl,_,aU.of Vi⟩,_,rfl,Z,_,_,rfl,rfl,Vi,by rw[aF,cu,zl];exact bT (show k+1<162 by lia) (by decide),?_⟩;exact⟨L-(b+(k+1)),by lia,k+1,j2,zs++[one],rfl,⟨_,rfl⟩,eT.cG (sc.trans s3) Yw,by rw[af];exact congrArg (fun z=>some (L2.HO.lst z)) je.symm,by rw[cu,zl];rfl,jl2,ND,ch⟩
    .have k6:kZ n g hs ss ls (b+(k+1)) one=one:=by unfold kZ;rw[ap Kw]
     rw[ap Kw];rw[show kZ n g hs ss ls (b+k+1) one=one from k6] at ch;refine⟨_,rfl,rfl,_,rfl,lW ⟨_,rfl,?_⟩⟩;refine⟨_,rfl,.inl ⟨rfl,_,aU.of Vi⟩,_,rfl,Z,_,_,rfl,rfl,Vi,by rw[aF,cu,zl];exact bT (show k+1<162 by lia) (by decide),?_⟩;exact⟨L-(b+(k+1)),by lia,k+1,one,zs++[one],rfl,⟨_,rfl⟩,eT.cG (sc.trans s3) Yw,by rw[af];exact congrArg (fun z=>some (L2.HO.lst z)) je.symm,by rw[cu,zl];rfl,ol,ND,ch⟩
theorem Yx:aJ ["net","homes","stands","log","letter","beat"] ["net","homes","stands","log","letter","beat"] (am Vg):=⟨rfl,rfl,rfl,by decide +kernel,rfl,by decide +kernel,by decide +kernel⟩
def Hh(C Pb:Addr):Sp:=fun vs H Q _=>∃ (nr:Bool) (Lp:Addr->Prop) (p a SA LA:Addr) (bJ bB:List Addr) (n L:Nat) (g:Nat->List Nat) (hs ns:List Int) (ss ls:Nat->List (Option Nat)) (i:Nat) (b:Int),vs=[.ref p,.ref a,.ref SA,.ref LA,.int i,.int b]/\eD C H Lp p n (bN n g)/\¬ Lp Pb/\uh n g/\fE n g/\H a=some (.tup (HV hs))/\cQ H SA LA bJ bB hs.length L ss ls/\hX nr n g hs L ss ls ns/\hs.length<=16/\L<=160/\i<hs.length/\k_ Pb H/\
 ∀v H',k_ Pb H'->dv Pb H H'->Ha H H' v (Ie n g hs L ss ls b i)->Q v H'
theorem SI{f c C Pb:Addr}{fd:FuncData}(F:xN K "blame" "blame" Vg f fd c)(kb:K.In base)(hb:tK mg base)(hc:PySem.W.codeHdIn K c Pb=true)(CA:cE P w K mg base bi 9 "chain_along" ["homes","stands","log","letter","beat","instead_of"] (OT C)):bC P w K mg base bi 10 f fd ["net","homes","stands","log","letter","beat"] (Hh C Pb):=by
 refine F.ok Yx (fun vs H Q E h=>?_) (fun A outer s H vs Q E hr h=>?_)
 .obtain⟨nr,Lp,p,a,SA,LA,bJ,bB,n,L,g,hs,ns,ss,ls,i,b,rfl,_⟩:=h;rfl
 .obtain⟨nr,Lp,p,a,SA,LA,bJ,bB,n,L,g,hs,ns,ss,ls,i,b,rfl,N,nL,Rn,G,ha,LG,LN,A6,A4,hi,tb,q⟩:=h;refine⟨_,(al (aH (Kl CA hr rfl rfl (aa (pv 1) (aa (pv 2) (aa (pv 3) (aa (pv 4) (aa (pv 5) (aa (E_ (NB:=["one","at","net","homes","stands","log"]) (src:=[none,none,some 0,some 1,some 2,some 3]) (BG kb hb hc) (bY (by kernel_rfl))) ag))))))))),?_⟩;refine⟨_,rfl,_,rfl,_,rfl,_,rfl,_,rfl,tb,fun f' c' H2 WP old Es C8 nS h0 LE cv=>?_⟩;have t2:k_ Pb H2:=WP;refine⟨nr,H2,Lp,p,a,SA,LA,f',c',bJ,bB,n,L,g,hs,ns,ss,ls,_,h0,i,b,rfl,rfl,⟨nS,LE,cv 0 "net" _ rfl rfl rfl,cv 1 "homes" _ rfl rfl rfl,cv 2 "stands" _ rfl rfl rfl,cv 3 "log" _ rfl rfl rfl,eD.sQ N nL tb old,Rn,G,old _ _ ha (tb.not ha (by intro ps z;cases z)),LG.sQ tb old,LN,A6,A4,C8,Es⟩,hi,fun v H' s' tl=>?_⟩;have nk:∀a,cU _ a->H' a=some (jZ h0 a):=fun a z=>s' _ _ (nU z);have su:=uQ nS s';refine⟨nk,q v _ (t2.keep fun b o e _=>su _ _ e) (fun b o e n=>su _ _ (old b o e n)) ?_⟩;cases hz:Ie n g hs L ss ls b i with
  |none=>rw[hz] at tl;exact tl
  |some zs=>
   rw[hz] at tl;obtain⟨D,rfl,nD,hD⟩:=tl;have Yy:H2 D=none:=by
    cases z:H2 D with
    |none=>rfl
    |some o=>
     have:¬ cU _ D:=fun y=>by rw[nS D y] at z;cases z
     rw[bX this,z] at nD;cases nD
   refine⟨D,rfl,?_,Kv nk hD (by intro p z;cases z)⟩;cases z:H D with
   |none=>rfl
   |some o=>
    by_cases hP:D=Pb
    .rcases t2 with y|⟨_,y,_⟩ <;> · rw[<-hP,Yy] at y;cases y
    .rw[old D o z hP] at Yy;cases Yy
end
abbrev Yz:Stmt:=gR 58
structure Ev(nr:Bool)(C Pb:Addr)(Lp:Addr->Prop)(p O r a SA LA:Addr)(as ds bJ bB:List Addr)(n L:Nat)(g:Nat->List Nat)(hs ns:List Int)(ss ls:Nat->List (Option Nat))(H:Hp):Prop where
 net:eD C H Lp p n (bN n g)
 nL:¬ Lp Pb
 rn:uh n g
 gd:fE n g
 of:fR H O as n g
 fr:fk H r ds n g
 ha:H a=some (.tup (HV hs))
 lg:cQ H SA LA bJ bB hs.length L ss ls
 ln:hX nr n g hs L ss ls ns
 A6:hs.length<=16
 A4:L<=160
 tb:k_ Pb H
theorem Ev.keep{nr:Bool}{C Pb:Addr}{Lp:Addr->Prop}{p O r a SA LA:Addr}{as ds bJ bB:List Addr}{n L:Nat}{g:Nat->List Nat}{hs ns:List Int}{ss ls:Nat->List (Option Nat)}{H H':Hp}(E:Ev nr C Pb Lp p O r a SA LA as ds bJ bB n L g hs ns ss ls H)(s:dv Pb H H')(t:k_ Pb H'):Ev nr C Pb Lp p O r a SA LA as ds bJ bB n L g hs ns ss ls H':=by
 have up:∀ {b o},H b=some o->(∀ps,o≠.oq ps)->H' b=some o:=fun e n=>s _ _ e (E.tb.not e n);refine⟨eD.sQ E.net E.nL E.tb s,E.nL,E.rn,E.gd,⟨?_,E.of.rows.mono fun j _ e=>up e (by intro ps z;cases z),E.of.inj⟩,⟨?_,fun j hj=>?_⟩,up E.ha (by intro ps z;cases z),E.lg.sQ E.tb s,E.ln,E.A6,E.A4,t⟩
 .obtain⟨o,y⟩:=E.of.dict;exact⟨o,up y (by intro ps z;cases z)⟩
 .exact up E.fr.dict (by intro ps z;cases z)
 .obtain⟨R,x,y⟩:=E.fr.rows j hj;exact⟨R,up x (by intro ps z;cases z),y⟩
theorem qH{Pb:Addr}{H H':Hp}(t:k_ Pb H)(s:aI H H'):k_ Pb H':=t.keep fun b o e _=>s b o e
theorem Ev.same{nr:Bool}{C Pb:Addr}{Lp:Addr->Prop}{p O r a SA LA:Addr}{as ds bJ bB:List Addr}{n L:Nat}{g:Nat->List Nat}{hs ns:List Int}{ss ls:Nat->List (Option Nat)}{H H':Hp}(E:Ev nr C Pb Lp p O r a SA LA as ds bJ bB n L g hs ns ss ls H)(s:aI H H'):Ev nr C Pb Lp p O r a SA LA as ds bJ bB n L g hs ns ss ls H':=E.keep (dv.of s) (qH E.tb s)
theorem Kx{zs:List Nat}(h:zs≠[]):fT (NV zs) (-1)=some (.int ((zs.getD (zs.length-1) 0:Nat):Int)):=by
 have:=wR (zs:=IN zs) (by intro z;exact h (List.map_eq_nil_iff.mp z));rw[GA,aF,nR] at this;exact this
section
variable {P:Program} {w:World} {K:PySem.W.Frag} {mg:Str->Option Value} {base:Heap}
theorem Hi:aJ ["_law_net_here","_law_outs","_law_fars_here","_law_homes","_law_stands","_law_log_here","_law_i","_law_beat","_law_sort","_law_due","_law_told","_law_far_here","_law_straight"] ["_law_net_here","_law_outs","_law_fars_here","_law_homes","_law_stands","_law_log_here","_law_i","_law_beat","_law_sort"] (am Yz):=⟨rfl,rfl,rfl,by decide +kernel,rfl,by decide +kernel,by decide +kernel⟩
theorem OU:PySem.W.kitOne K (.type "bool") (.type "bool")=some true:=by kernel_rfl
theorem YA{c:Prop}[Decidable c]{A B R:Prop}(h:c->R->A)(h2:R->B)(r:R):if c then A else B:=by
 by_cases z:c
 .rw[aq z];exact h z r
 .rw[ap z];exact h2 r
def OV(C Pb:Addr):Sp:=fun vs H Q _=>∃ (so:Int) (nr:Bool) (Lp:Addr->Prop) (p O r a SA LA:Addr) (as ds bJ bB:List Addr) (n L:Nat) (g:Nat->List Nat) (hs ns:List Int) (ss ls:Nat->List (Option Nat)) (i b:Nat),vs=[.ref p,.ref O,.ref r,.ref a,.ref SA,.ref LA,.int i,.int b,.int so]/\nr=decide (so=0)/\Ev nr C Pb Lp p O r a SA LA as ds bJ bB n L g hs ns ss ls H/\i<hs.length/\b<L/\
 ∀H',k_ Pb H'->dv Pb H H'->Q (.bl true) H'
theorem SJ{f C Pb:Addr}{fd:FuncData}(F:fW K "_law_told_right" "_law_told_right" Yz f fd)(B:Bl mg)(LB:cE P w K mg base bi 2 "_law_blame" ["_law_outs","_law_fars_here","_law_homes","_law_stands","_law_log_here","_law_i","_law_beat"] OL)(BL:cE P w K mg base bi 10 "blame" ["net","homes","stands","log","letter","beat"] (Hh C Pb))(IS:cE P w K mg base bi 1 "_law_is_list" ["_law_found","_law_due"] OE)(CH:cE P w K mg base bi 5 "is_chain" ["homes","stands","log","letter","beat","thing"] qE)(ST:cE P w K mg base bi 6 "is_straight" ["net","homes","stands","log","letter","beat","chain"] (GW C)):
  bC P w K mg base bi 11 f fd ["_law_net_here","_law_outs","_law_fars_here","_law_homes","_law_stands","_law_log_here","_law_i","_law_beat","_law_sort"] (OV C Pb):=by
 refine F.ok Hi (fun vs H Q E h=>?_) (fun dE A outer s0 H vs Q E hr h=>?_)
 .obtain⟨so,nr,Lp,p,O,r,a,SA,LA,as,ds,bJ,bB,n,L,g,hs,ns,ss,ls,i,b,rfl,_⟩:=h;rfl
 .obtain⟨so,nr,Lp,p,O,r,a,SA,LA,as,ds,bJ,bB,n,L,g,hs,ns,ss,ls,i,b,rfl,YB,X,hi,hb,q⟩:=h;have h1:cD 1 _:=hr.mono (by decide);have h2:cD 2 _:=hr.mono (by decide);have h5:cD 5 _:=hr.mono (by decide);have h6:cD 6 _:=hr.mono (by decide);have oR:=hr.u (n:=1);refine⟨_,(ah (aK (i:=9) Hi.nd rfl (Or.inl rfl) (aB LB h2 aM (aa (pv 1) (aa (pv 2) (aa (pv 3) (aa (pv 4) (aa (pv 5) (aa (pv 6) (aa (pv 7) ag)))))))))
   (ah (aK (i:=10) Hi.nd rfl (Or.inl rfl) (aB BL hr aM (aa (pv 0) (aa (pv 3) (aa (pv 4) (aa (pv 5) (aa (pv 6) (aa (pv 7) ag))))))))
   (ah (bA (aL kG (pv 9) cS (aG _)) (al (aH (cy kG (pv 10) cS (aG _)))) aR)
   (ah (bA (eI (dA (aB IS h1 aM (aa (pv 10) (aa (pv 9) ag))))) (al (aH g7)) aR)
   (ah (bA (PW.pt (vC (aL eN (pv 8) ao (aG _)) (qm (aL rq (av aE (by rfl) B.len cL (aa (pv 10) ag)) (bQ oR (bQ oR (pv 2) (az aZ (pv 3) (az aA (pv 9) ao (fun _ _=>rfl)) (fun _ _=>rfl)) (fun _ _=>rfl)) (az aZ (az aA (pv 4) (pv 7) (fun _ _=>rfl)) (pv 6) (fun _ _=>rfl)) (fun _ _=>rfl)) (aG _))))) (al (aH g7)) aR)
   (ah (bA (aL DL (aB CH h5 aM (aa (pv 3) (aa (pv 4) (aa (pv 5) (aa (pv 6) (aa (pv 7) (aa (pv 9) ag))))))) g7 (aG _)) (al (aH g7)) aR)
   (ah (aK (i:=11) Hi.nd rfl (Or.inl rfl) (bQ oR (pv 2) (az aZ (pv 3) (az aA (pv 9) (jV gQ ao) (fun _ _=>rfl)) (fun _ _=>rfl)) (fun _ _=>rfl)))
   (ah (aK (i:=12) Hi.nd rfl (Or.inl rfl) (aB ST h6 aM (aa (pv 0) (aa (pv 3) (aa (pv 4) (aa (pv 5) (aa (pv 6) (aa (pv 7) (aa (pv 9) ag)))))))))
   (ah (bA (PW.pt (pB (eI (dA (av eX (by rfl) B.DV j7 (aa (pv 12) (aa (fK (v:=.ty "bool") rfl B.bool uY rfl) ag))))) (mB (aL m4 (pv 12) (cy Bn (bQ oR (pv 11) (az aZ (az aA (pv 5) (pv 7) (fun _ _=>rfl)) (pv 6) (fun _ _=>rfl)) (fun _ _=>rfl)) (av aE (by rfl) B.len cL (aa (pv 9) ag)) (aG _)) (aG _))))) (al (aH g7)) aR)
   (ah (cg (im h_ j_ j8 dg (pv 10) (aa (pv 6) ag)))
   (al (aH (cy (Cp (d:=0) hr.u) (aB BL hr aM (aa (pv 0) (aa (pv 3) (aa (pv 4) (aa (pv 5) (aa (pv 6) (aa (pv 7) ag))))))) (pv 9) (aG _)))))))))))))),?_⟩
  refine⟨_,rfl,_,rfl,_,rfl,_,rfl,_,rfl,_,rfl,_,rfl,nr,O,r,a,SA,LA,as,ds,bJ,bB,n,L,g,hs,ns,ss,ls,i,b,rfl,X.of,X.fr,X.gd,X.net.nC,X.ha,X.A6,X.lg,X.ln,X.A4,hi,hb,fun v H1 s1 tl=>?_⟩;have X1:=X.same s1;refine⟨_,rfl,_,rfl,_,rfl,_,rfl,_,rfl,_,rfl,nr,Lp,p,a,SA,LA,bJ,bB,n,L,g,hs,ns,ss,ls,i,b,rfl,X1.net,X1.nL,X1.rn,X1.gd,X1.ha,X1.lg,X1.ln,X1.A6,X1.A4,hi,X1.tb,fun v2 H2 HN s2 SK=>?_⟩;rw[w4] at SK;have X2:=X1.keep s2 HN;have sH2:dv Pb H H2:=(dv.of s1).trans s2;cases hz:H_ n g hs L ss ls b i with
  |none=>
   rw[hz] at tl SK;obtain rfl:v=.bR:=tl;obtain rfl:v2=.bR:=SK;refine⟨_,rfl,rfl,_,rfl,?_⟩;refine bW (fun _=>?_) (fun e=>absurd (bE rfl) e);exact⟨_,rfl,rfl,q H2 HN sH2⟩
  |some zs=>
   rw[hz] at tl SK;obtain⟨Du,rfl,nDu,SL⟩:=tl;obtain⟨To,rfl,nTo,hTo⟩:=SK;obtain⟨h,o',e,d,qq,c,pK,kO,f1,f2,hn,on,en,chn,ed,dl,he,ec,cl,hq,qn,near,D4,zL⟩:=Oi X.ln X.net.nC hz;have SN:H2 Du=some (.lst (NV zs)):=s2 _ _ SL (X1.tb.not SL (by intro ps z;cases z));have zl:zs.length<=160:=bj zL X.A4;refine⟨_,rfl,rfl,_,rfl,?_⟩;refine bW (fun e=>absurd (bU e) (by intro z;cases z)) (fun _=>?_);refine⟨_,rfl,_,rfl,To,Du,zs,rfl,hTo,SN,by lia,fun H3 s3=>⟨_,rfl,?_⟩⟩;refine bW (fun e=>absurd e (by decide)) (fun _=>?_);have X3:=X2.same s3;have Ky:=s3 _ _ SN;have SO:=s3 _ _ hTo;obtain⟨g1,g2,g3,g4,g5,g6⟩:=X3.lg;have Hd:=X.ln.r.tie b hb;have sl:=X.ln.sl b (eC hb);have ats:fT (SV (ss b)) (i:Int)=some (.int (h:Int)):=by rw[dW (by lia),f1];rfl
   have atl:fT (SV (ls b)) (i:Int)=some (.int (o':Int)):=by rw[dW (by rw[Hd.len];lia),f2];rfl
   have P8:fT (HV hs) ((zs.getD (zs.length-1) 0:Nat):Int)=some (.int (e:Int)):=by rw[ed,iN dl,he]
   have Oc:fT (NV zs) 0=some (.int ((zs.getD 0 0:Nat):Int)):=sr (k:=0) (va.mpr D4);have rS:fT (bJ.map V.ref) (b:Int)=some (.ref (bJ.getD b 0)):=fj (by rw[g3.1];lia);have rL:fT (bB.map V.ref) (b:Int)=some (.ref (bB.getD b 0)):=fj (by rw[g4.1];exact hb);have YC:fT (HV hs) ((zs.getD 0 0:Nat):Int)=some (.int (qq:Int)):=by rw[ec,iN cl,hq]
   have rw5:((zs.length:Nat):Int)=(((NV zs).length:Nat):Int):=by rw[aF]
   refine⟨_,rfl,rfl,_,rfl,?_⟩;refine YA (fun e0 r0=>?_) (fun r0=>lG r0) ?_
   .have nrt:nr=true:=by rw[YB];exact bE (V.int.inj (bU e0))
    have:=near nrt;refine⟨_,rfl,To,_,rfl,.inl (aU.of SO),_,rfl,_,rfl,_,rfl,Du,_,_,_,rfl,rfl,aU.of Ky,Oc,a,_,_,_,rfl,rfl,cK.of X3.ha,YC,r,_,rfl,X3.fr.get qn,_,rfl,_,rfl,SA,_,_,_,rfl,rfl,aU.of g1,rS,_,rfl,bJ.getD b 0,_,_,_,rfl,rfl,cK.of (g3.2 b (by lia)),ats,_,_,rfl,(X3.fr.rows qq qn).get hn,_,_,rfl,rfl,_,rfl,?_⟩;exact bW (fun z=>absurd (bU z) (by rw[aF];lia)) (fun _=>r0)
   have SS:H3 Du=some (.lst (HV (IN zs))):=by rw[GA];exact Ky
   refine⟨_,rfl,_,rfl,_,rfl,_,rfl,_,rfl,_,rfl,a,SA,LA,Du,bJ,bB,hs.length,L,ss,ls,hs,IN zs,i,b,rfl,X3.ha,rfl,X3.lg,SS,fun H4 s4=>?_⟩;rw[chn];refine⟨true,true,rfl,rfl,_,rfl,?_⟩;refine bW (fun z=>absurd z (by decide)) (fun _=>?_);have X4:=X3.same s4;refine⟨_,rfl,_,rfl,_,rfl,_,rfl,Du,_,_,_,rfl,rfl,aU.of (s4 _ _ Ky),Kx D4,a,_,_,_,rfl,rfl,cK.of X4.ha,P8,r,_,rfl,X4.fr.get en,?_⟩;refine⟨_,rfl,_,rfl,_,rfl,_,rfl,_,rfl,_,rfl,_,rfl,p,a,SA,LA,Du,bJ,bB,hs.length,L,ss,ls,hs,IN zs,ns,i,b,n,g,Lp,rfl,X4.ha,rfl,X4.lg,X.ln.r,s4 _ _ SS,hi,X4.net,chn,fun bt H5 s5 YD=>?_⟩;have ebt:=YD d o' e (by rw[aF,nR,ed]) f2 he;rw[aF] at ebt;have Vj:=s4.trans s5;have X5:=X3.same Vj;have Kz:=Vj _ _ SO;have SU:=Vj _ _ Ky;obtain⟨k1,k2,k3,k4,_⟩:=X5.lg;refine⟨_,rfl,_,_,_,.type "bool",true,rfl,⟨rfl,OU⟩,.of (.bl _),true,rfl,?_⟩;refine bW (fun e=>absurd e (by decide)) (fun _=>?_);refine⟨_,rfl,_,rfl,_,rfl,_,rfl,LA,_,_,_,rfl,rfl,aU.of k2,rL,_,rfl,bB.getD b 0,_,_,_,rfl,rfl,cK.of (k4.2 b hb),atl,_,_,rfl,(X5.fr.rows e en).get on,_,rfl,Du,_,rfl,.inl (aU.of SU),_,_,rfl,rfl,rfl,_,rfl,?_⟩;refine bW (fun z=>absurd z (by rw[ebt,aF];simp[Int.ofNat_le])) (fun _=>?_);have nTD:Du≠To:=fun z=>by rw[z] at SL;rw[nTo] at SL;cases SL
   have YE:H To=none:=s1.free nTo;refine⟨_,rfl,.inl ⟨rfl,_,aU.of Kz⟩,_,rfl,To,_,_,rfl,rfl,Kz,by rw[aF];exact bT (show zs.length<161 by lia) (by decide),?_⟩;have s6:dv Pb H (upd H5 To (.lst (NV zs++[.int (i:Int)]))):=fun x o ex nx=>by
    rw[ak (ai ex YE)];exact Vj _ _ (s3 _ _ (sH2 _ _ ex nx))
   have tb6:k_ Pb (upd H5 To (.lst (NV zs++[.int (i:Int)]))):=by
    have t5:=X5.tb;refine t5.keep fun x o ex cs=>?_;have:x≠To:=by
     rintro rfl;rw[Kz] at ex;rcases cs with cs|⟨_,cs⟩
     .exact(t5.not Kz (by intro ps z;cases z)) cs
     .rw[cs] at ex;cases ex
    rw[ak this];exact ex
   have SW:(upd H5 To (.lst (NV zs++[.int (i:Int)]))) Du=some (.lst (NV zs)):=by rw[ak nTD];exact SU
   generalize upd H5 To (.lst (NV zs++[.int (i:Int)]))=H6 at *;have X6:=X.keep s6 tb6;refine⟨_,rfl,_,rfl,_,rfl,_,rfl,_,rfl,_,rfl,nr,Lp,p,a,SA,LA,bJ,bB,n,L,g,hs,ns,ss,ls,i,b,rfl,X6.net,X6.nL,X6.rn,X6.gd,X6.ha,X6.lg,X6.ln,X6.A6,X6.A4,hi,X6.tb,fun v3 H7 tb7 s7 tl3=>?_⟩;rw[w4,hz] at tl3;obtain⟨D3,rfl,nD3,jY⟩:=tl3;have YF:=s7 _ _ SW (tb6.not SW (by intro ps z;cases z));exact⟨_,rfl,D3,Du,_,_,rfl,rfl,aU.of jY,aU.of YF,rfl,G_,q H7 tb7 (s6.trans s7)⟩
end
abbrev YG:Stmt:=gR 59
theorem eY:(["_law_at","_law_net_here","_law_homes","_law_stands","_law_log_here","_law_i"]:List Str).Nodup:=by decide +kernel
section
variable {P:Program} {w:World} {K:PySem.W.Frag} {mg:Str->Option Value} {base:Heap}
theorem SX:aJ ["_law_net_here","_law_outs","_law_fars_here","_law_homes","_law_stands","_law_log_here","_law_i","_law_sort","_law_beat"] ["_law_net_here","_law_outs","_law_fars_here","_law_homes","_law_stands","_law_log_here","_law_i","_law_sort"] (am YG):=⟨rfl,rfl,rfl,by decide +kernel,rfl,by decide +kernel,by decide +kernel⟩
def OW(C Pb:Addr):Sp:=fun vs H Q _=>∃ (so:Int) (nr:Bool) (Lp:Addr->Prop) (p O r a SA LA:Addr) (as ds bJ bB:List Addr) (n L:Nat) (g:Nat->List Nat) (hs ns:List Int) (ss ls:Nat->List (Option Nat)) (i:Nat),vs=[.ref p,.ref O,.ref r,.ref a,.ref SA,.ref LA,.int i,.int so]/\nr=decide (so=0)/\Ev nr C Pb Lp p O r a SA LA as ds bJ bB n L g hs ns ss ls H/\i<hs.length/\
 ∀H',k_ Pb H'->dv Pb H H'->Q (.bl true) H'
theorem SY{f C Pb:Addr}{fd:FuncData}(F:fW K "_law_letter_right" "_law_letter_right" YG f fd)(B:Bl mg)(TR:cE P w K mg base bi 11 "_law_told_right" ["_law_net_here","_law_outs","_law_fars_here","_law_homes","_law_stands","_law_log_here","_law_i","_law_beat","_law_sort"] (OV C Pb))(BL:cE P w K mg base bi 10 "blame" ["net","homes","stands","log","letter","beat"] (Hh C Pb)):
  bC P w K mg base bi 12 f fd ["_law_net_here","_law_outs","_law_fars_here","_law_homes","_law_stands","_law_log_here","_law_i","_law_sort"] (OW C Pb):=by
 refine F.ok SX (fun vs H Q E h=>?_) (fun dE A outer s0 H vs Q E hr h=>?_)
 .obtain⟨so,nr,Lp,p,O,r,a,SA,LA,as,ds,bJ,bB,n,L,g,hs,ns,ss,ls,i,rfl,_⟩:=h;rfl
 .obtain⟨so,nr,Lp,p,O,r,a,SA,LA,as,ds,bJ,bB,n,L,g,hs,ns,ss,ls,i,rfl,YB,X,hi,q⟩:=h;have h10:cD 10 _:=hr.mono (by decide);refine'⟨_,(ah (cT dR rfl (cq rfl B.range (aa (av aE (by rfl) B.len cL (aa (pv 5) ag)) ag)) (au (i:=8) SX.nd rfl (Or.inl rfl))
    (al (bA (eI (dA (aB TR hr aM (aa (pv 0) (aa (pv 1) (aa (pv 2) (aa (pv 3) (aa (pv 4) (aa (pv 5) (aa (pv 6) (aa (pv 8) (aa (pv 7) ag)))))))))))) (al (aH g7)) aR)))
   (al (aH (cy (Cp (d:=0) hr.u) ?c1 (cZ ag) (aG _))))),?_⟩
  case c1=>
   refine' cm (g:=(bo 0)) (tt:=(jW (iA (fun x y H Q=>y=.bR/\Q (.bl (!decide (x=.bR))) H) (pD (Hh C Pb) [] E0 (bx (aV 1) (bx (aV 2) (bx (aV 3) (bx (aV 4) (bx (aV 5) (bx (aV 0) hE))))))) (tC .bR)))) (te:=(aV 0)) (NB:=["_law_at","_law_net_here","_law_homes","_law_stands","_law_log_here","_law_i"]) (src:=[none,some 0,some 3,some 4,some 5,some 6]) (bY (by kernel_rfl)) rfl (EB (eJ (aa (av aE (by rfl) B.len cL (aa (pv 5) ag)) (aa (a_ cY (av aE (by rfl) B.len cL (aa (pv 5) ag)) ao) (aa (jV gQ ao) ag))))) ?g ?t ?e;case g=>exact fun cl C s₃ H₃ fp=>(au (i:=0) eY rfl (Or.inl rfl) (Or.inr rfl))
   case t=>exact fun cl C s₃ H₃ fp=>eR (aL vH (aB BL h10 aM (aa (pv 1) (aa (pv 2) (aa (pv 3) (aa (pv 4) (aa (pv 5) (aa (pv 0) ag))))))) cS (aG _))
   case e=>exact fun cl C s₃ H₃ fp=>(pv 0)
  obtain⟨g1,g2,g3,g4,g5,g6⟩:=X.lg;have P1:(((bB.map V.ref).length:Nat):Int)=(L:Int):=by rw[aF,g4.1]
  have A4:=X.A4;have LN:=X.ln;refine⟨_,rfl,LA,_,rfl,.inl (aU.of g2),L,by rw[P1],by lia,by lia,?_⟩;refine df (n:=L) (lo:=0) (fun b σ Hc=>(∃v8,σ=[some (.ref p),some (.ref O),some (.ref r),some (.ref a),some (.ref SA),some (.ref LA),some (.int i),some (.int so),v8])/\dv Pb H Hc/\k_ Pb Hc)
   ⟨⟨_,rfl⟩,dv.of (aI.refl _),X.tb⟩ ?_ ?_
  .rintro b σ Hc hb ⟨⟨v8,rfl⟩,sc,tb⟩;rw[gL];have Xc:=X.keep sc tb;refine⟨_,rfl,_,rfl,_,rfl,_,rfl,_,rfl,_,rfl,_,rfl,_,rfl,_,rfl,so,nr,Lp,p,O,r,a,SA,LA,as,ds,bJ,bB,n,L,g,hs,ns,ss,ls,i,b,rfl,YB,Xc,hi,hb,fun H1 RI s1=>⟨_,rfl,lG ?_⟩⟩;exact⟨⟨_,rfl⟩,sc.trans s1,RI⟩
  .rintro σ Hc ⟨⟨v8,rfl⟩,sc,tb⟩;have Xc:=X.keep sc tb;obtain⟨b1,b2,_⟩:=Xc.lg;refine⟨_,rfl,LA,_,rfl,.inl (aU.of b2),_,rfl,LA,_,rfl,.inl (aU.of b2),_,_,rfl,rfl,_,rfl,by show 3<=sizeLine;decide,fun t3 ht3=>⟨_,rfl,⟨_,cK.of af⟩,fun D hD=>?_⟩⟩;have sT:=aj (o:=.tup [.int (((bB.map V.ref).length:Nat):Int),.int ((((bB.map V.ref).length:Nat):Int)+1),.int (-1)]) ht3;refine uO (K:=K) (xs:=[.int (((bB.map V.ref).length:Nat):Int),.int ((((bB.map V.ref).length:Nat):Int)+1),.int (-1)]) (fun j ys σ H3=>(∃x,σ=[x,some (.ref p),some (.ref a),some (.ref SA),some (.ref LA),some (.int i)])/\ys=[]/\dv Pb Hc H3/\k_ Pb H3/\H3 t3=some (.tup [.int (((bB.map V.ref).length:Nat):Int),.int ((((bB.map V.ref).length:Nat):Int)+1),.int (-1)])/\H3 D=some (.lst [])) ⟨⟨_,rfl⟩,rfl,dv.of (sT.trans (aj hD)),qH (qH tb sT) (aj hD),aj hD _ _ af,af⟩ (fun j ys σ H3 _ z=>cK.of z.2.2.2.2.1) ?_ ?_
   .rintro j x ys σ H3 Kt Kf hx ⟨⟨x0,rfl⟩,rfl,s3,HP,ht,jY⟩ kt kf;obtain⟨bt,rfl,YD⟩:∃bt:Int,x=.int bt/\Ie n g hs L ss ls bt i=none:=by
     have no:∀bt:Int,bt<0\/(L:Int)<=bt->Ie n g hs L ss ls bt i=none:=fun bt z=>by
      unfold Ie;by_cases b0:0<=bt
      .rw[aq b0];unfold H_;exact ap fun y=>by have:=y.1;lia
      .exact ap b0
     match j,hx with
     |0,hx=>exact⟨_,(ba hx).symm,no _ (by lia)⟩
     |1,hx=>exact⟨_,(ba hx).symm,no _ (by lia)⟩
     |2,hx=>exact⟨_,(ba hx).symm,no _ (by lia)⟩
     |j+3,hx=>simp at hx
    have X3:=Xc.keep s3 HP;refine⟨_,rfl,_,rfl,_,rfl,_,rfl,_,rfl,_,rfl,nr,Lp,p,a,SA,LA,bJ,bB,n,L,g,hs,ns,ss,ls,i,bt,rfl,X3.net,X3.nL,X3.rn,X3.gd,X3.ha,X3.lg,LN,X3.A6,A4,hi,HP,fun v H4 LK s4 tl=>?_⟩;rw[YD] at tl;obtain rfl:v=.bR:=tl;refine⟨rfl,_,rfl,?_⟩;refine bW (fun e=>absurd e (by rw[bE rfl];decide)) (fun _=>kf _ _ ⟨⟨_,rfl⟩,rfl,s3.trans s4,LK,s4 _ _ ht (HP.not ht (by intro ps z;cases z)),s4 _ _ jY (HP.not jY (by intro ps z;cases z))⟩)
   rintro ys σ H3 ⟨_,rfl,s3,HP,_,jY⟩
   (try dsimp only)
   refine⟨by show 0<=sizeLine;decide,fun E1 P7=>?_⟩;have sE:=aj (o:=.lst []) P7;exact⟨D,E1,_,[],rfl,rfl,aU.of (sE _ _ jY),aU.of af,rfl,fun i h1 h2=>absurd h2 (by simp),q _ (qH HP sE) ((sc.trans s3).trans (dv.of sE))⟩
end
end AQ
namespace L2
open PySem PySem.Spec PyProof.Rows
section
variable {X:Cx}
theorem sR(hg:X.A.guards=some [])(hu:X.A.units+8<cLine):fA X (.builtin "repr") (fun xs H Q=>∃ (p:Addr) (d:PyData),xs=[.ref p]/\(∀ae σ s,aQ X ae σ H s->∃as,Reads s.heap (.ref p) d as)/\d.showable=true/\d.hasDict=false/\d.depth<=4/\d.shown.length<=sizeLine/\Q (.str d.shown) H):=by
 intro ae s σ H xs us Q I r h;obtain⟨p,d,rfl,hr,h1,h2,h3,h4,q⟩:=h;obtain⟨u,rfl,ru⟩:=r.one;obtain rfl:u=Value.ref p:=ru;obtain⟨as,rd⟩:=hr ae σ s I;exact repr_of_reads' rd h1 (PyData.noDict_hsm h2) hg (by lia) (fun b o e=>e) (fun h' u tk hk=>⟨.str d.shown,H,I.kept (t':=tk) hk,⟨u,rfl⟩,q⟩) h4
end
end L2
namespace AQ
open PySem L2
def dO:Option Nat->PyData
 |none=>.none
 |some h=>.int h
def dT(s:List (Option Nat)):PyData:=.tuple (s.map dO)
def A9(hs:List Int)(L:Nat)(ss ls:Nat->List (Option Nat)):PyData:=.tuple [.tuple (hs.map PyData.int),.list ((List.range (L+1)).map fun b=>dT (ss b)),.list ((List.range L).map fun b=>dT (ls b))]
theorem Cq{h:Heap}:∀ {hs:List Int} {us:List Value},aY (HV hs) us->∃as,ReadsAll h us (hs.map PyData.int) as
 |[],_,.nil=>⟨_,.nil⟩
 |z::zs,_,.cons ⟨t,e⟩ r=>by
  obtain⟨as,ih⟩:=Cq (h:=h) (hs:=zs) r;subst e;exact⟨_,.cons (.int z t) ih⟩
theorem Hj{h:Heap}:∀ {s:List (Option Nat)} {us:List Value},aY (SV s) us->∃as,ReadsAll h us (s.map dO) as
 |[],_,.nil=>⟨_,.nil⟩
 |none::zs,_,.cons e r=>by
  obtain⟨as,ih⟩:=Hj (h:=h) (s:=zs) r;obtain rfl:=(show _=Value.none from e)
  exact⟨_,.cons .none ih⟩
 |some z::zs,_,.cons ⟨t,e⟩ r=>by
  obtain⟨as,ih⟩:=Hj (h:=h) (s:=zs) r;subst e;exact⟨_,.cons (.int _ t) ih⟩
theorem Cr{h:Heap}:∀ {as:List Addr} {ds:List PyData} {us:List Value},as.length=ds.length->(∀ (k:Nat) (a:Addr) (d:PyData),as[k]?=some a->ds[k]?=some d->∃bs,Reads h (.ref a) d bs)->aY (as.map V.ref) us->∃bs,ReadsAll h us ds bs
 |[],[],_,_,_,.nil=>⟨_,.nil⟩
 |a::as,d::ds,_,hl,hk,.cons e r=>by
  obtain⟨bs,hb⟩:=hk 0 a d rfl rfl;obtain⟨cs,ih⟩:=Cr (h:=h) (as:=as) (ds:=ds) (by simpa using hl) (fun k a d e1 e2=>hk (k+1) a d e1 e2) r;obtain rfl:=(show _=Value.ref a from e)
  exact⟨_,.cons hb ih⟩
theorem A_{X:Cx}{ae:List (Addr×Obj)}{σ:St}{H:Hp}{s:Shared}{a:Addr}{xs:List V}{ds:List PyData}(I:aQ X ae σ H s)(h:H a=some (.tup xs))(hd:∀us,aY xs us->∃bs,ReadsAll s.heap us ds bs):∃bs,Reads s.heap (.ref a) (.tuple ds) bs:=by
 obtain⟨its,r,⟨o,ho,hc,n,xT⟩,_⟩:=I.tuple (cK.of h);obtain⟨bs,hb⟩:=hd its r;exact⟨_,.tuple ho hc xT (by simpa using hb)⟩
theorem OX{X:Cx}{ae:List (Addr×Obj)}{σ:St}{H:Hp}{s:Shared}{a:Addr}{xs:List V}{ds:List PyData}(I:aQ X ae σ H s)(h:H a=some (.lst xs))(hd:∀us,aY xs us->∃bs,ReadsAll s.heap us ds bs):∃bs,Reads s.heap (.ref a) (.list ds) bs:=by
 obtain⟨its,r,⟨o,n,ho,hc,_,xT⟩,_⟩:=I.list (aU.of h);obtain⟨bs,hb⟩:=hd its r;exact⟨_,.list ho hc xT (by simpa using hb)⟩
theorem Cs{X:Cx}{ae:List (Addr×Obj)}{σ:St}{H:Hp}{s:Shared}{a:Addr}{as:List Addr}{L:Nat}{f:Nat->List (Option Nat)}(I:aQ X ae σ H s)(h:H a=some (.lst (as.map V.ref)))(hh:Holds H as L (fun b=>.tup (SV (f b)))):∃bs,Reads s.heap (.ref a) (.list ((List.range L).map fun b=>dT (f b))) bs:=by
 refine OX I h fun us r=>Cr (by rw[hh.1,aF,dD]) (fun k x d e1 e2=>?_) r;have hk:k<L:=by have:=(cI.mp e1).1;rw[hh.1] at this;exact this
 rw[bp,kh hk] at e2;have ed:dT (f k)=d:=ba e2;subst ed;have hx:=hh.2 k hk;have ex:as.getD k 0=x:=by rw[bH,e1];rfl
 rw[ex] at hx;exact A_ I hx fun us r=>Hj r
theorem Hk{X:Cx}{ae:List (Addr×Obj)}{σ:St}{H:Hp}{s:Shared}{t a SA LA:Addr}{bJ bB:List Addr}{m L:Nat}{ss ls:Nat->List (Option Nat)}{hs:List Int}(I:aQ X ae σ H s)(ht:H t=some (.tup [.ref a,.ref SA,.ref LA]))(ha:H a=some (.tup (HV hs)))(LG:cQ H SA LA bJ bB m L ss ls):
  ∃as,Reads s.heap (.ref t) (A9 hs L ss ls) as:=by
 obtain⟨g1,g2,g3,g4,_,_⟩:=LG;refine A_ I ht fun us r=>?_;obtain⟨b1,h1⟩:=A_ I ha fun us r=>Cq r;obtain⟨b2,h2⟩:=Cs I g1 g3;obtain⟨b3,h3⟩:=Cs I g2 g4;cases r with
 |cons e1 r=>
  obtain rfl:=(show _=Value.ref a from e1)
  cases r with
  |cons e2 r=>
   obtain rfl:=(show _=Value.ref SA from e2)
   cases r with
   |cons e3 r=>
    obtain rfl:=(show _=Value.ref LA from e3)
    cases r;exact⟨_,.cons h1 (.cons h2 (.cons h3 .nil))⟩
def Ct:PyData->Bool
 |.none=>true
 |.int i=>decide (0<=i)&&decide (i<32)
 |_=>false
theorem Ba{d:PyData}(h:Ct d=true):d.showable=true/\d.hasDict=false/\d.depth=0/\d.leavesShort 8=true/\d.weight<=5:=by
 cases d with
 |none=>exact⟨rfl,rfl,rfl,rfl,by decide⟩
 |int i=>
  unfold Ct at h;rw[cX,dP,dP] at h;obtain⟨n,rfl⟩:∃n:Nat,i=n:=⟨i.toNat,by lia⟩
  have hn:n<32:=by lia
  have all:∀n:Nat,n<32->(PyData.int (n:Int)).showable=true/\(PyData.int (n:Int)).leavesShort 8=true/\(PyData.int (n:Int)).weight<=5:=by decide +kernel
  obtain⟨a1,a2,a3⟩:=all n hn;exact⟨a1,rfl,rfl,a2,a3⟩
 |_=>cases h
theorem uR:∀ {ds:List PyData},(∀d∈ds,Ct d=true)->PyData.showableAll ds=true/\PyData.hasDictAll ds=false/\PyData.depthAll ds=0/\PyData.leavesShortAll 8 ds=true/\PyData.weightAll ds<=6*ds.length
 |[],_=>⟨rfl,rfl,rfl,rfl,by decide⟩
 |d::ds,h=>by
  obtain⟨a1,a2,a3,a4,a5⟩:=Ba (h d cA);obtain⟨b1,b2,b3,b4,b5⟩:=uR (ds:=ds) fun x hx=>h x (cN _ hx);refine⟨?_,?_,?_,?_,?_⟩
  .unfold PyData.showableAll;rw[a1,b1];rfl
  .unfold PyData.hasDictAll;rw[a2,b2];rfl
  .unfold PyData.depthAll;rw[a3,b3];rfl
  .unfold PyData.leavesShortAll;rw[a4,b4];rfl
  .unfold PyData.weightAll;rw[cx];lia
def KA(d:PyData):Prop:=∃ds,d=.tuple ds/\ds.length<=16/\∀x∈ds,Ct x=true
theorem uS{d:PyData}(h:KA d):d.showable=true/\d.hasDict=false/\d.depth=1/\d.leavesShort 8=true/\d.weight<=96:=by
 obtain⟨ds,rfl,hl,hx⟩:=h;obtain⟨b1,b2,b3,b4,b5⟩:=uR hx;refine⟨?_,?_,?_,?_,?_⟩
 .unfold PyData.showable;exact b1
 .unfold PyData.hasDict;exact b2
 .unfold PyData.depth;rw[b3]
 .unfold PyData.leavesShort;exact b4
 .unfold PyData.weight;lia
theorem mR:∀ {ds:List PyData},(∀d∈ds,KA d)->PyData.showableAll ds=true/\PyData.hasDictAll ds=false/\PyData.depthAll ds<=1/\PyData.leavesShortAll 8 ds=true/\PyData.weightAll ds<=97*ds.length
 |[],_=>⟨rfl,rfl,by decide,rfl,by decide⟩
 |d::ds,h=>by
  obtain⟨a1,a2,a3,a4,a5⟩:=uS (h d cA);obtain⟨b1,b2,b3,b4,b5⟩:=mR (ds:=ds) fun x hx=>h x (cN _ hx);refine⟨?_,?_,?_,?_,?_⟩
  .unfold PyData.showableAll;rw[a1,b1];rfl
  .unfold PyData.hasDictAll;rw[a2,b2];rfl
  .unfold PyData.depthAll;rw[a3];lia
  .unfold PyData.leavesShortAll;rw[a4,b4];rfl
  .unfold PyData.weightAll;rw[cx];lia
theorem Hl{s:List (Option Nat)}(hl:s.length<=16)(h:sJ s):KA (dT s):=by
 refine⟨s.map dO,rfl,by rw[aF];exact hl,fun x hx=>?_⟩;obtain⟨o,ho,rfl⟩:=bO.mp hx;cases o with
 |none=>rfl
 |some y=>
  have:=h y ho;show (decide ((0:Int)<=(y:Int))&&decide ((y:Int)<32))=true;rw[bE (by lia),bE (by lia)];rfl
theorem DP{hs:List Int}{m L:Nat}{ss ls:Nat->List (Option Nat)}(hm:hs.length=m)(A6:m<=16)(L30:L<=160)(hh:∀h∈hs,0<=h/\h<32)(h5:∀b,b<=L->(ss b).length=m)(h6:∀b,b<L->(ls b).length=m)(s1:∀b,b<=L->sJ (ss b))(s2:∀b,b<L->sJ (ls b)):
  (A9 hs L ss ls).showable=true/\(A9 hs L ss ls).hasDict=false/\(A9 hs L ss ls).depth<=4/\(A9 hs L ss ls).shown.length<=sizeLine:=by
 have r1:KA (.tuple (hs.map PyData.int)):=by
  refine⟨_,rfl,by rw[aF];lia,fun x hx=>?_⟩;obtain⟨o,ho,rfl⟩:=bO.mp hx;have:=hh o ho;show (decide ((0:Int)<=o)&&decide (o<32))=true;rw[bE (by lia),bE (by lia)];rfl
 obtain⟨a1,a2,a3,a4,a5⟩:=uS r1;obtain⟨b1,b2,b3,b4,b5⟩:=mR (ds:=(List.range (L+1)).map fun b=>dT (ss b)) fun x hx=>by
  obtain⟨b,hb,rfl⟩:=bO.mp hx;have hb:=bu.mp hb;exact Hl (by rw[h5 b (by lia)];exact A6) (s1 b (by lia))
 obtain⟨c1,c2,c3,c4,c5⟩:=mR (ds:=(List.range L).map fun b=>dT (ls b)) fun x hx=>by
  obtain⟨b,hb,rfl⟩:=bO.mp hx;have hb:=bu.mp hb;exact Hl (by rw[h6 b hb];exact A6) (s2 b hb)
 rw[aF,dD] at b5 c5;have bs:(PyData.list ((List.range (L+1)).map fun b=>dT (ss b))).showable=true:=by unfold PyData.showable;exact b1
 have cs:(PyData.list ((List.range L).map fun b=>dT (ls b))).showable=true:=by unfold PyData.showable;exact c1
 have bd:(PyData.list ((List.range (L+1)).map fun b=>dT (ss b))).hasDict=false:=by unfold PyData.hasDict;exact b2
 have cd:(PyData.list ((List.range L).map fun b=>dT (ls b))).hasDict=false:=by unfold PyData.hasDict;exact c2
 have be:(PyData.list ((List.range (L+1)).map fun b=>dT (ss b))).depth<=2:=by unfold PyData.depth;lia
 have ce:(PyData.list ((List.range L).map fun b=>dT (ls b))).depth<=2:=by unfold PyData.depth;lia
 have bl:(PyData.list ((List.range (L+1)).map fun b=>dT (ss b))).leavesShort 8=true:=by unfold PyData.leavesShort;exact b4
 have cl:(PyData.list ((List.range L).map fun b=>dT (ls b))).leavesShort 8=true:=by unfold PyData.leavesShort;exact c4
 have bw:(PyData.list ((List.range (L+1)).map fun b=>dT (ss b))).weight<=97*(L+1):=by unfold PyData.weight;exact b5
 have cw:(PyData.list ((List.range L).map fun b=>dT (ls b))).weight<=97*L:=by unfold PyData.weight;exact c5
 unfold A9;refine⟨?_,?_,?_,PyData.shown_fits (B:=8) (by decide) (by decide) ?_ ?_⟩
 .simp only[PyData.showable,PyData.showableAll,a1,bs,cs] at *;simp[*]
 .simp only[PyData.hasDict,PyData.hasDictAll] at *;simp[*]
 .simp only[PyData.depth,PyData.depthAll] at *;lia
 .simp only[PyData.leavesShort,PyData.leavesShortAll] at *;simp[*]
 .simp only[PyData.weight,PyData.weightAll] at *;lia
open PySem L2 wv
open eT (eD NT qB wD fQ zr zp PO Zs dv lT)
abbrev yP:Stmt:=gR 60
section
variable {P:Program} {w:World} {K:PySem.W.Frag} {mg:Str->Option Value} {base:Heap}
def Mc(K:PySem.W.Frag)(H:Hp)(a:Addr)(xs:List V):Prop:=(∃o,H a=some (.jh o (.lst xs)))\/(∀H':Hp,aU K H' a xs)
theorem Mc.seq{H:Hp}{a:Addr}{xs:List V}(h:Mc K H a xs):aU K H a xs:=by
 rcases h with ⟨o,h⟩|h
 .exact .inl (.inr ⟨o,h⟩)
 .exact h H
theorem Mc.mono{H H':Hp}{a:Addr}{xs:List V}(h:Mc K H a xs)(e:∀o u,H a=some (.jh o (.lst u))->H' a=some (.jh o (.lst u))):Mc K H' a xs:=by
 rcases h with ⟨o,h⟩|h
 .exact .inl ⟨o,e _ _ h⟩
 .exact .inr h
def LD(H:Hp)(q:Addr):Prop:=(∃xs,H q=some (.lst xs))\/∃k,H q=some (.dK k)
theorem LD.ne{H:Hp}{q b:Addr}{o:HO}(h:LD H q)(e:H b=some o)(h1:∀xs,o≠.lst xs)(h2:∀k,o≠.dK k):b≠q:=by
 rintro rfl;rcases h with ⟨xs,z⟩|⟨k,z⟩
 .rw[e] at z;exact h1 _ (ba z)
 .rw[e] at z;exact h2 _ (ba z)
structure Kp(K:PySem.W.Frag)(Pt Pb a:Addr)(xs:List V)(H:Hp):Prop where
 s:Mc K H a xs
 t:qB Pt H
 b:k_ Pb H
theorem Kp.of{Pt Pb a:Addr}{xs:List V}{H H':Hp}(k:Kp K Pt Pb a xs H)(f:∀o u,H a=some (.jh o (.lst u))->H' a=some (.jh o (.lst u)))(up:∀b o,H b=some o->(b=Pt\/b=Pb\/∃p,o=.ext p)->H' b=some o):Kp K Pt Pb a xs H':=
 ⟨k.s.mono f,k.t.keep fun b o e z=>up b o e (z.elim .inl fun y=>.inr (.inr y)),k.b.keep fun b o e z=>up b o e (z.elim (fun y=>.inr (.inl y)) fun y=>.inr (.inr y))⟩
theorem Kp.oq{Pt Pb a:Addr}{xs:List V}{H:Hp}(k:Kp K Pt Pb a xs H){b:Addr}{o:HO}(e:H b=some o)(z:b=Pt\/b=Pb\/∃p,o=.ext p):(∀xs,o≠.lst xs)/\∀k,o≠.dK k:=by
 rcases z with rfl|rfl|⟨p,rfl⟩
 .rcases k.t with y|⟨c,y,_⟩ <;> (rw[e] at y;cases y;exact⟨fun _ z=>(by cases z),fun _ z=>(by cases z)⟩)
 .rcases k.b with y|⟨c,y,_⟩ <;> (rw[e] at y;cases y;exact⟨fun _ z=>(by cases z),fun _ z=>(by cases z)⟩)
 .exact⟨fun _ z=>(by cases z),fun _ z=>(by cases z)⟩
theorem Kp.eE{Pt Pb a q:Addr}{xs:List V}{H H':Hp}(k:Kp K Pt Pb a xs H)(s:aP q H H')(hq:LD H q):Kp K Pt Pb a xs H':=
 k.of (fun o u z=>s _ _ z (hq.ne z (by intro x y;cases y) (by intro x y;cases y))) fun b o e z=>s _ _ e (hq.ne e (k.oq e z).1 (k.oq e z).2)
theorem Kp.same{Pt Pb a:Addr}{xs:List V}{H H':Hp}(k:Kp K Pt Pb a xs H)(s:aI H H'):Kp K Pt Pb a xs H':=k.of (fun o u z=>s _ _ z) fun b o e _=>s _ _ e
theorem Kp.sQ{Pt Pb a:Addr}{xs:List V}{H H':Hp}(k:Kp K Pt Pb a xs H)(P9:Pt≠Pb)(s:dv Pb H H')(t:k_ Pb H'):Kp K Pt Pb a xs H':=by
 refine⟨k.s.mono fun o u z=>s _ _ z (k.b.not z (by intro ps z;cases z)),k.t.keep fun b o e z=>s _ _ e ?_,t⟩;rcases z with rfl|⟨p,rfl⟩
 .exact P9
 .exact k.b.not e (by intro ps z;cases z)
theorem aX.ld{H:Hp}{p:Addr}(h:aX H p):LD H p:=let ⟨a,b,e,_⟩:=h;.inl ⟨_,e⟩
theorem iz:aJ ["_law_script","_law_k","_law_pot_here","_law_sort","_law_outs","_law_fars_here","_law_homes","_law_stand","_law_stands","_law_log_here","_law_kept","_law_net_here","_law_i"] ["_law_script"] (am yP):=⟨rfl,rfl,rfl,by decide +kernel,rfl,by decide +kernel,by decide +kernel⟩
theorem Hm{g:Nat->List Nat}{s l:List (Option Nat)}(D:dw g s l){i o:Nat}(e:l.getD i none=some o):∃h,s.getD i none=some h/\o∈g h:=by
 cases es:s.getD i none with
 |none=>rw[D.bR i es] at e;cases e
 |some h=>
  obtain⟨o2,e2,m⟩:=D.tie i h es;rw[e] at e2;cases e2;exact⟨h,rfl,m⟩
def Cu(K:PySem.W.Frag)(Pt Pb:Addr):Sp:=fun vs H Q _=>∃ (a:Addr) (ns:List Int),vs=[.ref a]/\Mc K H a (ns.map V.int)/\ns.length<=63/\qB Pt H/\k_ Pb H/\∀H',Q (.bl true) H'
theorem OY{f C Pt Pb fI:Addr}{fd fdI:FuncData}(F:fW K "law" "law" yP f fd)(P9:Pt≠Pb)(B:Bl mg)(T:NT K mg C)(PO':cE P w K mg base bi 1 "_law_pot" ["_law_script","_law_k"] (FX K))(TK:cE P w K mg base bi 1 "_law_take" ["_law_pot_here","_law_many"] jJ)(NE:cE P w K mg base bi 3 "_law_net" ["_law_pot_here"] uG)(GR:cE P w K mg base bi 1 "_law_going_round" ["_law_outs"] N2)(FA:cE P w K mg base bi 2 "_law_fars" ["_law_outs"] AZ)(LE:cE P w K mg base bi 2 "_law_letters" ["_law_pot_here","_law_outs","_law_most"] Gq)(LO:cE P w K mg base bi 4 "_law_log" ["_law_pot_here","_law_outs","_law_fars_here","_law_homes","_law_stand","_law_sort"] A5)(CU:cE P w K mg base bi 2 "_law_cut" ["_law_pot_here","_law_stands","_law_log_here"] OD)(TI:cE P w K mg base bi 1 "_law_ties" ["_law_outs"] wU)(M:Mk K C fI)(bI:kH K fdI ["self","many","ties"] [])(GI:bC P w K mg base bi 7 fI fdI ["self","many","ties"] (wD C Pt))(LR:cE P w K mg base bi 12 "_law_letter_right" ["_law_net_here","_law_outs","_law_fars_here","_law_homes","_law_stands","_law_log_here","_law_i","_law_sort"] (OW C Pb)):
  bC P w K mg base bi 13 f fd ["_law_script"] (Cu K Pt Pb):=by
 refine F.ok iz (fun vs H Q E h=>?_) (fun dE A outer s0 H vs Q E hr h=>?_)
 .obtain⟨a,ns,rfl,_⟩:=h;rfl
 .obtain⟨a,ns,rfl,hS,M7,tb,tbb,q⟩:=h;have h1:cD 1 _:=hr.mono (by decide);have h2:cD 2 _:=hr.mono (by decide);have h3:cD 3 _:=hr.mono (by decide);have h4:cD 4 _:=hr.mono (by decide);have hu8:(A.deeper (PyProof.Rows.envOfC "law" (am yP) s0.heap.objs.size f dE)).units+8<cLine:=by have:=hr.un;lia
  have h8:cD 8 _:=hr.mono (by decide);refine⟨_,ah (cT dR rfl (cq rfl B.range (aa (av (tY rfl) (by rfl) B.max PyProof.Rows.boot_max (aa ao (aa (av (CN rfl) (by rfl) B.min PyProof.Rows.boot_min (aa (av aE (by rfl) B.len cL (aa (pv 0) ag)) (aa ao ag))) ag))) ag)) (au (i:=1) iz.nd rfl (Or.inl rfl))
    (ah (aK (i:=2) iz.nd rfl (Or.inl rfl) (aB PO' h1 aM (aa (pv 0) (aa (pv 1) ag))))
    (ah (aK (i:=3) iz.nd rfl (Or.inl rfl) (az aA (cZ (aa ao (aa ao (aa ao (aa ao ag))))) (aB TK h1 aM (aa (pv 2) (aa ao ag))) (fun _ _=>rfl)))
    (ah (aK (i:=4) iz.nd rfl (Or.inl rfl) (aB GR h1 aM (aa (aB NE h3 aM (aa (pv 2) ag)) ag)))
    (ah (aK (i:=5) iz.nd rfl (Or.inl rfl) (aB FA h2 aM (aa (pv 4) ag)))
    (ah (iR (aB LE h2 aM (aa (pv 2) (aa (pv 4) (aa (a_ cY ao (a_ ik ao (cr h9 (by rfl) B.int mV (aa (cy rq (pv 3) ao (aG _)) ag)))) ag)))) (fw (n:=2) rfl (a9 (au (i:=6) iz.nd rfl (Or.inl rfl)) (a9 (au (i:=7) iz.nd rfl (Or.inl rfl)) dZ))))
    (ah (iR (aB LO h4 aM (aa (pv 2) (aa (pv 4) (aa (pv 5) (aa (pv 6) (aa (pv 7) (aa (pv 3) ag))))))) (fw (n:=2) rfl (a9 (au (i:=8) iz.nd rfl (Or.inl rfl)) (a9 (au (i:=9) iz.nd rfl (Or.inl rfl)) dZ))))
    (ah (iR (aB CU h2 aM (aa (pv 2) (aa (pv 8) (aa (pv 9) ag)))) (fw (n:=2) rfl (a9 (au (i:=8) iz.nd rfl (Or.inl rfl)) (a9 (au (i:=9) iz.nd rfl (Or.inl rfl)) dZ))))
    (ah (aK (i:=10) iz.nd rfl (Or.inl rfl) (av (sR hr.gd hu8) (by rfl) B.repr PyProof.Rows.boot_repr (aa (eJ (aa (pv 6) (aa (pv 8) (aa (pv 9) ag)))) ag)))
    (ah (aK (i:=11) iz.nd rfl (Or.inl rfl) (Ix M GI h8 rfl T.mgC bI .nil aM (aa (av uH (by rfl) B.len cL (aa (pv 4) ag)) (aa (aB TI h1 aM (aa (pv 4) ag)) ag))))
    (ah (cT dR rfl (cq rfl B.range (aa (av aE (by rfl) B.len cL (aa (pv 6) ag)) ag)) (au (i:=12) iz.nd rfl (Or.inl rfl))
     (al (bA (eI (dA (aB LR hr aM (aa (pv 11) (aa (pv 4) (aa (pv 5) (aa (pv 6) (aa (pv 8) (aa (pv 9) (aa (pv 12) (aa (pv 3) ag))))))))))) dI aR)))
    (al (bA (aL m4 (av (sR hr.gd hu8) (by rfl) B.repr PyProof.Rows.boot_repr (aa (eJ (aa (pv 6) (aa (pv 8) (aa (pv 9) ag)))) ag)) (pv 10) (aG _)) dI aR)))))))))))))
   (al (aH g7)),?_⟩
  refine⟨_,rfl,a,_,rfl,.inl hS.seq,_,_,rfl,_,_,rfl,_,rfl,?_,?_,?_⟩
  .split <;> split <;> lia
  .split <;> split <;> lia
  have YH:(if (if (3:Int)<(((ns.map V.int).length:Nat):Int) then 3 else (((ns.map V.int).length:Nat):Int)) > 1 then (if (3:Int)<(((ns.map V.int).length:Nat):Int) then 3 else (((ns.map V.int).length:Nat):Int)) else 1).toNat<=3:=by split <;> split <;> lia
  refine df (lo:=0) (fun k σ Hc=>(∃v1 v2 v3 v4 v5 v6 v7 v8 v9 HY v11 v12,σ=[some (.ref a),v1,v2,v3,v4,v5,v6,v7,v8,v9,HY,v11,v12])/\Kp K Pt Pb a (ns.map V.int) Hc) ⟨⟨_,_,_,_,_,_,_,_,_,_,_,_,rfl⟩,hS,tb,tbb⟩ ?_ ?_
  .rintro k σ Hc hk ⟨⟨v1,v2,v3,v4,v5,v6,v7,v8,v9,HY,v11,v12,rfl⟩,kp⟩;have k3:k<3:=bT hk YH;rw[gL];refine⟨_,rfl,_,rfl,a,ns,k,rfl,kp.s.seq,by lia,fun p H1 RQ hp0 Gk=>?_⟩;have kp1:=kp.same RQ;refine⟨by show 4<=sizeLine;decide,fun l4 hl4=>?_⟩;have s4:=aj (o:=.lst [.int 0,.int 0,.int 1,.int 2]) hl4;have n4p:l4≠p:=by rintro rfl;exact Gk.some hl4
   refine⟨_,rfl,p,4,rfl,by decide,by decide,Gk.same s4,fun d ya yb d0 d1 a0 b0 b1=>?_⟩;obtain⟨so,es,so0,U_⟩:∃so:Int,fT [V.int 0,.int 0,.int 1,.int 2] d=some (.int so)/\0<=so/\so<=2:=by
    have:d=0\/d=1\/d=2\/d=3:=by lia
    rcases this with rfl|rfl|rfl|rfl
    .exact⟨0,rfl,by decide,by decide⟩
    .exact⟨0,rfl,by decide,by decide⟩
    .exact⟨1,rfl,by decide,by decide⟩
    .exact⟨2,rfl,by decide,by decide⟩
   refine⟨l4,_,_,_,rfl,rfl,aU.of (by rw[ak n4p];exact af),es,?_⟩;have OZ:aX (upd (upd H1 l4 (.lst [.int 0,.int 0,.int 1,.int 2])) p (.lst [.int ya,.int yb])) p:=aX.upd a0 b0 b1;have YI:Kp K Pt Pb a (ns.map V.int) (upd (upd H1 l4 (.lst [.int 0,.int 0,.int 1,.int 2])) p (.lst [.int ya,.int yb])):=(kp1.same s4).eE aP.upd (Gk.same s4).ld;generalize upd (upd H1 l4 (.lst [.int 0,.int 0,.int 1,.int 2])) p (.lst [.int ya,.int yb])=H1' at *;refine⟨_,rfl,p,rfl,OZ,fun O as n g H2 NN Gm y6=>?_⟩;have kp2:=YI.eE Gm OZ.ld;obtain⟨G,n2,HX,hO,Xx,aai,gC⟩:=NN;refine⟨O,as,n,g,rfl,G,gC,n2,HX,hO,fun O' nX g' H3 NN3 eg Gh yo=>?_⟩;have kp3:=kp2.eE Gh (.inr ⟨_,hO.dict⟩);obtain⟨G',_,_,YJ,aaj,YK,gC'⟩:=NN3;have Xh:p≠O:=by rintro rfl;exact OZ.some Xx
   have xa:aX H3 p:=by obtain⟨u,v,e,z⟩:=y6;exact⟨u,v,Gh _ _ e Xh,z⟩
   have qb:tQ nX n p:=fun h hh z=>by
    have:=YK h hh;rw[<-z] at this;exact y6.some this
   have Fi:=J_ G' gC' n2 HX;have Rn:uh n g':=by rw[eg];exact ON G
   refine⟨_,rfl,O',nX,n,g',rfl,YJ,Fi,fun r ds H4 FR4 OF4 NZ UM=>?_⟩;have kp4:=kp3.eE NZ (.inr ⟨_,YJ.dict⟩);have YL:p≠O':=by rintro rfl;obtain⟨u,v,e,_⟩:=xa;have:=YJ.dict;rw[e] at this;cases this
   have DY:aX H4 p:=by obtain⟨u,v,e,z⟩:=xa;exact⟨u,v,NZ _ _ e YL,z⟩
   have hmo:(0:Int)<=8+2*(if decide (so > 0)=true then 1 else 0)/\(8+2*(if decide (so > 0)=true then 1 else 0):Int)<=16:=⟨by split <;> lia,by split <;> lia⟩
   refine⟨_,rfl,_,rfl,_,rfl,_,_,rfl,rfl,.inr ⟨_,rfl,_,_,rfl,rfl,.inl ⟨by decide,by decide⟩,_,_,rfl,rfl,p,O',nX,n,g',_,rfl,hmo,DY,OF4,qb,n2,HX,fun t a4 b4 hs s H5 ht ha hb hl HZ R BH PZ HW=>?_⟩⟩;have kp5:=kp4.eE PZ DY.ld;have OF5:=OF4.eE PZ DY qb;have Ib:=FR4.eE PZ DY;refine⟨t,_,rfl,cK.of ht,rfl,_,_,rfl,_,_,rfl,rfl,?_⟩;refine⟨_,rfl,_,rfl,_,rfl,_,rfl,_,rfl,_,rfl,p,O',r,a4,b4,nX,ds,n,g',hs,s,so,rfl,⟨so0,U_⟩,HW,qb,OF5,Ib,G',ha,hb,hl.symm,HZ,R,BH,fun t5 SA0 LA0 YM YN L0 ss ls H6 ht5 LG0 LN0 L60 Vk Vl YO YQ=>?_⟩;have kp6:=kp5.eE Vk HW.ld;have OF6:=OF5.eE Vk HW qb;have FR6:=Ib.eE Vk HW;have nS0:SA0≠p:=by rintro rfl;exact HW.some YO
   have nL0:LA0≠p:=by rintro rfl;exact HW.some YQ
   refine⟨t5,_,rfl,cK.of ht5,rfl,_,_,rfl,_,_,rfl,rfl,?_⟩;refine⟨_,rfl,_,rfl,_,rfl,p,SA0,LA0,YM,YN,s.length,L0,ss,ls,rfl,Vl,LG0,nS0,nL0,L60,fun t6 SA LA bJ bB L H6' Vd LG hLL Sv Va KB aak=>?_⟩;have LN:=LN0.cut hLL;have YR:=kp6.eE KB Vl.ld;have YS:=OF6.eE KB Vl qb;have YT:=FR6.eE KB Vl;have SZ:a4≠p:=by rintro rfl;obtain⟨u,v,e,_⟩:=HW;rw[e] at ha;cases ha
   have ha6:=KB _ _ (Vk _ _ ha SZ) SZ;refine⟨t6,_,rfl,cK.of Vd,rfl,_,_,rfl,_,_,rfl,rfl,?_⟩;have S0:L<=160:=bj hLL L60;have YU:∀b,b<=L->sJ (ss b):=fun b hb h hm=>by
    obtain⟨i,hi,ei⟩:=lL.mp hm;exact bT (LN.r.lt b hb i h (by rw[bH,b9 hi,ei];rfl)) HX
   have YV:∀b,b<L->sJ (ls b):=fun b hb o hm=>by
    obtain⟨i,hi,ei⟩:=lL.mp hm;have eo:(ls b).getD i none=some o:=by rw[bH,b9 hi,ei];rfl
    obtain⟨h,h1,h2⟩:=Hm (LN.r.tie b hb) eo;exact bT (G'.lt h (LN.r.lt b (eC hb) i h h1) o h2).1 HX
   obtain⟨YW,YX,YY,YZ⟩:=DP (hs:=hs) (m:=s.length) (L:=L) (ss:=ss) (ls:=ls) hl HZ S0 (fun h hm=>⟨(BH.1 h hm).1,by have:=(BH.1 h hm).2;lia⟩) LG.2.2.2.2.1 (fun b hb=>by rw[(LG.2.2.2.2.2 b hb).1];exact LG.2.2.2.2.1 b (by lia)) YU YV;generalize C6:A9 hs L ss ls=dl at YW YX YY YZ;refine⟨_,rfl,_,rfl,_,rfl,by show 3<=sizeLine;decide,fun t7 Y0=>⟨t7,dl,rfl,fun ae σ' s' I=>?_,YW,YX,YY,YZ,?_⟩⟩
   .rw[<-C6];exact Hk I af (aj Y0 _ _ ha6) (LG.same (aj Y0))
   have S4:=aj (o:=.tup [.ref a4,.ref SA,.ref LA]) Y0;have S5:=YR.same S4;have Vm:=YS.same S4;have FRR:=YT.same S4;have haR:=S4 _ _ ha6;have LGR:=LG.same S4;generalize upd H6' t7 (.tup [.ref a4,.ref SA,.ref LA])=HR at *;obtain⟨oo,hdF⟩:=Vm.dict;refine⟨_,rfl,O',_,rfl,⟨oo,hdF⟩,_,rfl,O',nX,n,g',rfl,Vm,G',HX,fun l zs H7 s7 hl7 hz7 po7 ez=>fun px dx nx ndx nex=>?_⟩;have kp7:=S5.same s7;have sN:aI H7 (upd (upd H7 dx (.own px)) px (.ins C dx [])):=(aj (o:=.own px) ndx).trans (aj (D:=px) (o:=.ins C dx []) (by rw[ak nex.symm];exact nx));have gpx:(upd (upd H7 dx (.own px)) px (.ins C dx [])) px=some (.ins C dx []):=af;have pxN:HR px=none:=s7.free nx;generalize upd (upd H7 dx (.own px)) px (.ins C dx [])=HM at *;have kpM:=kp7.same sN;have sM:aI HR HM:=s7.trans sN;have TM:fQ HM l n zs:=⟨by rw[ez];exact Fi,sN _ _ hz7,fun z hz=>sN _ _ (po7 z hz)⟩
   refine⟨px,dx,n,l,zs,by rw[d_];rfl,gpx,TM,kpM.t,fun H8 N8 t8 s8=>⟨rfl,?_⟩⟩;rw[ez] at N8;have up8:∀b o,HR b=some o->b≠Pt->H8 b=some o:=fun b o e z=>s8 _ _ (sM _ _ e) (ai e pxN) z;have Ih:∀b o,HR b=some o->(∀ps,o≠.oq ps)->H8 b=some o:=fun b o e z=>up8 b o e (S5.t.not e z);have Y1:k_ Pb H8:=S5.b.keep fun b o e z=>up8 b o e (by
    rcases z with rfl|⟨p,rfl⟩
    .exact P9.symm
    .exact S5.t.not e (by intro ps w;cases w))
   obtain⟨g1,g2,g3,g4,g5,g6⟩:=LGR;have LG8:cQ H8 SA LA bJ bB hs.length L ss ls:=⟨Ih _ _ g1 (by intro ps w;cases w),Ih _ _ g2 (by intro ps w;cases w),g3.mono fun j _ e=>Ih _ _ e (by intro ps w;cases w),g4.mono fun j _ e=>Ih _ _ e (by intro ps w;cases w),fun b hb=>by rw[hl];exact g5 b hb,g6⟩
   have Y2:¬ (HM Pb=none):=by
    have:=kpM.b;intro z;rcases this with y|⟨_,y,_⟩ <;> (rw[z] at y;cases y)
   have X8:Ev (decide (so=0)) C Pb (fun b=>HM b=none) px O' r a4 SA LA nX ds bJ bB n L g' hs [] ss ls H8:=by
    refine⟨N8,Y2,Rn,G',⟨⟨oo,Ih _ _ hdF (by intro ps w;cases w)⟩,Vm.rows.mono fun j _ e=>Ih _ _ e (by intro ps w;cases w),Vm.inj⟩,⟨?_,fun j hj=>?_⟩,Ih _ _ haR (by intro ps w;cases w),LG8,LN,by lia,by lia,Y1⟩
    .exact Ih _ _ FRR.dict (by intro ps w;cases w)
    .obtain⟨Rr,x,y⟩:=FRR.rows j hj;exact⟨Rr,Ih _ _ x (by intro ps w;cases w),y⟩
   have kp8:Kp K Pt Pb a (ns.map V.int) H8:=⟨S5.s.mono fun o u z=>Ih _ _ z (by intro ps w;cases w),t8,Y1⟩
   refine⟨_,rfl,a4,_,rfl,.inr (cK.of X8.ha),(hs.length:Nat),by rw[aF],by lia,by lia,?_⟩;refine df (n:=hs.length) (lo:=0) (fun i σ H9=>(∃v,σ=[some (.ref a),some (.int k),some (.ref p),some (.int so),some (.ref O'),some (.ref r),some (.ref a4),some (.ref b4),some (.ref SA),some (.ref LA),some (.str dl.shown),some (.ref px),v])/\dv Pb H8 H9/\k_ Pb H9) ⟨⟨_,rfl⟩,dv.of (aI.refl _),Y1⟩ ?_ ?_
   .rintro i σ H9 hi ⟨⟨v,rfl⟩,s9,Vn⟩;rw[gL];exact⟨_,rfl,_,rfl,_,rfl,_,rfl,_,rfl,_,rfl,_,rfl,_,rfl,so,_,_,px,O',r,a4,SA,LA,nX,ds,bJ,bB,n,L,g',hs,[],ss,ls,i,rfl,rfl,X8.keep s9 Vn,hi,fun H10 Y3 s10=>⟨_,rfl,lG ⟨⟨_,rfl⟩,s9.trans s10,Y3⟩⟩⟩
   .rintro σ H9 ⟨⟨v,rfl⟩,s9,Vn⟩;have X9:=X8.keep s9 Vn;refine⟨_,rfl,_,rfl,_,rfl,by show 3<=sizeLine;decide,fun t9 Y4=>⟨t9,dl,rfl,fun ae σ' s' I=>?_,YW,YX,YY,YZ,_,rfl,rfl,_,rfl,?_⟩⟩
    .rw[<-C6];exact Hk I af (aj Y4 _ _ X9.ha) (X9.lg.same (aj Y4))
    .exact bW (fun e=>absurd e (by simp)) (fun _=>⟨⟨_,_,_,_,_,_,_,_,_,_,_,_,rfl⟩,(kp8.sQ P9 s9 Vn).same (aj Y4)⟩)
  .rintro σ Hc _;exact q Hc
end
open eT (NT o6)
def FD(K:PySem.W.Frag)(n:Str)(st:Stmt):Prop:=∃ (f:Addr) (oc:Value) (od an:Option Addr) (sl:Array (Option Value)) (kV dc pm cd ct:Value),PySem.W.nsIn K mainGlobals n=some (some (.ref f))/\K.lookup f=some ⟨oc,od,.func (PySem.W.fnOf n n (dt st) (cz st) (am st) .none kV dc pm an cd ct),sl⟩/\PySem.W.codeIn K cd n=true/\PySem.W.keepIn K (.ref f)=true
def FC(K:PySem.W.Frag)(n:Str)(st:Stmt)(c:Addr):Prop:=∃ (f:Addr) (oc:Value) (od an:Option Addr) (sl:Array (Option Value)) (kV dc pm ct:Value),PySem.W.nsIn K mainGlobals n=some (some (.ref f))/\K.lookup f=some ⟨oc,od,.func (PySem.W.fnOf n n (dt st) (cz st) (am st) .none kV dc pm an (.ref c) ct),sl⟩/\PySem.W.codeIn K (.ref c) n=true/\PySem.W.keepIn K (.ref f)=true
def MD(K:PySem.W.Frag)(C:Addr)(n q:Str)(st:Stmt):Prop:=∃ (f:Addr) (oc:Value) (od an:Option Addr) (sl:Array (Option Value)) (kV dc pm cd ct:Value),PySem.W.findIn K (.ref C) n=some (some (.ref f))/\PySem.W.isFn K (.ref f)=true/\K.lookup f=some ⟨oc,od,.func (PySem.W.fnOf n q (dt st) (cz st) (am st) .none kV dc pm an cd ct),sl⟩/\PySem.W.codeIn K cd q=true/\PySem.W.keepIn K (.ref f)=true
def MC(K:PySem.W.Frag)(C:Addr)(n q:Str)(st:Stmt)(c:Addr):Prop:=∃ (f:Addr) (oc:Value) (od an:Option Addr) (sl:Array (Option Value)) (kV dc pm ct:Value),PySem.W.findIn K (.ref C) n=some (some (.ref f))/\PySem.W.isFn K (.ref f)=true/\K.lookup f=some ⟨oc,od,.func (PySem.W.fnOf n q (dt st) (cz st) (am st) .none kV dc pm an (.ref c) ct),sl⟩/\PySem.W.codeIn K (.ref c) q=true/\PySem.W.keepIn K (.ref f)=true
section
variable {P:Program} {w:World} {K:PySem.W.Frag} {mg:Str->Option Value} {base h:Heap} {n q:Str} {st:Stmt} {f c C:Addr} {oc kV dc pm cd ct:Value} {od an:Option Addr} {sl:Array (Option Value)} {CX:xr} {k:Nat} {ps:List Str} {sp:Sp}
theorem FD.mk(a:PySem.W.nsIn K mainGlobals n=some (some (.ref f)))(l:K.lookup f=some ⟨oc,od,.func (PySem.W.fnOf n n (dt st) (cz st) (am st) .none kV dc pm an cd ct),sl⟩)(d:PySem.W.codeIn K cd n=true)(k:PySem.W.keepIn K (.ref f)=true):FD K n st:=⟨f,oc,od,an,sl,kV,dc,pm,cd,ct,a,l,d,k⟩
theorem FC.mk(a:PySem.W.nsIn K mainGlobals n=some (some (.ref f)))(l:K.lookup f=some ⟨oc,od,.func (PySem.W.fnOf n n (dt st) (cz st) (am st) .none kV dc pm an (.ref c) ct),sl⟩)(d:PySem.W.codeIn K (.ref c) n=true)(k:PySem.W.keepIn K (.ref f)=true):FC K n st c:=⟨f,oc,od,an,sl,kV,dc,pm,ct,a,l,d,k⟩
theorem MD.mk(a:PySem.W.findIn K (.ref C) n=some (some (.ref f)))(i:PySem.W.isFn K (.ref f)=true)(l:K.lookup f=some ⟨oc,od,.func (PySem.W.fnOf n q (dt st) (cz st) (am st) .none kV dc pm an cd ct),sl⟩)(d:PySem.W.codeIn K cd q=true)(k:PySem.W.keepIn K (.ref f)=true):MD K C n q st:=⟨f,oc,od,an,sl,kV,dc,pm,cd,ct,a,i,l,d,k⟩
theorem MC.mk(a:PySem.W.findIn K (.ref C) n=some (some (.ref f)))(i:PySem.W.isFn K (.ref f)=true)(l:K.lookup f=some ⟨oc,od,.func (PySem.W.fnOf n q (dt st) (cz st) (am st) .none kV dc pm an (.ref c) ct),sl⟩)(d:PySem.W.codeIn K (.ref c) q=true)(k:PySem.W.keepIn K (.ref f)=true):MC K C n q st c:=⟨f,oc,od,an,sl,kV,dc,pm,ct,a,i,l,d,k⟩
def BD(n q:Str)(st:Stmt)(ps:List Str):Prop:=∀ (kV m5 pm:Value) (an:Option Addr) (dE ct:Value) (us:List Value),us.length=ps.length->bindArgs (PySem.W.fnOf n q (dt st) (cz st) (am st) .none kV m5 pm an dE ct) ⟨us,[]⟩=pure (ps.zip us)
theorem FD.g_(X:K.In h)(G:h.Ns mainGlobals mg)(D:FD K n st)(b:BD n n st ps)(o:∀ {f fd},fW K n n st f fd->bC P w K mg base CX k f fd ps sp):cE P w K mg base CX k n ps sp:=by
 obtain⟨f,_,_,_,_,_,_,_,_,_,a,l,d,kp⟩:=D;have F:=vS (x:=n) (qual:=n) (st:=st) l d kp;exact⟨⟨f,_,ml X G a,kp,F.binds b,o F⟩⟩
theorem FC.g_(X:K.In h)(G:h.Ns mainGlobals mg)(D:FC K n st c)(b:BD n n st ps)(o:∀ {f fd},xN K n n st f fd c->bC P w K mg base CX k f fd ps sp):cE P w K mg base CX k n ps sp:=by
 obtain⟨f,_,_,_,_,_,_,_,_,a,l,d,kp⟩:=D;have F:=IZ (x:=n) (qual:=n) (st:=st) l d kp;exact⟨⟨f,_,ml X G a,kp,F.fun.binds b,o F⟩⟩
theorem MD.g_(D:MD K C n q st)(b:BD n q st ps)(o:∀ {f fd},fW K n q st f fd->bC P w K mg base CX k f fd ps sp):o6 P w K mg base CX k C n ps sp:=by
 obtain⟨f,_,_,_,_,_,_,_,_,_,a,i,l,d,kp⟩:=D;have F:=vS (x:=n) (qual:=q) (st:=st) l d kp;exact⟨⟨f,_,⟨a,i,kp⟩,F.binds b,o F⟩⟩
end
theorem nV{α:Type}{P:List α->Prop}(h:∀a0,P [a0])(l:List α)(e:l.length=1):P l:=by
 cases l with
 |nil=>cases e
 |cons a t=>cases t with
  |nil=>exact h a
  |cons b t=>cases e
theorem iP{α:Type}{P:List α->Prop}(h:∀a0 a1,P [a0,a1])(l:List α)(e:l.length=2):P l:=by
 cases l with
 |nil=>cases e
 |cons a t=>exact nV (P:=fun t=>P (a::t)) (h a) t (ky e)
theorem lc{α:Type}{P:List α->Prop}(h:∀a0 a1 a2,P [a0,a1,a2])(l:List α)(e:l.length=3):P l:=by
 cases l with
 |nil=>cases e
 |cons a t=>exact iP (P:=fun t=>P (a::t)) (h a) t (ky e)
theorem yQ{α:Type}{P:List α->Prop}(h:∀a0 a1 a2 a3,P [a0,a1,a2,a3])(l:List α)(e:l.length=4):P l:=by
 cases l with
 |nil=>cases e
 |cons a t=>exact lc (P:=fun t=>P (a::t)) (h a) t (ky e)
theorem sS{α:Type}{P:List α->Prop}(h:∀a0 a1 a2 a3 a4,P [a0,a1,a2,a3,a4])(l:List α)(e:l.length=5):P l:=by
 cases l with
 |nil=>cases e
 |cons a t=>exact yQ (P:=fun t=>P (a::t)) (h a) t (ky e)
theorem yR{α:Type}{P:List α->Prop}(h:∀a0 a1 a2 a3 a4 a5,P [a0,a1,a2,a3,a4,a5])(l:List α)(e:l.length=6):P l:=by
 cases l with
 |nil=>cases e
 |cons a t=>exact sS (P:=fun t=>P (a::t)) (h a) t (ky e)
theorem Hn{α:Type}{P:List α->Prop}(h:∀a0 a1 a2 a3 a4 a5 a6,P [a0,a1,a2,a3,a4,a5,a6])(l:List α)(e:l.length=7):P l:=by
 cases l with
 |nil=>cases e
 |cons a t=>exact yR (P:=fun t=>P (a::t)) (h a) t (ky e)
theorem Md{α:Type}{P:List α->Prop}(h:∀a0 a1 a2 a3 a4 a5 a6 a7,P [a0,a1,a2,a3,a4,a5,a6,a7])(l:List α)(e:l.length=8):P l:=by
 cases l with
 |nil=>cases e
 |cons a t=>exact Hn (P:=fun t=>P (a::t)) (h a) t (ky e)
theorem S6{α:Type}{P:List α->Prop}(h:∀a0 a1 a2 a3 a4 a5 a6 a7 a8,P [a0,a1,a2,a3,a4,a5,a6,a7,a8])(l:List α)(e:l.length=9):P l:=by
 cases l with
 |nil=>cases e
 |cons a t=>exact Md (P:=fun t=>P (a::t)) (h a) t (ky e)
theorem O0{l:PySem.W.OpenLaw}{w:World}{K:PySem.W.Frag}{h:Heap}{mg:Str->Option Value}{fa:Addr}(X:K.In h)(G:h.Ns mainGlobals mg)(hfa:mg "law"=some (.ref fa)){C cO Pt cB Pb:Addr}{qd tR qe:Tok}(aC:PySem.W.nsIn K mainGlobals "Net"=some (some (.ref C)))(Cv:FD K "is_whole" eT.oX)(yS:FD K "is_whole_within" eT.lr)(KC:FD K "is_house" eT.AI)(S7:FD K "is_row" eT.Nt)(S8:FD K "are_unlike_houses" eT.Nx)(S9:FD K "is_tie" eT.Nv)(KD:FD K "check_ties" eT.AL)(S_:FD K "check_balance" eT.Nw)(O1:FC K "houses_out" eT.yj cO)(O2:FD K "distances_from" eT.FN)(KE:FD K "check_reached" eT.AM)(Ho:FD K "is_handed_on" wP)(O4:FD K "is_sent_from" GB)(KG:FD K "is_chain" wQ)(Ta:FD K "is_straight" Of)(Tb:FD K "taker" OM)(Tc:FD K "is_led" Ys)(Y5:FD K "good_tie_taker" Yt)(Y6:FD K "chain_along" Yu)(Y7:FC K "blame" Vg cB)(Td:FD K "_law_pot" NM)(O5:FD K "_law_take" FV)(O6:FD K "_law_shuffled" FW)(O7:FD K "_law_joined" B7)(KH:FD K "_law_words" wJ)(Te:FD K "_law_net" Gi)(Y8:FD K "_law_going_round" UU)(KI:FD K "_law_ties" wS)(O8:FD K "_law_far" yi)(KJ:FD K "_law_fars" GQ)(Tf:FD K "_law_letters" JU)(Tg:FD K "_law_behind" N_)(Th:FD K "_law_is_led" Oj)(Y9:FD K "_law_goods" XR)(Y_:FD K "_law_order" XW)(Za:FD K "_law_by_order" XX)(Zb:FD K "_law_taker" XS)(Zc:FD K "_law_blame" Yc)(Zd:FD K "_law_cut" Yd)(Ze:FD K "_law_is_list" Ye)(Ti:FD K "_law_log" OB)(Zf:FD K "_law_told_right" Yz)(Zg:FD K "_law_letter_right" YG)(Tj:FD K "law" yP)(O9:MD K C "__init__" "Net.__init__" eT.B0)(KL:MD K C "check_house" "Net.check_house" eT.AK)(Tl:MD K C "far" "Net.far" eT.yi)(O_:MD K C "good" "Net.good" eT.FH)(pg:PySem.W.plainGet K C Str.empty=true)(Zh:PySem.W.hasDictIn K C=true)(po:PySem.W.plainOver K C=true)(sa:PySem.W.findIn K (.ref C) "__setattr__"=some (some (.builtin "object.__setattr__")))(mk:PySem.W.makesIn K C=true)(kc:PySem.W.keepIn K (.ref C)=true)(nH:PySem.W.findIn K (.ref C) "house_count"=some none)(nT:PySem.W.findIn K (.ref C) "tie_list"=some none)(nO:PySem.W.findIn K (.ref C) "out_lists"=some none)(nD:PySem.W.findIn K (.ref C) "distances"=some none)(nW:PySem.W.nsIn K mainGlobals "isinstance"=some none)(Me:PySem.W.nsIn K mainGlobals "int"=some none)(Hr:PySem.W.nsIn K mainGlobals "bool"=some none)(Hs:PySem.W.nsIn K mainGlobals "list"=some none)(Cw:PySem.W.nsIn K mainGlobals "tuple"=some none)(Pa:PySem.W.nsIn K mainGlobals "dict"=some none)(Mf:PySem.W.nsIn K mainGlobals "len"=some none)(Cy:PySem.W.nsIn K mainGlobals "range"=some none)(yT:PySem.W.nsIn K mainGlobals "enumerate"=some none)(Mg:PySem.W.nsIn K mainGlobals "all"=some none)(Tn:PySem.W.nsIn K mainGlobals "abs"=some none)(Mh:PySem.W.nsIn K mainGlobals "max"=some none)(Mi:PySem.W.nsIn K mainGlobals "min"=some none)(Pc:PySem.W.nsIn K mainGlobals "repr"=some none)(Tp:PySem.W.nsIn K mainGlobals "str"=some none)(Tq:PySem.W.nsIn K mainGlobals "set"=some none)(Ht:PySem.W.nsIn K mainGlobals "sorted"=some none)(Tr:PySem.W.nsIn K mainGlobals "any"=some none)(w5:PySem.W.nsIn K mainGlobals "ValueError"=some none)(qg:PySem.W.nsIn K mainGlobals "FEWEST_HOUSES"=some (some (.int 2 qd)))(tS:PySem.W.nsIn K mainGlobals "MOST_HOUSES"=some (some (.int 32 tR)))(qh:PySem.W.nsIn K mainGlobals "MOST_TIES_OUT"=some (some (.int 8 qe)))(P9:Pt≠Pb)(Pd:PySem.W.codeHdIn K cO Pt=true)(Zi:PySem.W.codeHdIn K cB Pb=true):
  ∃fd:FuncData,(∀ (s:Shared) (v:Value),BindsTo s fd ⟨[v],[]⟩ [("_law_script",v)])/\∀base:Heap,K.In base->base.Ns mainGlobals mg->tK mg base->bC l.prog w K mg base bi 13 fa fd ["_law_script"] (Cu K Pt Pb):=by
 obtain⟨aac,oc,od,an,sl,kV,dc,pm,cd,ct,Tt,Tv,Tw,Tx⟩:=Tj;have e:=hfa.symm.trans (ml X G Tt);cases e;have Tz:=vS (x:="law") (qual:="law") (st:=yP) Tv Tw Tx;obtain⟨f_i,oci,odi,ani,sli,kVi,dci,pmi,cdi,cti,a_i,i_i,l_i,d_i,k_i⟩:=O9;have yU:=vS (x:="__init__") (qual:="Net.__init__") (st:=eT.B0) l_i d_i k_i;have Hu:=yU.binds (ps:=["self","many","ties"]) fun _ _ _ _ _ _=>lc fun _ _ _=>rfl;have MK:Mk K C f_i:=⟨mk,a_i,i_i,kc⟩
 have B:Bl mg:=⟨dh X G nW,dh X G Me,dh X G Hr,dh X G Hs,dh X G Cw,dh X G Pa,dh X G Mf,dh X G Cy,dh X G yT,dh X G Mg,dh X G Tn,dh X G Mh,dh X G Mi,dh X G Pc⟩
 have T:NT K mg C:=⟨⟨pg,Zh,po,sa⟩,nH,nT,nO,nD,ml X G aC⟩
 have KM:eT.Bl mg:=⟨dh X G nW,dh X G Me,dh X G Hr,dh X G Cw,dh X G Hs,dh X G Tp,dh X G Tq,dh X G Mf,dh X G Cy,dh X G Ht,dh X G Tr,dh X G Mh,dh X G Mi,dh X G w5,dh X G Mg⟩
 refine⟨PySem.W.fnOf "law" "law" (dt yP) (cz yP) (am yP) .none kV dc pm an cd ct,fun s v=>.of_eq rfl,fun base kb nb hb=>?_⟩;have KN:cE l.prog w K mg base bi 1 "is_whole" ["thing"] (eT.jH K):=FD.g_ X G Cv (fun _ _ _ _ _ _=>nV fun _=>rfl) fun w6=>eT.sf w6 KM;have yV:cE l.prog w K mg base bi 2 "is_whole_within" ["thing","least","most"] (eT.gJ K):=FD.g_ X G yS (fun _ _ _ _ _ _=>lc fun _ _ _=>rfl) fun sU=>eT.oY sU KN;have Cz:cE l.prog w K mg base bi 3 "is_house" ["many","thing"] (eT.qA K):=FD.g_ X G KC (fun _ _ _ _ _ _=>iP fun _ _=>rfl) fun KO=>eT.FB KO yV;have TB:cE l.prog w K mg base bi 1 "is_row" ["thing","length"] (eT.FE K):=FD.g_ X G S7 (fun _ _ _ _ _ _=>iP fun _ _=>rfl) fun TC=>eT.Nu TC KM;have TD:cE l.prog w K mg base bi 4 "are_unlike_houses" ["many","one","other"] eT.FI:=FD.g_ X G S8 (fun _ _ _ _ _ _=>lc fun _ _ _=>rfl) fun TF=>eT.Ny TF Cz;have TH:cE l.prog w K mg base bi 5 "is_tie" ["many","thing"] eT.FJ:=FD.g_ X G S9 (fun _ _ _ _ _ _=>iP fun _ _=>rfl) fun TJ=>eT.Nz TJ TB TD;have KP:cE l.prog w K mg base bi 6 "check_ties" ["many","ties"] eT.lu:=FD.g_ X G KD (fun _ _ _ _ _ _=>iP fun _ _=>rfl) fun KQ=>eT.FL KQ KM ⟨_,ml X G qg⟩ ⟨_,ml X G tS⟩ yV TH;have TL:cE l.prog w K mg base bi 1 "check_balance" ["many","ties"] eT.lu:=FD.g_ X G S_ (fun _ _ _ _ _ _=>iP fun _ _=>rfl) fun TN=>eT.NA TN KM ⟨_,ml X G qh⟩;have Pe:cE l.prog w K mg base bi 1 "houses_out" ["many","ties","house"] (eT.wA Pt):=FC.g_ X G O1 (fun _ _ _ _ _ _=>lc fun _ _ _=>rfl) fun Pf=>eT.JG Pf KM kb hb Pd;have Pg:cE l.prog w K mg base bi 1 "distances_from" ["out_lists","start"] eT.wB:=FD.g_ X G O2 (fun _ _ _ _ _ _=>iP fun _ _=>rfl) fun Ph=>eT.JH Ph KM;have KR:cE l.prog w K mg base bi 1 "check_reached" ["distances"] eT.wC:=FD.g_ X G KE (fun _ _ _ _ _ _=>nV fun _=>rfl) fun KS=>eT.FT KS KM;have Pi:bC l.prog w K mg base bi 7 f_i _ ["self","many","ties"] (eT.wD C Pt):=eT.JK yU T KM KP TL Pe Pg KR;have KU:o6 l.prog w K mg base bi 4 C "check_house" ["self","thing"] (eT.si C):=MD.g_ KL (fun _ _ _ _ _ _=>iP fun _ _=>rfl) fun DQ=>eT.Dz DQ T Cz;have Hv:o6 l.prog w K mg base bi 5 C "far" ["self","one","other"] (eT.o7 C):=MD.g_ Tl (fun _ _ _ _ _ _=>lc fun _ _ _=>rfl) fun KW=>eT.JB KW T KU;have Pj:o6 l.prog w K mg base bi 6 C "good" ["self","house","home"] (eT.qG C):=MD.g_ O_ (fun _ _ _ _ _ _=>lc fun _ _ _=>rfl) fun Hw=>eT.G5 Hw T Hv;have Hy:cE l.prog w K mg base bi 1 "is_whole" ["thing"] jH:=FD.g_ X G Cv (fun _ _ _ _ _ _=>nV fun _=>rfl) fun w6=>sf w6 B;have DR:cE l.prog w K mg base bi 2 "is_whole_within" ["thing","least","most"] gJ:=FD.g_ X G yS (fun _ _ _ _ _ _=>lc fun _ _ _=>rfl) fun sU=>oY sU Hy;have sV:cE l.prog w K mg base bi 3 "is_handed_on" ["stands","log","letter","beat"] kX:=FD.g_ X G Ho (fun _ _ _ _ _ _=>yQ fun _ _ _ _=>rfl) fun Hz=>DJ Hz B DR;have Pk:cE l.prog w K mg base bi 4 "is_sent_from" ["stands","log","letter","beat","house"] AW:=FD.g_ X G O4 (fun _ _ _ _ _ _=>sS fun _ _ _ _ _=>rfl) fun Pl=>J2 Pl sV;have CC:cE l.prog w K mg base bi 5 "is_chain" ["homes","stands","log","letter","beat","thing"] qE:=FD.g_ X G KG (fun _ _ _ _ _ _=>yR fun _ _ _ _ _ _=>rfl) fun KY=>GE KY B sV Pk;have TQ:cE l.prog w K mg base bi 6 "is_straight" ["net","homes","stands","log","letter","beat","chain"] (GW C):=FD.g_ X G Ta (fun _ _ _ _ _ _=>Hn fun _ _ _ _ _ _ _=>rfl) fun TU=>Og TU B T CC Hv;have TV:cE l.prog w K mg base bi 1 "taker" ["stand","handing","house","goes"] Hb:=FD.g_ X G Tb (fun _ _ _ _ _ _=>yQ fun _ _ _ _=>rfl) fun TW=>OO TW B;have TX:cE l.prog w K mg base bi 6 "is_led" ["net","homes","stand","handing","letter"] (He C):=FD.g_ X G Tc (fun _ _ _ _ _ _=>sS fun _ _ _ _ _=>rfl) fun TY=>OQ TY T Hv;have Zj:cE l.prog w K mg base bi 7 "good_tie_taker" ["net","homes","stand","handing","letter"] (Ku C):=FD.g_ X G Y5 (fun _ _ _ _ _ _=>sS fun _ _ _ _ _=>rfl) fun Zk=>SD Zk T TX TV Pj;have Zl:cE l.prog w K mg base bi 9 "chain_along" ["homes","stands","log","letter","beat","instead_of"] (OT C):=FD.g_ X G Y6 (fun _ _ _ _ _ _=>yR fun _ _ _ _ _ _=>rfl) fun Zm=>SG Zm B sV Zj;have TZ:cE l.prog w K mg base bi 10 "blame" ["net","homes","stands","log","letter","beat"] (Hh C Pb):=FC.g_ X G Y7 (fun _ _ _ _ _ _=>yR fun _ _ _ _ _ _=>rfl) fun Zn=>SI Zn kb hb Zi Zl;have T4:cE l.prog w K mg base bi 1 "_law_pot" ["_law_script","_law_k"] (FX K):=FD.g_ X G Td (fun _ _ _ _ _ _=>iP fun _ _=>rfl) fun T5=>NO T5 B;have ph:cE l.prog w K mg base bi 1 "_law_take" ["_law_pot_here","_law_many"] jJ:=FD.g_ X G O5 (fun _ _ _ _ _ _=>iP fun _ _=>rfl) fun Pm=>JL Pm;have HA:cE l.prog w K mg base bi 2 "_law_shuffled" ["_law_pot_here","_law_some"] (wE K):=FD.g_ X G O6 (fun _ _ _ _ _ _=>iP fun _ _=>rfl) fun Pn=>JM Pn B ph;have Po:cE l.prog w K mg base bi 1 "_law_joined" ["_law_outs","_law_row"] AT:=FD.g_ X G O7 (fun _ _ _ _ _ _=>iP fun _ _=>rfl) fun Pp=>JN Pp B;have KZ:cE l.prog w K mg base bi 2 "_law_words" ["_law_pot_here"] uG:=FD.g_ X G KH (fun _ _ _ _ _ _=>nV fun _=>rfl) fun K0=>Gg K0 B ph;have T6:cE l.prog w K mg base bi 3 "_law_net" ["_law_pot_here"] uG:=FD.g_ X G Te (fun _ _ _ _ _ _=>nV fun _=>rfl) fun T7=>N0 T7 B ph HA Po KZ;have Zo:cE l.prog w K mg base bi 1 "_law_going_round" ["_law_outs"] N2:=FD.g_ X G Y8 (fun _ _ _ _ _ _=>nV fun _=>rfl) fun Zp=>R1 Zp B;have K1:cE l.prog w K mg base bi 1 "_law_ties" ["_law_outs"] wU:=FD.g_ X G KI (fun _ _ _ _ _ _=>nV fun _=>rfl) fun K2=>GU K2;have Pq:cE l.prog w K mg base bi 1 "_law_far" ["_law_outs","_law_home"] Cf:=FD.g_ X G O8 (fun _ _ _ _ _ _=>iP fun _ _=>rfl) fun Pr=>Od Pr B;have K3:cE l.prog w K mg base bi 2 "_law_fars" ["_law_outs"] AZ:=FD.g_ X G KJ (fun _ _ _ _ _ _=>nV fun _=>rfl) fun K4=>Kg K4 B Pq;have T8:cE l.prog w K mg base bi 2 "_law_letters" ["_law_pot_here","_law_outs","_law_most"] Gq:=FD.g_ X G Tf (fun _ _ _ _ _ _=>lc fun _ _ _=>rfl) fun T9=>N4 T9 B ph;have T_:cE l.prog w K mg base bi 1 "_law_behind" ["_law_homes","_law_stand","_law_gone"] Gu:=FD.g_ X G Tg (fun _ _ _ _ _ _=>lc fun _ _ _=>rfl) fun Ua=>Oa Ua B;have Ub:cE l.prog w K mg base bi 1 "_law_is_led" ["_law_fars_here","_law_homes","_law_stand","_law_gone","_law_i"] GX:=FD.g_ X G Th (fun _ _ _ _ _ _=>sS fun _ _ _ _ _=>rfl) fun Uc=>Ol Uc;have Ud:cE l.prog w K mg base bi 1 "_law_goods" ["_law_outs","_law_fars_here","_law_home","_law_house"] Kh:=FD.g_ X G Y9 (fun _ _ _ _ _ _=>yQ fun _ _ _ _=>rfl) fun Zq=>Sf Zq;have Zr:cE l.prog w K mg base bi 3 "_law_order" ["_law_pot_here","_law_fars_here","_law_homes","_law_stand","_law_sort"] OA:=FD.g_ X G Y_ (fun _ _ _ _ _ _=>sS fun _ _ _ _ _=>rfl) fun Zt=>Sr Zt B KM.sorted HA;have Zu:cE l.prog w K mg base bi 2 "_law_by_order" ["_law_outs","_law_fars_here","_law_homes","_law_stand","_law_order_here"] Oq:=FD.g_ X G Za (fun _ _ _ _ _ _=>sS fun _ _ _ _ _=>rfl) fun Zv=>Sj Zv B Ud;have Zw:cE l.prog w K mg base bi 1 "_law_taker" ["_law_stand","_law_gone","_law_i","_law_house"] Om:=FD.g_ X G Zb (fun _ _ _ _ _ _=>yQ fun _ _ _ _=>rfl) fun Zx=>Sg Zx B;have Zy:cE l.prog w K mg base bi 2 "_law_blame" ["_law_outs","_law_fars_here","_law_homes","_law_stands","_law_log_here","_law_i","_law_beat"] OL:=FD.g_ X G Zc (fun _ _ _ _ _ _=>Hn fun _ _ _ _ _ _ _=>rfl) fun Zz=>Sz Zz B Ub Zw Ud;have ZA:cE l.prog w K mg base bi 2 "_law_cut" ["_law_pot_here","_law_stands","_law_log_here"] OD:=FD.g_ X G Zd (fun _ _ _ _ _ _=>lc fun _ _ _=>rfl) fun ZB=>Su ZB B ph;have ZC:cE l.prog w K mg base bi 1 "_law_is_list" ["_law_found","_law_due"] OE:=FD.g_ X G Ze (fun _ _ _ _ _ _=>iP fun _ _=>rfl) fun ZD=>Sw ZD B;have Ue:cE l.prog w K mg base bi 4 "_law_log" ["_law_pot_here","_law_outs","_law_fars_here","_law_homes","_law_stand","_law_sort"] A5:=FD.g_ X G Ti (fun _ _ _ _ _ _=>yR fun _ _ _ _ _ _=>rfl) fun Uf=>OG Uf B Zr Zu T_;have ZE:cE l.prog w K mg base bi 11 "_law_told_right" ["_law_net_here","_law_outs","_law_fars_here","_law_homes","_law_stands","_law_log_here","_law_i","_law_beat","_law_sort"] (OV C Pb):=FD.g_ X G Zf (fun _ _ _ _ _ _=>S6 fun _ _ _ _ _ _ _ _ _=>rfl) fun ZF=>SJ ZF B Zy TZ ZC CC TQ;have ZG:cE l.prog w K mg base bi 12 "_law_letter_right" ["_law_net_here","_law_outs","_law_fars_here","_law_homes","_law_stands","_law_log_here","_law_i","_law_sort"] (OW C Pb):=FD.g_ X G Zg (fun _ _ _ _ _ _=>Md fun _ _ _ _ _ _ _ _=>rfl) fun ZH=>SY ZH B ZE TZ;exact OY Tz P9 B T T4 ph T6 Zo K3 T8 Ue ZA K1 MK Hu Pi ZG
theorem Mj(h:((List.range 2000).any fun c=>PySem.W.codeHdIn K c P)=true):∃c,PySem.W.codeHdIn K c P=true:=
 let ⟨c,_,e⟩:=zR.mp h;⟨c,e⟩
theorem Ps(hO:BF ts H)(h:aU K H a xs):Mc K H a xs:=by
 rcases h with h|h
 .rcases h with h|⟨o,h⟩
  .rcases hO.2 a with z|⟨_,z⟩|⟨o,ys,z⟩ <;> · rw[h] at z;cases z
  .exact .inl ⟨o,h⟩
 .exact .inr fun H'=>.inr h
theorem walk{l:PySem.W.OpenLaw}{q:Program}{ue:List Str}{XP:(Str->Option Value)->Heap->Prop}{YP:World->Heap->Prop}{d:DefRec}{K:Params->PySem.W.Frag}{Pb Pt:Addr}(hn:l.most=some 63)(QE:d.params.defaults=[])(hY:∀ (w:World) (h:Heap),YP w h->(K w.params).In h)(hT:∀ (w:World) (h:Heap),YP w h->∀P∈[Pb,Pt],h.get? P=some (PySem.W.tabObj #[]))(ZI:∀ (w:World),((List.range 2000).any fun c=>PySem.W.codeHdIn (K w.params) c Pb)=true)(ZJ:∀ (w:World),(K w.params).lookup Pb=none)(ZK:∀ (w:World),((List.range 2000).any fun c=>PySem.W.codeHdIn (K w.params) c Pt)=true)(ZL:∀ (w:World),(K w.params).lookup Pt=none)(F:∀ (w:World) (mg:Str->Option Value) (fa:Addr) (h:Heap),(K w.params).In h->h.Ns mainGlobals mg->mg d.name=some (.ref fa)->
   ∃fd:FuncData,(∀ (s:Shared) (u:Value),BindsTo s fd ⟨[u],[]⟩ [("_law_script",u)])/\∀base:Heap,(K w.params).In base->base.Ns mainGlobals mg->tK mg base->bC l.prog w (K w.params) mg base bi 13 fa fd ["_law_script"] (Cu (K w.params) Pt Pb)):
  PySem.W.WalkO q ue XP YP l.row.toRowW d [] (fun f vs=>PySem.call f vs):=
 Fc (n:=63) (k:=13) (x:="_law_script") (ts:=[Pb,Pt]) (K:=K) (CX:=fun _=>bi) (sp:=fun w=>(Cu (K w.params) Pt Pb)) hn (by decide) QE ⟨rfl,by decide,by decide,rfl⟩ hY hT
  (fun w P=>fun e=>(bZ.mp e).elim (fun e=>by rw[e];exact Mj (ZI w)) (fun e=>by rw[cH.mp e];exact Mj (ZK w))) (fun w P=>fun e=>(bZ.mp e).elim (fun e=>by rw[e];exact ZJ w) (fun e=>by rw[cH.mp e];exact ZL w)) F
  (fun w H a ns hl hO hS=>⟨a,ns,rfl,Ps hO hS,hl,.inl (hO.1 _ (by simp)),.inl (hO.1 _ (by simp)),fun _=>rfl⟩) fun _ _ _ _ _ z=>z
end AQ
open PySem PySem.W PyProof.Rows
namespace PySem.W.Fast
def tw1600107153255616563:=trivial
def tw11636603160505841763:=trivial
def tw4704120670645962910:=trivial
def tw7272139825289372264:=trivial
def tw12478050271060474943:=trivial
def tw8514592098471723124:=trivial
def tw6299445066625681452:=trivial
def tw14187594314145588378:=trivial
def tw5847141904654762301:=trivial
def tw4768406623651086325:=trivial
def tw2996431432405669298:=trivial
def tw17429217800756384841:=trivial
def tw18093701313202957701:=trivial
def tw5760013171224605515:=trivial
def tw17924829582783876597:=trivial
def tw10711308758853519025:=trivial
def tw5134502426296148935:=trivial
def tw12228904350942775913:=trivial
def tw13580572862220582281:=trivial
def tw7737953763316419229:=trivial
def tw8132305870190398189:=trivial
def tw11082601395238181231:=trivial
def tw10952898280228070914:=trivial
def tw2681227256337290374:=trivial
def tw6230170414684081957:=trivial
def tw3888586766994516749:=trivial
def tw9005546467590443695:=trivial
def tw11741131113615238956:=trivial
def tw5202444058250347036:=trivial
def tw12931223005443023416:=trivial
def tw12459551421937693137:=trivial
def tw10392178719583883870:=trivial
def tw13031244501939246519:=trivial
def tw7118576526863121208:=trivial
def tw11851695854943711336:=trivial
def tw16974172085139246586:=trivial
def tw16187613081989811642:=trivial
def tw1385906138098705506:=trivial
def tw16164638593948141827:=trivial
def tw14104526983540188400:=trivial
def tw15873843597974428529:=trivial
def tw6519568459194024135:=trivial
def tw1541836802874980288:=trivial
def tw9142108709605365887:=trivial
def tw7922419640444798855:=trivial
def tw7054881126598051178:=trivial
def tw15969133980790443531:=trivial
def tw167315218755692333:=trivial
def tw8055810914792735985:=trivial
def tw17294108509618155346:=trivial
def tw14462222324022234469:=trivial
def tw4222571160042017123:=trivial
def tw9820415025837416224:=trivial
def tw11832177516016103351:=trivial
def tw2693816342728685894:=trivial
def tw10345958634538708929:=trivial
def tw14972154376765865630:=trivial
def tw2946689244887188311:=trivial
def tw14909630351924513724:=trivial
def tw15064835437920215716:=trivial
def tw3820926084472374807:=trivial
def tw9474316393422323331:=trivial
def tw15518462637737535573:=trivial
def tw15372899514145252657:=trivial
def tw18230000370802113262:=trivial
def tw12462773874445586700:=trivial
def tw18084031983824133618:=trivial
def tw15081717868708772559:=trivial
def tw12252339692379746373:=trivial
def tw3077654908780513545:=trivial
def tw3621782176069369819:=trivial
def tw17080891589548214625:=trivial
def tw261172383747657212:=trivial
def tw10509640714258975152:=trivial
def tw14693244036260090308:=trivial
def tw3719255316360396206:=trivial
def tw2221826557353566023:=trivial
def tw17186262240033213356:=trivial
def tw4092445168789508603:=trivial
def tw1958150576063577691:=trivial
def tw12145356184997283827:=trivial
def tw15492560252190278916:=trivial
def tw9809701097420117383:=trivial
def tw12720757237391468908:=trivial
def tw10955127215856209371:=trivial
def tw10083537461848410853:=trivial
def tw6395745621617548475:=trivial
def tw17295158661706807464:=trivial
def tw2801405491180722695:=trivial
def tw5923628960887824865:=trivial
def tw5635408012401165761:=trivial
def tw9811733109656704616:=trivial
def tw7301448429030609096:=trivial
def tw16122060023589564582:=trivial
def tw2958079354749381362:=trivial
def tw29198026948451909:=trivial
def tw6175256096242489714:=trivial
def tw13316760643246884681:=trivial
def tw15708220138951983409:=trivial
def tw4956075979916045682:=trivial
def tw2121780296956481551:=trivial
def tw12839361574674429650:=trivial
def tw1302935191571394901:=trivial
def tw4795591024537846477:=trivial
def tw10298569323369272613:=trivial
def tw15177210219723920948:=trivial
def tw17141131414545866855:=trivial
def tw14584318214029715632:=trivial
def tw12263453742342126474:=trivial
def tw1369931642778357870:=trivial
def tw2504099477605951440:=trivial
def tw11998329590893751891:=trivial
def tw10999269278727960869:=trivial
def tw18378406036358972718:=trivial
def tw1021542307256920487:=trivial
def tw12981142111442475428:=trivial
def tw11026406220623999622:=trivial
def tw2165707154746098687:=trivial
def tw11320552552467134693:=trivial
def tw193240506457964644:=trivial
def tw390198625050005569:=trivial
def tw7442106810435238731:=trivial
def tw5748705409623848377:=trivial
def tw11079761746267166650:=trivial
def tw10702883725994477915:=trivial
def tw7664924131656623697:=trivial
def tw17964590697370111840:=trivial
def tw16237505490163390934:=trivial
def tw1123532181853238221:=trivial
def tw13512449205945149700:=trivial
def tw15378017218309096817:=trivial
def tw10695148433479358834:=trivial
def tw10188148244739004771:=trivial
def tw222759201742557770:=trivial
def tw5988257848254981921:=trivial
def tw14501516845663712812:=trivial
def tw7925381439385082026:=trivial
def tw1692100590383920331:=trivial
def tw2885084822097808688:=trivial
def tw14631658461786481744:=trivial
def tw670801553322077529:=trivial
def tw13801218625042421847:=trivial
def tw12854129152682247339:=trivial
def tw9954039692440843586:=trivial
def tw6816718290017601644:=trivial
def tw8179594466091248374:=trivial
def tw13092440956239373141:=trivial
def tw16903415934672851115:=trivial
def tw5059727479120564719:=trivial
def tw17860087428362924151:=trivial
def tw10236337590693470495:=trivial
def tw12358986952919653383:=trivial
def tw7437494423943372094:=trivial
def tw11958494097660529772:=trivial
def tw1799467373253185362:=trivial
def tw383304855529399726:=trivial
def tw7219754033388761034:=trivial
def tw16259137245664726160:=trivial
def tw12794627661352874310:=trivial
def tw137332185666211579:=trivial
def tw10253267398905876338:=trivial
def tw2452146322108891807:=trivial
def tw16445243723437517844:=trivial
def tw4530813099877172727:=trivial
def tw16406593932388046831:=trivial
def tw10779364421118624136:=trivial
def tw2325557386132373096:=trivial
def tw7360373457058468983:=trivial
def tw9397890057652775331:=trivial
def tw6774934304952357127:=trivial
def tw16772185313289288028:=trivial
def tw10015643300329664545:=trivial
def tw5814032067768282235:=trivial
def tw5986205256791405223:=trivial
def tw13031803180171525489:=trivial
def tw4072963607974705553:=trivial
def tw17616369296252374176:=trivial
def tw11688332210792899314:=trivial
def tw12994410389774907160:=trivial
def tw14020066488212452266:=trivial
def tw295035932196685272:=trivial
def tw17901587466897753468:=trivial
def tw5182140642099265030:=trivial
def tw15056835079384312226:=trivial
def tw11065021037911707792:=trivial
def tw2435266121052718787:=trivial
def tw1451112497772065763:=trivial
def tw923022528326821891:=trivial
def tw5165870786899170553:=trivial
def tw9502819516636043819:=trivial
def tw11694284029000393138:=trivial
def tw6265332360068208786:=trivial
def tw10030682168220210795:=trivial
def tw4230815904536037954:=trivial
def tw11038299544143558607:=trivial
def tw871442950585098007:=trivial
def tw16595354055987847013:=trivial
def tw17804657685081153275:=trivial
def tw10742049390801388096:=trivial
def tw3255775348800317359:=trivial
def tw18218100649792521129:=trivial
def tw10976015050212538167:=trivial
def tw15188521315822458895:=trivial
def tw8319031550721504123:=trivial
def tw15287942581491102024:=trivial
def tw7727785499532899213:=trivial
def tw17615426159667891779:=trivial
def tw8238485058419601749:=trivial
def tw13496941702549633237:=trivial
def tw1918591645619987665:=trivial
def tw10477529872148819171:=trivial
def tw5112527271120539798:=trivial
def tw6559311364268760474:=trivial
def tw2399539410834803878:=trivial
def tw2917460059582361957:=trivial
def tw1679572363408930643:=trivial
def tw4810220289183811524:=trivial
def tw12248892702993788394:=trivial
def tw1445992180436960218:=trivial
def tw3168518454338133138:=trivial
def tw4407504444200087623:=trivial
def tw11849274522948997931:=trivial
def tw10594862112403768205:=trivial
def tw5196063700886042514:=trivial
def tw15768001990359957938:=trivial
def tw13188658057717103580:=trivial
def tw9050587182850186810:=trivial
def tw14321087852468375876:=trivial
def tw15452654431444469332:=trivial
def tw12942690276581464865:=trivial
def tw18386065438035429293:=trivial
def tw14418313286143951032:=trivial
def tw12970702406385796949:=trivial
def tw6629348046133754417:=trivial
def tw18092643181138199588:=trivial
def tw604907681646734051:=trivial
def tw5108735587738785577:=trivial
def tw17172123120203055185:=trivial
def tw11041459735266850564:=trivial
def tw13707553201283541490:=trivial
def tw18250767820253817582:=trivial
def tw8613893034242737200:=trivial
def tw1357732150015757453:=trivial
def tw15363210294497591538:=trivial
def tw5860959804655380560:=trivial
def tw15569676996091798882:=trivial
def tw7141672578147423898:=trivial
def tw5408469158058761165:=trivial
def tw8066126073193468147:=trivial
def tw2907174439643947496:=trivial
def tw6377817991310561987:=trivial
def tw4137433686107128954:=trivial
def tw16232820397870415647:=trivial
def tw13736297783267296896:=trivial
def tw3331788842133790854:=trivial
def tw9199675495073981400:=trivial
def tw3190729184167082174:=trivial
def tw14119957426157035956:=trivial
def tw11876843036530037099:=trivial
def tw9963573365821714099:=trivial
def tw1688748500648489491:=trivial
def tw1530726657115423776:=trivial
def tw18352587232202141852:=trivial
def tw10742508915550005439:=trivial
def tw784020490575732070:=trivial
def tw8145004780619375826:=trivial
def tw13562294304921109484:=trivial
def tw2499784718010717269:=trivial
def tw123438992525065936:=trivial
def tw16796574706738112597:=trivial
def tw1029536616697768922:=trivial
def tw8245439979102992635:=trivial
def tw2322674438727108567:=trivial
def tw968488346705274909:=trivial
def tw14741435672520751539:=trivial
def tw14073534128103459599:=trivial
def tw1941544176638792172:=trivial
def tw9218659128188452252:=trivial
def tw17058716019691039238:=trivial
def tw8049348439568019068:=trivial
def tw15613755641328733929:=trivial
def tw13814633866286232270:=trivial
def tw15857793195458876038:=trivial
def tw10676293426641369217:=trivial
def tw14581751286153061515:=trivial
def tw14516731693838677446:=trivial
def tw455694106857118556:=trivial
def tw11784110854959836736:=trivial
def tw8196532523728685101:=trivial
def tw12121878036143195961:=trivial
def tw13800419353733734394:=trivial
def tw17997530743471721203:=trivial
def tw3832364548421008922:=trivial
def tw7771676048670153791:=trivial
def tw8391509157295882527:=trivial
def tw14554744605999519518:=trivial
def tw15023522763312374357:=trivial
def tw11739259326318004703:=trivial
def tw4363254532252063398:=trivial
def tw17811455525018906118:=trivial
def tw3479780576221576440:=trivial
def tw15810628255988928125:=trivial
def tw6220581580691713237:=trivial
def tw14500270220428501700:=trivial
def tw2977115641297750517:=trivial
def tw6526964163131805941:=trivial
def tw832907155200253032:=trivial
def tw9963246203839556553:=trivial
def tw779861330215076402:=trivial
def tw15226243327912750252:=trivial
def tw658076759396074498:=trivial
def tw7168546128531108849:=trivial
def tw352081811962615748:=trivial
def tw14755422164498937872:=trivial
def tw783511158019406982:=trivial
def tw18045821327830427063:=trivial
def tw2547043241416021650:=trivial
def tw15073558553410584051:=trivial
def tw5363880877206963994:=trivial
def tw15845368342723050220:=trivial
def tw11471984713437130791:=trivial
def tw7046518847207180049:=trivial
def tw12322925107111473298:=trivial
def tw8810819166412242220:=trivial
def tw2762016128767938669:=trivial
def tw10965299858139616927:=trivial
def tw5408072101392463045:=trivial
def tw17944883964852310883:=trivial
def tw10283641617782161572:=trivial
def tw8285406641912431388:=trivial
def tw3500568424699629157:=trivial
def tw14087787087586474729:=trivial
def tw6956751114842513615:=trivial
def tw15910770836446988394:=trivial
def tw4513307427935416953:=trivial
def tw16695510517433246473:=trivial
def tw8618261750149581196:=trivial
def tw6281057303463414643:=trivial
def tw13487556857620305243:=trivial
def tw15155625775080449434:=trivial
def tw9044765450764425146:=trivial
def tw13684398091411316321:=trivial
def tw13748884216871724027:=trivial
def tw6737619974828688472:=trivial
def tw1872587228973771180:=trivial
def tw6331607701276382123:=trivial
def tw4926327283385399723:=trivial
def tw7972728663547611042:=trivial
def tw7592609148685633916:=trivial
def tw17224667918385530702:=trivial
def tw7713765917868251062:=trivial
def tw8166566679373734818:=trivial
def tw5765279414310119435:=trivial
def tw14831386254818958230:=trivial
def tw18142549504615665939:=trivial
def tw3176459245465763264:=trivial
def tw3787471543428575442:=trivial
def tw16718902842319395732:=trivial
def tw1395294111246576474:=trivial
def tw14278941496845851039:=trivial
def tw5802978969272224743:=trivial
def tw18304310786314430694:=trivial
def tw17514151805404756488:=trivial
def tw13987625986280217008:=trivial
def tw3045054759731967161:=trivial
def tw9343193856903455484:=trivial
def tw15210205200897190043:=trivial
def tw903635800451014105:=trivial
end PySem.W.Fast
set_option maxRecDepth 100000 in
set_option maxHeartbeats 0 in
theorem PySem.Challenge.cw_neverwait_k66_nearest_first_on_any_net_holds : PySem.Challenge.rw_neverwait_k66_nearest_first_on_any_net.Holds := by
 w_on; o_law; k_head; (case hw=>w_witness2)
 k_fill
 refine AQ.walk (l:=PySem.Challenge.rw_neverwait_k66_nearest_first_on_any_net) (Pb:=_) (Pt:=_) rfl rfl (fun w h Y=>PySem.W.km_in_of Y) (fun w h Y=>PySem.W.km_tabs_of Y) ?cd0 ?kt0 ?cd1 ?kt1 ?F;case F =>
  intro w mg fa h KX G QF;refine' AQ.O0 (Pb:=_) (Pt:=_) KX G QF ?_ ?_ ?_ ?_ ?_ ?_ ?_ ?_ ?_ ?_ ?_ ?_ ?_ ?_ ?_ ?_ ?_ ?_ ?_ ?_ ?_ ?_ ?_ ?_ ?_ ?_ ?_ ?_ ?_ ?_ ?_ ?_ ?_ ?_ ?_ ?_ ?_ ?_ ?_ ?_ ?_ ?_ ?_ ?_ ?_ ?_ ?_ ?_ ?_ ?_ ?_ ?_ ?_ ?_ ?_ ?_ ?_ ?_ ?_ ?_ ?_ ?_ ?_ ?_ ?_ ?_ ?_ ?_ ?_ ?_ ?_ ?_ ?_ ?_ ?_ ?_ ?_ ?_ ?_ ?_ ?_ ?_ ?_ ?_;all_goals first
   | (refine' AQ.FD.mk ?a ?l ?d ?k; (case a=>k_is); (case l=>k_is); (case d=>k_is); (case k=>k_is))
   | (refine' AQ.FC.mk ?a ?l ?d ?k; (case a=>k_is); (case l=>k_is); (case d=>k_is); (case k=>k_is))
   | (refine' AQ.MD.mk ?a ?i ?l ?d ?k; (case a=>k_is); (case i=>k_is); (case l=>k_is); (case d=>k_is); (case k=>k_is))
   | (refine' AQ.MC.mk ?a ?i ?l ?d ?k; (case a=>k_is); (case i=>k_is); (case l=>k_is); (case d=>k_is); (case k=>k_is))
   | k_is
   | kernel_rfl
   | decide
   | exact ⟨by kernel_rfl,by k_is,by k_is,by k_is,by k_is,by k_is,by k_is,by kernel_rfl⟩
   | skip
 case kt0=>intro w; kernel_rfl
 case cd0=>intro w; kernel_rfl
 case kt1=>intro w; kernel_rfl
 case cd1=>intro w; kernel_rfl
