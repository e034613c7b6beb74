import PyProof.Rows.All
import Wide.All
import OpenK.AllK
import Wide.FinOn
import Lean
import PyProof.EqAt
import PyProof.EqKinds
import PyProof.TupleCall
import PySem.Challenge.RW_neverwait_k63_whole_trees_by_eager_handi
set_option Elab.async false
set_option linter.all false
set_option maxRecDepth 100000
set_option maxHeartbeats 8000000
def aG:=@List.length_map
def bQ:=@List.getD_eq_getElem?_getD
def bY:=@List.getElem?_eq_getElem
def aJ:=@PySem.wpAny_bind
def bK:=@List.mem_singleton
def cD:=@PySem.Heap.get?_push_of_some
def bV:=@Nat.lt_of_lt_of_le
def ao:=@if_pos
def ap:=@if_neg
def ba:=@Nat.le_refl
def aY:=@Option.some.inj
def cM:=@List.getElem?_eq_some_iff
def bq:=@List.getElem?_map
def bg:=@List.mem_append
def av:=@PyProof.Rows.wpS_bind
def aZ:=@Nat.ne_of_lt
def cy:=@List.mem_cons_of_mem
def a_:=@PySem.Heap.lt_size
def cq:=@List.mem_cons_self
def cr:=@List.length_append
def b9:=@of_decide_eq_true
def bB:=@decide_eq_true
def cz:=@Bool.false_ne_true
def bL:=@List.mem_range
def aN:=@PyProof.Rows.wpS_pure
def bj:=@Nat.le_trans
def bX:=@List.mem_filter
def dh:=@PySem.Heap.get?_push_size
def cE:=@List.size_toArray
def cW:=@PySem.W.mg_none_of
def cN:=@Int.toNat_natCast
def bP:=@List.mem_cons
def cG:=@List.length_cons
def dW:=@List.mem_of_getElem?
def cP:=@List.map_append
def ce:=@PySem.boot_len
def cH:=@decide_eq_false
def dq:=@List.nodup_cons
def cf:=@List.mem_map
def dX:=@Bool.and_eq_true
def cQ:=@List.map_cons
def fc:=@decide_eq_true_iff
def gI:=@PySem.F.plainAttrs_list
def iC:=@List.getElem?_append_left
def fk:=@Nat.lt_succ_of_lt
def fq:=@List.length_range
def dt:=@getElem?_pos
def eR:=@PySem.PassesOwn.never
def hV:=@List.getElem?_eq_none
def jo:=@PySem.F.type_list_append
def jp:=@PySem.F.slot_list_append
def gq:=@Nat.lt_of_le_of_lt
def fE:=@List.lookup_cons
def lf:=@PyProof.Rows.boot_isinstance
def dv:=@Nat.zero_le
def hW:=@List.mem_append_left
def iD:=@List.mem_append_right
def d_:=@Nat.le_of_lt
def eT:=@Int.ofNat.inj
def lj:=@Array.perm_iff_toList_perm
def iE:=@Array.length_toList
def gJ:=@List.getElem_mem
def hX:=@List.take_add_one
def jG:=@List.length_filter_le
def h9:=@List.take_length
def iF:=@List.nodup_append
def lm:=@Array.getElem?_toList
def jH:=@PySem.mem_of_lookup
def jI:=@List.map_congr_left
def iG:=@List.length_take
def oz:=@List.getElem?_append_right
def jq:=@List.pairwise_map
def jr:=@List.append_assoc
def jt:=@Array.toList_push
def jJ:=@List.filter_append
def ju:=@PySem.Heap.get?_push_ne
def h_:=@List.nodup_nil
def lq:=@beq_eq_false_iff_ne
def fV:=@PyProof.Rows.wpS_forRange
def jv:=@PySem.W.kia_one
def oA:=@Option.map_eq_some_iff
def jK:=@Nat.lt_succ_self
def jL:=@List.filter_cons
def pQ:=@List.pairwise_iff_getElem
def oB:=@List.perm_append_comm
def ic:=@List.map_map
def mr:=@of_decide_eq_false
def mw:=@Int.emod_lt_of_pos
def mz:=@Bool.false_eq_true
def oC:=@List.mem_of_mem_take
def jw:=@Nat.lt_irrefl
def gu:=@beq_iff_eq
def lr:=@PySem.Heap.size_update
def oE:=@List.getElem?_range
def oF:=@Array.toList_append
def sv:=@Classical.byContradiction
def pR:=@List.length_replicate
def oG:=@PySem.F.called_set
def jM:=@PySem.wpAny_holding
def mB:=@List.range_succ
def iS:=@Int.emod_nonneg
def iT:=@Bool.eq_iff_iff
def lG:=@List.replicate_succ
def lH:=@PySem.Heap.get?_none_of_le
def pS:=@PyProof.Rows.callWith_type1
def jN:=@List.nodup_range
def pT:=@List.nodup_iff_pairwise_ne
def iU:=@Array.size_map
def dD:=@PyProof.Rows.wpS_mono
def jO:=@List.foldl_cons
def lI:=@PySem.wpAny_Call_Name_kw
def lJ:=@decide_eq_true_eq
def iq:=@Nat.add_zero
def m7:=@List.mem_iff_getElem
def m8:=@List.Pairwise.filter
def iV:=@PySem.Heap.size_push
def pU:=@Option.isSome_iff_exists
def iW:=@List.all_cons
def pV:=@PyProof.Rows.boot_tuple
def lK:=@Nat.mod_eq_of_lt
def lL:=@List.all_eq_true
def fJ:=@PyProof.Rows.wpS_modify
def m9:=@List.mem_filterMap
def pW:=@List.length_pos_of_mem
def pX:=@List.getElem?_set_self
def lM:=@List.length_set
def lN:=@List.find?_cons
def jP:=@List.any_cons
def jQ:=@Bool.true_and
def pY:=@PyProof.Rows.boot_int
def pZ:=@List.eq_nil_or_concat
def p9:=@List.concat_eq_append
def t9:=@Array.getD_eq_getD_getElem?
def lO:=@PySem.wpAny_passesOwn
def fK:=@if_false
def lP:=@PySem.codeAny_builtin
def jR:=@Nat.ne_of_gt
def m_:=@List.countP_cons
def jS:=@Int.zero_add
def ng:=@PySem.wpAny_truthy_bool
def t_:=@List.mem_take_iff_getElem
def ua:=@List.drop_eq_getElem_cons
def xS:=@PyProof.Rows.F.plain_set_update_loop
def ir:=@PySem.wpAny_mono
def iX:=@PySem.wpAny_field
def iY:=@PySem.sizeLine_eq
def lQ:=@PySem.W.mg_of
def p_:=@PySem.Around.under_plainId
def nq:=@List.of_mem_zip
def nu:=@List.append_nil
def qa:=@PySem.Heap.get?_update_ne
def ub:=@PyProof.Rows.boot_list
def lR:=@Nat.succ.inj
def uc:=@List.take_of_length_le
def ud:=@List.range_succ_eq_map
def lS:=@List.map_nil
def qb:=@List.flatten_cons
def nw:=@Bool.false_and
def ue:=@Array.toList_filterMap
def iZ:=@PySem.wpAny_rule
def uf:=@PySem.wpAny_callSpecial?_slot
def ug:=@List.length_singleton
def qc:=@decide_eq_decide
def qd:=@Array.toList_map
def qe:=@PySem.wpAny_pyIter_list
def qg:=@PySem.wpAny_newObj_type
def lT:=@PySem.codeAny_mono
def uh:=@List.mem_of_mem_drop
def lU:=@List.map_id
def ui:=@List.getElem?_set_ne
def lV:=@Int.le_refl
def uj:=@PySem.Heap.get?_update_other
def uk:=@Array.toList_reverse
def qh:=@List.length_nil
def xT:=@List.filter_map
def uo:=@List.length_pos_iff
def uq:=@PySem.Heap.get?_update_self
def qj:=@PySem.wpAny_call_entry
def ur:=@PySem.W.callWith_K
def xU:=@Array.toList_setIfInBounds
def xV:=@Array.getElem?_eq_getElem
def ut:=@Int.emod_eq_of_lt
def uu:=@Bool.eq_false_iff
def xW:=@List.length_erase_of_mem
def xX:=@List.getElem?_take_of_lt
def xY:=@List.Pairwise.imp_of_mem
def gk:=@PyProof.Rows.wpS_get
def lW:=@PySem.call_meets
def xZ:=@List.getElem?_replicate
def i6:=@if_true
def x_:=@PyProof.Rows.boot_bool
def qk:=@Nat.zero_add
def ql:=@Nat.succ_pos
def qm:=@Nat.lt_trans
def yc:=@List.filter_eq_nil_iff
def uw:=@PySem.wpAny_setState_of
def ux:=@PySem.wpAny_pyIter_enum
def uy:=@List.Perm.of_eq
def qo:=@PySem.wpAny_standAt
def yd:=@List.take_append_drop
def qp:=@Sum.inl.inj
def ye:=@List.pairwise_append
def yf:=@List.mem_erase_of_ne
def uz:=@List.drop_zero
def uA:=@Bool.and_false
def yg:=@Array.toList_extract
def yh:=@Array.getElem_toList
def lX:=@PyProof.Rows.size_push'
def yi:=@PySem.wpAny_pyNext_list_item
def ny:=@PySem.wpAny_call
def nz:=@PySem.wpAny_Name
def yj:=@PySem.W.plainGet_of
def C6:=@PyProof.Rows.F.entry_set_update_loop
def yk:=@List.mem_map_of_mem
def ym:=@List.length_take_le
def yn:=@List.getD_cons_succ
def yo:=@List.filterMap_cons
def yp:=@List.countP_eq_zero
def uB:=@PySem.wpAny_execs_nil
def uC:=@Nat.add_assoc
def uD:=@Bool.not_true
def yq:=@PySem.wpAny_pyNext_list_end
def yr:=@List.countP_append
def uE:=@PySem.wpAny_seqItems
def yt:=@PySem.wpAny_loadName_local
def yu:=@PySem.codeAny_call_builtin
def uF:=@Nat.le_of_eq
def yw:=@List.take_sublist
def yx:=@List.ext_getElem?
def yy:=@List.any_eq_false
def C7:=@Array.toList_eraseIdxIfInBounds
def yz:=@PySem.wpAny_loadName_free
def yA:=@List.length_drop
def yB:=@List.getElem_map
def yC:=@Array.toList_zip
def uG:=@PySem.wpAny_attempt
def C8:=@List.eq_nil_of_length_eq_zero
def C9:=@Int.mul_le_mul_of_nonneg_left
def yD:=@PySem.wpAny_pyIter_tuple
def yE:=@PySem.tupleKind_room_in1
def yF:=@PySem.Obj.data_mapFields
def yG:=@List.count_cons
def C_:=@List.countP_eq_length_filter
def Da:=@PySem.F.typeOf_object_class
def yH:=@PySem.wpAny_loadPart_at
def Db:=@List.perm_ext_iff_of_nodup
def Dc:=@Int.fmod_eq_emod_of_nonneg
def yI:=@Bool.not_false
def Dd:=@Array.getElem?_eq_some_iff
def lY:=@PyProof.Rows.wpS_lift
def Df:=@List.getElem?_zip_eq_some
def yJ:=@PySem.wpAny_eqBool_int
def Dg:=@PyProof.Rows.boot_sorted
def Dh:=@List.filterMap_cons_some
def yK:=@List.cons.inj
namespace L2
open PySem PySem.Spec PyProof.Rows
section
variable {M:Model} {A:Around} {E:Value->Shared->Prop} {s:Shared} {B:Heap} {l outer:List Env} {env:Env} {e L:Addr} {cls:Value}
end
theorem rQ:plainId "proto.unchain"=true:=by decide +kernel
theorem rR:entryFor table "proto.unchain"=some Builtin.«proto.unchain»:=PySem.entryFor_of_fast (by kernel_rfl)
def z9(p:Addr)(h:Heap):Prop:=∃o vs,h.get? p=some o/\o.data=.fields vs/\vs[2]?=some .none
theorem Di{α:Type}{prog:Program}{w:World}{A:Around}{Q:α->Shared->Prop}{E:Value->Shared->Prop}{s:Shared}{a p:Addr}{o:Obj}{vs:Array Value}(hh:A.handled=some (.ref p))(hp:z9 p s.heap)(ne:p≠a)(ha:s.heap.get? a=some o)(hd:o.data=.fields vs)(z2:2<vs.size)(q:E (.ref a) { s with heap:=s.heap.update a (Obj.mapFields (·.setIfInBounds 2 (.ref p))) }):wpAny (model prog w) A (raiseNew (.ref a):Sem α) Q E s:=by
 obtain⟨op,ws,h1,h2,h3⟩:=hp;unfold raiseNew;refine aJ (wpAny_handled ?_);rw[hh];dsimp only;rw[ao (show (Value.ref p != Value.ref a)=true from by simp[ne])];refine aJ (jM (wpAny_runValue (lP rR ?_)));rw[p_ rQ _];show wpAny _ _ (field (.ref p) 2 >>= _) _ _ s;refine aJ (iX h1 h2 h3 ?_);rw[ao (by decide)];refine wpAny_pure ?_;show wpAny (model prog w) A (updateField a 2 (Value.ref p) >>= fun _=>throw (Value.ref a)) Q E s;unfold updateField;refine aJ (aJ (wpAny_load ha ?_));rw[hd];dsimp only;rw[ao z2];exact wpAny_update (by rw[ha]) (wpAny_throw q)
theorem yL{prog:Program}{w:World}{A:Around}{E:Value->Shared->Prop}{s:Shared}{it p:Addr}{x left step:Int}{Q:Option Value->Shared->Prop}(hh:A.handled=some (.ref p))(hp:z9 p s.heap)(rJ:IsRangeIter s.heap it x left step)(hl:left<=0)(hQ:∀h',(∀b o,s.heap.get? b=some o->h'.get? b=some o)->Q none { s with heap:=h' }):wpAny (model prog w) A (pyNext (.ref it)) Q E s:=by
 have hT:s.TypeIs (.ref it) "range_iterator":=⟨_,rJ,rfl⟩
 unfold pyNext;refine aJ (uG (uf (name:=Str.ofString "__next__") hT F.slot_range_iterator_next
  (qj F.slot_range_iterator_next hT F.entry_range_iterator_next ?_ (F.args_range_iterator_next_1 _))))
 show wpAny _ _ (field (.ref it) 0 >>= _) _ _ s;refine aJ (iX rJ rfl (x:=rawInt x) rfl ?_);refine aJ (iX rJ rfl (x:=rawInt left) rfl ?_);refine aJ (iX rJ rfl (x:=rawInt step) rfl ?_);dsimp only[rawInt];rw[ao hl];refine aJ (iZ ?_);refine aJ ?_;show wpAny _ _ (newExc (.type "StopIteration") [] >>= _) _ _ _;refine aJ ?_;simp only[newExc,newTuple];refine aJ (qg ?_ (by size_fits));refine aJ (m:=firstArgMember _ _) (wpAny_of_eq (a:=Value.none) (by first|rfl|(simp only[firstArgMember];rfl)) ?_);refine qg ?_ (by size_fits);generalize hTu:({ cls:=.type "tuple",data:=.seq ([]:List Value).toArray }:Obj)=Tu;generalize Ub:({ cls:=.type "StopIteration",data:=.fields (#[Value.ref s.heap.objs.size,Value.none,Value.none,Value.none,Value.bool false,Value.none]++ownMembersOf (Value.type "StopIteration") []) }:Obj)=Ex;have Yb:Ex.data=.fields (#[Value.ref s.heap.objs.size,Value.none,Value.none,Value.none,Value.bool false,Value.none]++ownMembersOf (Value.type "StopIteration") []):=by rw[<-Ub]
 have cEx:Ex.cls=.type "StopIteration":=by rw[<-Ub]
 have k1:∀b o,s.heap.get? b=some o->((s.heap.push Tu).push Ex).get? b=some o:=fun b o e=>cD _ (cD _ e);have gE:((s.heap.push Tu).push Ex).get? (s.heap.push Tu).objs.size=some Ex:=dh _ (by rw[<-Ub];rfl);have old:∀b o,s.heap.get? b=some o->b≠(s.heap.push Tu).objs.size:=fun b o e=>aZ (a_ (cD Tu e));obtain⟨op,ws,n1,n2,n3⟩:=id hp;refine Di (A:=A.in1) (p:=p) hh ⟨op,ws,k1 _ _ n1,n2,n3⟩ (old _ _ n1) gE Yb (by simp;lia) ?_;refine aJ (wpAny_isInstance (T:="StopIteration") (b:=true) ⟨_,uq _ gE (Obj.isFreed_of_fields (yF Yb _)),(Obj.cls_mapFields _ _).trans cEx⟩ isSubtype_stop ?_);exact wpAny_pure (hQ _ fun b o e=>(uj _ _ (Ne.symm (old b o e))).trans (k1 b o e))
abbrev dz:=Sum Int Str
def sw:dz->Value->Bool
 |.inl k,v=>Value.isInt k v
 |.inr x,v=>Value.isStrOf x v
def Uc(w:World):dz->Int
 |.inl k=>hashInt k
 |.inr x=>hashStr w x
theorem cX:∀ {k:dz} {v:Value},sw k v=true->(∃i t,k=Sum.inl i/\v=Value.int i t)\/(∃x t,k=Sum.inr x/\v=Value.str x t)
 |.inl i,v,h=>by
  obtain⟨t,e⟩:=Value.isInt_shape (k:=i) (v:=v) h;exact .inl ⟨i,t,rfl,e⟩
 |.inr x,v,h=>by
  obtain⟨t,e⟩:=Value.isStrOf_shape (x:=x) (v:=v) h;exact .inr ⟨x,t,rfl,e⟩
theorem Bw(i:Int)(t:Tok):sw (.inl i) (.int i t)=true:=by simp[sw,Value.isInt]
theorem Bx(x:Str)(t:Tok):sw (.inr x) (.str x t)=true:=by simp[sw,Value.isStrOf]
theorem K1(a b:Int):decide ((Sum.inl a:dz)=Sum.inl b)=(a==b):=by
 by_cases e:a=b
 .subst e;simp
 .have h:¬ (Sum.inl a:dz)=Sum.inl b:=fun q=>e (qp q);rw[cH h];exact(lq.mpr e).symm
theorem K2(a b:Str):decide ((Sum.inr a:dz)=Sum.inr b)=decide (a=b):=by
 by_cases e:a=b
 .subst e;simp
 .have h:¬ (Sum.inr a:dz)=Sum.inr b:=fun q=>e (Sum.inr.inj q);rw[cH h,cH e]
theorem K3(a:Int)(b:Str):decide ((Sum.inl a:dz)=Sum.inr b)=false:=cH (fun q=>nomatch q)
theorem K4(a:Str)(b:Int):decide ((Sum.inr a:dz)=Sum.inl b)=false:=cH (fun q=>nomatch q)
def bv(prog:Program)(w:World):PySem.KeyKind prog w dz where
 is:=sw
 hash:=Uc w
 inj:=fun v a b ha hb=>by
  rcases cX ha with ⟨i,t,rfl,rfl⟩|⟨x,t,rfl,rfl⟩
  .rcases cX hb with ⟨j,u,rfl,e⟩|⟨y,u,rfl,e⟩
   .injection e with e1 _;rw[e1]
   .exact nomatch e
  .rcases cX hb with ⟨j,u,rfl,e⟩|⟨y,u,rfl,e⟩
   .exact nomatch e
   .injection e with e1 _;rw[e1]
 byValue:=fun k v h=>by
  rcases cX h with ⟨i,t,rfl,rfl⟩|⟨x,t,rfl,rfl⟩ <;> rfl
 pyHash:=fun hv h=>by
  rcases cX hv with ⟨i,t,rfl,rfl⟩|⟨x,t,rfl,rfl⟩
  .exact wpAny_pyHash_int h
  .exact wpAny_pyHash_str h
 eqBool:=fun hu hv h=>by
  rcases cX hu with ⟨i,t,rfl,rfl⟩|⟨x,t,rfl,rfl⟩
  .rcases cX hv with ⟨j,u,rfl,rfl⟩|⟨y,u,rfl,rfl⟩
   .rw[K1] at h;exact yJ h
   .rw[K3] at h;exact SeqAt.EqAt.int_str i t y u _ _ _ _ h
  .rcases cX hv with ⟨j,u,rfl,rfl⟩|⟨y,u,rfl,rfl⟩
   .rw[K4] at h;exact SeqAt.EqAt.str_int x t j u _ _ _ _ h
   .rw[K2] at h;exact wpAny_eqBool_str h
 «strs»:=fun k x t v h=>by
  rcases cX h with ⟨i,u,rfl,e⟩|⟨y,u,rfl,e⟩
  .exact nomatch e
  .injection e with e1 _
   subst e1
   cases v <;> rfl
theorem vY(prog:Program)(w:World)(i:Int)(t:Tok):(bv prog w).is (.inl i) (.int i t)=true:=Bw i t
theorem vZ(prog:Program)(w:World)(x:Str)(t:Tok):(bv prog w).is (.inr x) (.str x t)=true:=Bx x t
inductive V where
 |bJ|bl (b:Bool)|int (i:Int)|str (x:Str)|By (b:Array UInt8)|JO (b:UInt64)|ref (a:Addr)|ty (n:String)
 deriving DecidableEq
def bi:V->Value->Prop
 |.bJ,u=>u=Value.none
 |.bl b,u=>u=Value.bool b
 |.int i,u=>∃t,u=Value.int i t
 |.str x,u=>∃t,u=Value.str x t
 |.By b,u=>∃t,u=Value.bytes b t
 |.JO b,u=>∃t,u=Value.float b t
 |.ref a,u=>u=Value.ref a
 |.ty n,u=>u=Value.type n
abbrev aX:List V->List Value->Prop:=Paired bi
theorem aX.length(r:aX xs us):xs.length=us.length:=Paired.length r
theorem aX.get:∀ {xs:List V} {us:List Value} {i:Nat} {x:V},aX xs us->xs[i]?=some x->∃u,us[i]?=some u/\bi x u
 |_,_,_,_,.nil,e=>by simp at e
 |_,_,0,_,.cons r _,e=>by simp at e;subst e;exact⟨_,rfl,r⟩
 |_,_,i+1,x,.cons _ t,e=>by
  obtain⟨u,h1,h2⟩:=aX.get (i:=i) (x:=x) t (by simpa using e);exact⟨u,by simpa using h1,h2⟩
theorem aX.set(r:bi x u):∀ {xs:List V} {us:List Value} (i:Nat),aX xs us->aX (xs.set i x) (us.set i u)
 |_,_,_,.nil=>.nil
 |_,_,0,.cons _ t=>.cons r t
 |_,_,i+1,.cons q t=>.cons q (aX.set r i t)
theorem aX.append:∀ {xs ys:List V} {us ws:List Value},aX xs us->aX ys ws->aX (xs++ys) (us++ws)
 |_,_,_,_,.nil,s=>s
 |_,_,_,_,.cons r t,s=>.cons r (aX.append t s)
theorem aX.take:∀ {xs:List V} {us:List Value} (n:Nat),aX xs us->aX (xs.take n) (us.take n)
 |_,_,0,_=>.nil
 |_,_,_+1,.nil=>.nil
 |_,_,n+1,.cons r t=>.cons r (aX.take n t)
theorem aX.drop:∀ {xs:List V} {us:List Value} (n:Nat),aX xs us->aX (xs.drop n) (us.drop n)
 |_,_,0,r=>r
 |_,_,_+1,.nil=>.nil
 |_,_,n+1,.cons _ t=>aX.drop n t
def k8:Option V->Option Value->Prop
 |some v,some u=>bi v u
 |none,none=>True
 |_,_=>False
def KV{κ:Type}:List (κ×V)->List (κ×Value)->Prop:=Paired fun (p:κ×V) (q:κ×Value)=>p.1=q.1/\bi p.2 q.2
def kV:dz->V
 |.inl i=>.int i
 |.inr x=>.str x
inductive HO where
 |lst (xs:List V)
 |tup (xs:List V)
 |dK (kvs:List (dz×V))|dT (kvs:List (List dz×V))
 |set (S:Int->Bool) (n:Nat)
 |ins (C dx:Addr) (fs:List (Str×V))
 |own (x:Addr)
 |xd (fs:List (Str×V))
 |met (f x:Addr)
 |GC (lo hi:Int)
 |iR (o:Obj) (u:HO)
 |nA (ps:Array Value)
 |ext (φ:Heap->Prop)
abbrev Hp:=Addr->Option HO
def upd(H:Hp)(a:Addr)(o:HO):Hp:=fun b=>if b=a then some o else H b
theorem af:upd H a o a=some o:=by unfold upd;rw[ao rfl]
theorem ai(h:b≠a):upd H a o b=H b:=by unfold upd;rw[ap h]
theorem ie:upd (upd H a o) a u=upd H a u:=by
 funext b;unfold upd;split <;> rfl
theorem cA{H:Hp}{a b:Addr}{o u:HO}(h:H a=some o)(h':H b=some u)(d:o≠u):a≠b:=by
 intro e;subst e;rw[h] at h';exact d (aY h')
theorem ak{H:Hp}{a b:Addr}{o:HO}(h:H a=some o)(h':H b=none):a≠b:=by
 intro e;subst e;rw[h] at h';cases h'
section
variable (P:Program) (w:World)
def nB(h:Heap)(a:Addr)(lu:Array Value):Prop:=∃o,h.get? a=some o/\o.cls=.type "tuple"/\∃n,o.data=.seq lu n/\o.dict=none
theorem nB.tup(p:nB h a lu):IsTup h a lu:=let ⟨o,e,c,n,d,_⟩:=p;⟨o,e,c,n,d⟩
theorem nB.new(h:Heap)(lu:Array Value):nB (h.push { cls:=.type "tuple",data:=.seq lu }) h.objs.size lu:=⟨_,dh _ rfl,rfl,_,rfl,rfl⟩
def bS(H:Hp)(h:Heap)(a:Addr):HO->Prop
 |.lst xs=>xs.length<=sizeLine/\∃ (its:List Value) (n:Nat),aX xs its/\h.get? a=some { cls:=.type "list",data:=.seq its.toArray n }
 |.tup xs=>xs.length<=sizeLine/\∃its:List Value,aX xs its/\nB h a its.toArray
 |.dK kvs=>kvs.length<=sizeLine/\(a==sysModules)=false/\∃vs,KV kvs vs/\h.DictOf (bv P w) a vs
 |.dT kvs=>kvs.length<=sizeLine/\(a==sysModules)=false/\∃xs:List (List dz×Addr×Value),
   Paired (fun (p:List dz×V) (q:List dz×Addr×Value)=>p.1=q.1/\H q.2.1=some (.tup (p.1.map kV))/\bi p.2 q.2.2) kvs xs/\
   ∃o es ep,h.get? a=some o/\o.ExactDict/\o.data=.dict es ep/\es.toList=xs.map (entryOfKey (tupleKind (bv P w)))/\(xs.map (·.1)).Nodup
 |.set S n=>h.SetOf (intKind P w) a S n
 |.ins C dx fs=>H dx=some (.own a)/\fs.length<=1000/\dx≠a/\h.get? a=some (PySem.W.instObj C dx)/\
   ∃mA,h.Ns1 dx mA/\(∀f,k8 (fs.lookup f) (mA f))/\PySem.Within mA (fs.map (·.1))
 |.own _=>∃o,h.get? a=some o
 |.xd fs=>∃mA,h.Ns1 a mA/\∀f,k8 (fs.lookup f) (mA f)
 |.GC lo hi=>∃t u v,h.get? a=some { cls:=.type "range",data:=.fields #[.int lo t,.int hi u,.int 1 v] }
 |.iR o u=>h.get? a=some o/\bS H h a u
 |.nA ps=>h.get? a=some { cls:=.none,data:=.fields ps }
 |.met f x=>h.get? a=some (PySem.W.methodObj (.ref f) (.ref x))
 |.ext φ=>φ h/\(∃o,h.get? a=some o)/\∀h1 h2:Heap,φ h1->(∀o,h1.get? a=some o->h2.get? a=some o)->φ h2
def i7(H:Hp)(h:Heap):Prop:=∀a o,H a=some o->bS P w H h a o
end
section
variable {P:Program} {w:World} {H H':Hp} {h h':Heap} {a:Addr} {o:HO}
theorem bS.lt(x:bS P w H h a o):a<h.objs.size:=by
 cases o with
 |lst xs=>obtain⟨_,_,_,_,e⟩:=x;exact a_ e
 |tup xs=>obtain⟨_,_,_,p⟩:=x;exact p.tup.lt
 |dK kvs=>obtain⟨_,_,_,_,o,_,_,e,_⟩:=x;exact a_ e
 |dT kvs=>obtain⟨_,_,_,_,o,_,_,e,_⟩:=x;exact a_ e
 |set S n=>obtain⟨o,_,_,_,e,_⟩:=x;exact a_ e
 |ins C dx fs=>obtain⟨_,_,_,e,_⟩:=x;exact a_ e
 |own y=>obtain⟨_,e⟩:=x;exact a_ e
 |xd fs=>obtain⟨_,⟨_,_,_,e,_⟩,_⟩:=x;exact a_ e
 |GC lo hi=>obtain⟨_,_,_,e⟩:=x;exact a_ e
 |iR ob u=>obtain⟨e,_⟩:=x;exact a_ e
 |nA ps=>exact a_ (show h.get? a=some _ from x)
 |met f y=>exact a_ (show h.get? a=some _ from x)
 |ext φ=>obtain⟨_,⟨_,e⟩,_⟩:=x;exact a_ e
theorem Paired.K5:∀ {l₁:List α} {l₂:List β},Paired F l₁ l₂->(∀a b,F a b->G a b)->Paired G l₁ l₂
 |_,_,.nil,_=>.nil
 |_,_,.cons r t,f=>.cons (f _ _ r) (Paired.K5 t f)
theorem bS.oW(x:bS P w H h a o)(k:∀b u,(b=a\/H b=some (.own a))->h.get? b=some u->h'.get? b=some u)(ho:∀b,H b=some (.own a)->H' b=some (.own a))(ht:∀b xs,H b=some (.tup xs)->H' b=some (.tup xs)):bS P w H' h' a o:=by
 induction o with
 |lst xs=>obtain⟨z,its,n,r,e⟩:=x;exact⟨z,its,n,r,k _ _ (.inl rfl) e⟩
 |tup xs=>obtain⟨z,its,r,ob,e,c⟩:=x;exact⟨z,its,r,ob,k _ _ (.inl rfl) e,c⟩
 |dK kvs=>obtain⟨z,y,vs,r,ob,es,ep,e,c⟩:=x;exact⟨z,y,vs,r,ob,es,ep,k _ _ (.inl rfl) e,c⟩
 |dT kvs=>
  obtain⟨z,y,xs,r,ob,es,ep,e,c⟩:=x;exact⟨z,y,xs,Paired.K5 r fun p q z=>⟨z.1,ht _ _ z.2.1,z.2.2⟩,ob,es,ep,k _ _ (.inl rfl) e,c⟩
 |set S n=>obtain⟨ob,es,ep,t,e,c⟩:=x;exact⟨ob,es,ep,t,k _ _ (.inl rfl) e,c⟩
 |ins C dx fs=>
  obtain⟨d,z,ne,e,mA,⟨od,es,ep,e2,c⟩,r⟩:=x;exact⟨ho _ d,z,ne,k _ _ (.inl rfl) e,mA,⟨od,es,ep,k _ _ (.inr d) e2,c⟩,r⟩
 |own y=>obtain⟨ob,e⟩:=x;exact⟨ob,k _ _ (.inl rfl) e⟩
 |xd fs=>obtain⟨mA,⟨od,es,ep,e,c⟩,r⟩:=x;exact⟨mA,⟨od,es,ep,k _ _ (.inl rfl) e,c⟩,r⟩
 |GC lo hi=>obtain⟨t,u,v,e⟩:=x;exact⟨t,u,v,k _ _ (.inl rfl) e⟩
 |iR ob u ih=>obtain⟨e,q⟩:=x;exact⟨k _ _ (.inl rfl) e,ih q⟩
 |nA ps=>
  have e:h.get? a=some { cls:=.none,data:=.fields ps }:=x;show h'.get? a=some { cls:=.none,data:=.fields ps };exact k a _ (.inl rfl) e
 |met f y=>
  have e:h.get? a=some (PySem.W.methodObj (.ref f) (.ref y)):=x;show h'.get? a=some (PySem.W.methodObj (.ref f) (.ref y));exact k a _ (.inl rfl) e
 |ext φ=>obtain⟨p,⟨o,e⟩,st⟩:=x;exact⟨st _ _ p fun o q=>k _ _ (.inl rfl) q,⟨o,k _ _ (.inl rfl) e⟩,st⟩
theorem i7.lt(x:i7 P w H h)(e:H a=some o):a<h.objs.size:=(x a o e).lt
theorem i7.fresh(x:i7 P w H h)(e:h.objs.size<=a):H a=none:=by
 cases q:H a with
 |none=>rfl
 |some u=>exact absurd (bV (x.lt q) e) (jw _)
theorem i7.kept(x:i7 P w H h)(k:∀b u,h.get? b=some u->h'.get? b=some u):i7 P w H h':=fun a o e=>
 (x a o e).oW (fun b u _ q=>k b u q) (fun _ q=>q) fun _ _ q=>q
theorem i7.laid(x:i7 P w H h)(k:∀b u,h.get? b=some u->h'.get? b=some u)(hp:h.objs.size<=a)(new:bS P w (upd H a o) h' a o):i7 P w (upd H a o) h':=fun b u e=>by
 have hn:=x.fresh hp;by_cases hb:b=a
 .subst hb;rw[af] at e;cases e;exact new
 .rw[ai hb] at e;exact(x b u e).oW (fun c v _ q=>k c v q) (fun c q=>by rw[ai (ak q hn)];exact q) fun c xs q=>by rw[ai (ak q hn)];exact q
end
def Rd(H:Hp)(a:Addr)(u:HO):Prop:=H a=some u\/∃o,H a=some (.iR o u)
theorem Rd.ok(r:Rd H a u)(x:i7 P w H h):bS P w H h a u:=by
 rcases r with r|⟨o,r⟩
 .exact x a u r
 .obtain⟨_,q⟩:=x a _ r;exact q
def OT:Option HO->Prop
 |some (.lst _)=>True
 |some (.dK _)=>True
 |some (.dT _)=>True
 |some (.set _ _)=>True
 |some (.ins _ _ _)=>True
 |some (.ext _)=>True
 |_=>False
section
variable {P:Program} {w:World} {H:Hp} {h h':Heap} {x e:Addr} {o':HO}
theorem i7.write(ok:i7 P w H h)(mu:OT (H x))(he:e=x\/H e=some (.own x))(k:∀b u,b≠e->h.get? b=some u->h'.get? b=some u)(Oi:∃u,h'.get? e=some u)(new:bS P w (upd H x o') h' x o'):i7 P w (upd H x o') h':=fun b u q=>by
 have OU:∀c y,H c=some (.own y)->c≠x:=fun c y r z=>by subst z;rw[r] at mu;exact mu
 have Ud:∀c xs,H c=some (.tup xs)->c≠x:=fun c xs r z=>by subst z;rw[r] at mu;exact mu
 by_cases hb:b=x
 .subst hb;rw[af] at q;cases q;exact new
 .rw[ai hb] at q;by_cases Gh:b=e
  .have q':H b=some (.own x):=by
    rcases he with z|z
    .exact absurd (Gh.trans z) hb
    .rw[Gh];exact z
   rw[q] at q';cases q';obtain⟨v,hv⟩:=Oi;exact⟨v,by rw[Gh];exact hv⟩
  .refine(ok b u q).oW (fun c v hc r=>k c v ?_ r) (fun c r=>by rw[ai (OU c b r)];exact r) fun c xs r=>by rw[ai (Ud c xs r)];exact r
   rcases hc with rfl|hc
   .exact Gh
   .rintro rfl;rcases he with z|z
    .exact OU c b hc z
    .rw[hc] at z;cases z;exact hb rfl
end
structure Un(fs ex:List Addr)(H H':Hp)(h h':Heap):Prop where
 keep:∀b o,h.get? b=some o->H b=none->b∉fs->b∉ex->h'.get? b=some o
 slot:∀b o,h.get? b=some o->H b=none->b∈fs->b∉ex->∃sl,h'.get? b=some { o with slots:=sl }
 free:∀b o,h.get? b=some o->H b=none->b∉ex->H' b=none
 there:∀b o,h.get? b=some o->b∉ex->∃o',h'.get? b=some o'
 lZ:∀b xs,H b=some (.tup xs)->H' b=some (.tup xs)
 nC:∀b o u,H b=some (.iR o u)->H' b=some (.iR o u)
 nE:∀b ps,H b=some (.nA ps)->∃more,H' b=some (.nA (ps++more))
section
variable {fs fs' ex ex':List Addr} {H H1 H2:Hp} {h h1 h2 h':Heap} {a x e:Addr} {o:HO}
theorem Un.any(u:Un fs ex H H1 h h1)(q:h.get? b=some ob)(n:H b=none)(hx:b∉ex):∃sl,h1.get? b=some { ob with slots:=sl }:=by
 by_cases hb:b∈fs
 .exact u.slot b ob q n hb hx
 .exact⟨ob.slots,u.keep b ob q n hb hx⟩
theorem Un.kept(k:∀b u,h.get? b=some u->h'.get? b=some u):Un fs ex H H h h':=
 ⟨fun b ob q _ _ _=>k b ob q,fun b ob q _ _ _=>⟨ob.slots,k b ob q⟩,fun _ _ _ n _=>n,fun b ob q _=>⟨ob,k b ob q⟩,fun _ _ q=>q,fun _ _ _ q=>q,fun _ ps q=>⟨#[],by rw[q];simp⟩⟩
theorem Un.refl:Un fs ex H H h h:=Un.kept fun _ _ q=>q
theorem Un.laid(k:∀b u,h.get? b=some u->h'.get? b=some u)(hp:h.objs.size<=a)(hn:H a=none):Un fs ex H (upd H a o) h h' where
 keep:=fun b u q _ _ _=>k b u q
 slot:=fun b u q _ _ _=>⟨u.slots,k b u q⟩
 free:=fun b u q n _=>by rw[ai (aZ (bV (a_ q) hp))];exact n
 there:=fun b u q _=>⟨u,k b u q⟩
 lZ:=fun b xs q=>by rw[ai (ak q hn)];exact q
 nC:=fun b u xs q=>by rw[ai (ak q hn)];exact q
 nE:=fun b ps q=>⟨#[],by rw[ai (ak q hn),q];simp⟩
theorem Un.write(mu:OT (H x))(he:e=x\/H e=some (.own x))(k:∀b u,b≠e->h.get? b=some u->h'.get? b=some u)(Oi:∃u,h'.get? e=some u):Un fs ex H (upd H x o) h h':=by
 have hx:∀b,H b=none->b≠x:=fun b n z=>by subst z;rw[n] at mu;exact mu
 have hb:∀b,H b=none->b≠e:=fun b n z=>by
  subst z;rcases he with r|r
  .exact hx b n r
  .rw[n] at r;cases r
 have hm:∀b u,H b=some u->¬ OT (some u)->b≠x:=fun b u q nm z=>by subst z;rw[q] at mu;exact nm mu
 refine⟨fun b u q n _ _=>k b u (hb b n) q,fun b u q n _ _=>⟨u.slots,k b u (hb b n) q⟩,fun b u q n _=>by rw[ai (hx b n)];exact n,fun b u q _=>?_,
  fun b xs q=>by rw[ai (hm b _ q fun z=>z)];exact q,fun b u xs q=>by rw[ai (hm b _ q fun z=>z)];exact q,fun b ps q=>⟨#[],by rw[ai (hm b _ q fun z=>z),q];simp⟩⟩
 by_cases Gh:b=e
 .subst Gh;exact Oi
 .exact⟨u,k b u Gh q⟩
end
def SD(h:Heap)(H:Hp):List Addr:=(List.range h.objs.size).filter fun a=>(H a).isSome
def rT(h:Heap)(H:Hp):Heap:=PySem.W.hideAll h (SD h H)
theorem Bz(h:Heap)(H:Hp):(rT h H).objs.size=h.objs.size:=PySem.W.hideAll_size _ _
theorem Dj(e:h.get? b=some o)(n:H b=none):(rT h H).get? b=some o:=
 PySem.W.hideAll_get _ e fun hm=>by
  have q:(H b).isSome=true:=(bX.mp hm).2;rw[n] at q;simp at q
theorem GD(e:(rT h H).get? b=some o):h.get? b=some o/\H b=none:=by
 have e':h.get? b=some o:=PySem.W.of_hideAll (SD h H) e;refine⟨e',?_⟩;cases q:H b with
 |none=>rfl
 |some x=>
  have hm:b∈SD h H:=bX.mpr ⟨bL.mpr (a_ e'),by simp[q]⟩;have z:(rT h H).get? b=none:=PySem.W.hideAll_none (SD h H) hm;rw[z] at e;cases e
def i8(g h:Heap)(L:Addr):List (Addr×Obj):=(List.range h.objs.size).filterMap fun a=>if a=L\/(g.get? a).isSome=true then none else (h.get? a).map fun o=>(a,o)
theorem jT(h1:a≠L)(h2:g.get? a=none)(h3:h.get? a=some o):(a,o)∈i8 g h L:=
 m9.mpr ⟨a,bL.mpr (a_ h3),by simp[h1,h2,h3]⟩
theorem qr(hp:p∈i8 g h L):p.1≠L/\g.get? p.1=none/\h.get? p.1=some p.2:=by
 obtain⟨b,_,e⟩:=m9.mp hp;split at e
 .cases e
 .rename_i hn;cases q:h.get? b with
  |none=>rw[q] at e;simp at e
  |some u=>
   rw[q] at e;simp only[Option.map_some,Option.some.injEq] at e;subst e;refine⟨fun z=>hn (.inl z),?_,q⟩;show g.get? b=none;cases r:g.get? b with
   |none=>rfl
   |some v=>exact(hn (.inr (by simp[r]))).elim
theorem Dk:News g L h (i8 g h L):=fun p hp=>let ⟨a,b,c⟩:=qr hp;⟨c,a,b⟩
structure Mod(K:PySem.W.Frag)(mg:Str->Option Value)(base:Heap):Prop where
 Oj:K.In base
 glob:base.Ns mainGlobals mg
 blt:∃mb,base.Ns builtinsNs mb/\∀x:Str,x≠"__name__"->mb x=bootBuiltins x
 nolimit:base.NoLimit
structure Cx where
 prog:Program
 w:World
 K:PySem.W.Frag
 mg:Str->Option Value
 base:Heap
 A:Around
 N:List Str
 s₀:Shared
 H₀:Hp
 env:Env
 outer:List Env
 stack:List Env
 ex:List Addr
 fn:Str->Bool
 calm:Bool
 pn:List (Addr×Obj)
 xe:Value->Shared->Prop
def BA(l:List Env):List Addr:=l.filterMap (·.frame)
abbrev Cx.fs(X:Cx):List Addr:=BA X.outer
def OV(sc:Scope)(x:Str):Prop:=sc.names.lookup x=some .local\/sc.names.lookup x=some .cell\/sc.names.lookup x=some .free
def OW(sc:Scope)(x:Str):Prop:=sc.names.lookup x=some .local\/sc.names.lookup x=some .cell
def Ue(env:Env)(h:Heap)(m:Str->Option Value)(x:Str)(u:Value):Prop:=
 (env.kindOf x=some .local/\m x=some u)\/((env.kindOf x=some .cell\/env.kindOf x=some .free)/\∃c,env.cells.lookup x=some c/\h.IsCell c (some u))
structure Cx.Ok(X:Cx):Prop where
 mod:Mod X.K X.mg X.base
 kind:X.env.scope.kind=.function
 glob:X.env.globals=mainGlobals
 blt:X.env.builtins=builtinsNs
 above:X.s₀.heap.objs.size<=X.env.locals
 inj:∀x y c,X.env.cells.lookup x=some c->X.env.cells.lookup y=some c->x=y
 has:∀x,(X.env.kindOf x=some .cell\/X.env.kindOf x=some .free)->∃c,X.env.cells.lookup x=some c
 Ol:∀x c,X.fn x=true->X.env.cells.lookup x=some c->X.s₀.heap.objs.size<=c
 hd:X.calm=true->X.A.handled=none
 frames:X.A.frames=some X.stack
 Om:X.stack=X.outer\/(X.stack=X.env::X.outer/\X.env.frame=some X.env.locals)
 Uf:∀b∈X.ex,b≠X.env.locals/\∀x c,X.env.cells.lookup x=some c->c≠b
 bs:∀b o,X.base.get? b=some o->X.s₀.heap.get? b=some o/\X.H₀ b=none
 C0:X.base.objs.size<=X.s₀.heap.objs.size
 Dl:∀b o,X.base.get? b=some o->b∉X.ex
 GE:∀b∈X.ex,b∉X.fs
 nF:X.s₀.heap.FunFrames X.base X.outer
 K6:∀b∈X.fs,X.H₀ b=none
structure aP(X:Cx)(ae:List (Addr×Obj))(σ:List (Option V))(H:Hp)(s:Shared):Prop where
 ok:X.Ok
 os:s.os=X.s₀.os
 bare:AllBare s.gens
 base:Un X.fs X.ex X.H₀ H X.s₀.heap s.heap
 loc:∃m,s.heap.Ns X.env.locals m/\∀ (i:Nat) (x:Str) (v:V),X.N[i]?=some x->σ[i]?=some (some v)->OV X.env.scope x->∃u,bi v u/\Ue X.env s.heap m x u
 cell:∀x c,X.env.cells.lookup x=some c->∃v,s.heap.IsCell c v
 free:H X.env.locals=none
 jU:∀x c,X.env.cells.lookup x=some c->H c=none
 pin:∀p∈X.pn++ae,s.heap.get? p.1=some p.2/\H p.1=none/\p.1≠X.env.locals/\p.1∉X.fs/\∀v,p.2.data≠.cell v
 bE:i7 X.prog X.w H s.heap
 len:σ.length=X.N.length
section
variable {X:Cx} {ae:List (Addr×Obj)} {σ:List (Option V)} {H H':Hp} {s:Shared} {h':Heap}
theorem Cx.Ok.Ug(ok:X.Ok)(e:X.base.get? b=some o):b∉X.fs:=fun hb=>by
 have:=(ok.nF.mem hb).1;rw[e] at this;cases this
theorem aP.bs(I:aP X ae σ H s):∀b o,X.base.get? b=some o->s.heap.get? b=some o/\H b=none:=fun b o e=>
 ⟨I.base.keep b o (I.ok.bs b o e).1 (I.ok.bs b o e).2 (I.ok.Ug e) (I.ok.Dl b o e),I.base.free b o (I.ok.bs b o e).1 (I.ok.bs b o e).2 (I.ok.Dl b o e)⟩
theorem aP.bk(I:aP X ae σ H s):∀b o,X.base.get? b=some o->s.heap.get? b=some o:=fun b o e=>(I.bs b o e).1
theorem aP.mod(I:aP X ae σ H s):Mod X.K X.mg X.base:=I.ok.mod
theorem aP.nG(I:aP X ae σ H s):X.K.In s.heap:=I.ok.mod.Oj.keeps I.bk
theorem aP.nolimit(I:aP X ae σ H s):s.heap.NoLimit:=I.ok.mod.nolimit.keeps I.bk
theorem aP.fr(I:aP X ae σ H s):∃m,Fr X.base X.env.locals s.heap m:=
 let ⟨m,hn,_⟩:=I.loc
 ⟨m,hn,I.bk,bj I.ok.C0 I.ok.above⟩
theorem aP.lt(I:aP X ae σ H s):X.env.locals<s.heap.objs.size:=let ⟨_,hn,_⟩:=I.loc;hn.lt
theorem aP.sz(I:aP X ae σ H s):X.s₀.heap.objs.size<=s.heap.objs.size:=bj I.ok.above (d_ I.lt)
theorem aP.Uh(I:aP X ae σ H s)(h:s.heap.objs.size<=a):a∉X.fs:=fun hb=>by
 obtain⟨_,o,ho,_⟩:=I.ok.nF.mem hb;exact absurd (bV (a_ ho) (bj I.sz h)) (jw _)
theorem aP.JP(I:aP X ae σ H s):∀x c,X.env.cells.lookup x=some c->c≠X.env.locals:=fun x c e z=>by
 obtain⟨v,o,ho,hd⟩:=I.cell x c e;obtain⟨m,⟨o',es,ep,Dm,K7,_⟩,_⟩:=I.loc;rw[z,Dm] at ho;cases ho;rw[K7] at hd;cases hd
theorem aP.nF(I:aP X ae σ H s):s.heap.FunFrames X.base X.outer:=by
 have all:∀ (l:List Env),(∀b∈BA l,b∈X.fs)->X.s₀.heap.FunFrames X.base l->s.heap.FunFrames X.base l:=by
  intro l;induction l with
  |nil=>intro _ _;trivial
  |cons env r ih=>
   intro hs hl;obtain⟨hk,⟨L,o,hf,hn,ho,hd⟩,hr⟩:=hl;have hL:L∈X.fs:=hs L (by unfold BA;rw[yo,hf];exact cq);obtain⟨sl,e⟩:=I.base.slot L o ho (I.ok.K6 L hL) hL fun z=>I.ok.GE L z hL;exact⟨hk,⟨L,_,hf,hn,e,hd⟩,ih (fun b hb=>hs b (by unfold BA;rw[yo,hf];exact cy _ hb)) hr⟩
 exact all X.outer (fun _ hb=>hb) I.ok.nF
theorem aP.stack(I:aP X ae σ H s):s.heap.FunFrames X.base X.stack:=by
 rcases I.ok.Om with e|⟨e,hf⟩
 .rw[e];exact I.nF
 .rw[e];obtain⟨m,hn,_⟩:=I.loc;refine .cons (by rw[I.ok.kind];decide) hf hn ?_ I.nF;exact lH (bj I.ok.C0 I.ok.above)
theorem aP.qt(I:aP X ae σ H s):∀b∈BA X.stack,b∈X.env.locals::X.fs:=fun b hb=>by
 rcases I.ok.Om with e|⟨e,hf⟩
 .rw[e] at hb;exact cy _ hb
 .rw[e] at hb;unfold BA at hb;rw[yo,hf] at hb;exact hb
theorem aP.pi(I:aP X ae σ H s):∀b∈BA X.stack,H b=none:=fun b hb=>by
 rcases bP.mp (I.qt b hb) with e|hb
 .rw[e];exact I.free
 .obtain⟨_,o,ho,_⟩:=I.ok.nF.mem hb;exact I.base.free b o ho (I.ok.K6 b hb) fun z=>I.ok.GE b z hb
theorem aP.step{g':Array GenState}{t':Nat}{d':Drawn}{ch:List Addr}(I:aP X ae σ H s)(Gi:∀b∈ch,(b∈X.ex\/X.s₀.heap.objs.size<=b)/\b≠X.env.locals/\(∀x c,X.env.cells.lookup x=some c->c≠b)/\∀p∈X.pn++ae,p.1≠b)(keep:∀b o,b≠X.env.locals->b∉X.fs->b∉ch->s.heap.get? b=some o->H b=none->h'.get? b=some o)(slot:∀b o,b≠X.env.locals->b∈X.fs->b∉ch->s.heap.get? b=some o->H b=none->∃sl,h'.get? b=some { o with slots:=sl })(free:∀b o,b∉ch->s.heap.get? b=some o->H b=none->H' b=none)(there:∀b o,b∉ch->s.heap.get? b=some o->∃o',h'.get? b=some o')(lZ:∀b xs,H b=some (.tup xs)->H' b=some (.tup xs))(nC:∀b o u,H b=some (.iR o u)->H' b=some (.iR o u))(nE:∀b ps,H b=some (.nA ps)->∃more,H' b=some (.nA (ps++more)))(ns:∀m,s.heap.Ns X.env.locals m->h'.Ns X.env.locals m)(bE:i7 X.prog X.w H' h')(hg:AllBare g'):
  aP X ae σ H' { s with heap:=h',gens:=g',drawn:=d',toks:=t' }:=by
 have Yc:∀b o,X.s₀.heap.get? b=some o->b≠X.env.locals:=fun b o e=>aZ (bV (a_ e) I.ok.above);have SE:∀b o,X.s₀.heap.get? b=some o->b∉X.ex->b∉ch:=fun b o e hx hb=>by
  rcases(Gi b hb).1 with z|z
  .exact hx z
  .exact absurd (bV (a_ e) z) (jw _)
 have JQ:∀x c,X.env.cells.lookup x=some c->∀v,s.heap.IsCell c v->h'.IsCell c v:=fun x c e v ⟨o,ho,hd⟩=>by
  have OX:c∉ch:=fun z=>(Gi c z).2.2.1 x c e rfl;by_cases hc:c∈X.fs
  .obtain⟨sl,q⟩:=slot c o (I.JP x c e) hc OX ho (I.jU x c e);exact⟨_,q,hd⟩
  .exact⟨o,keep c o (I.JP x c e) hc OX ho (I.jU x c e),hd⟩
 refine⟨I.ok,I.os,hg,⟨fun b o e n hb hx=>?_,fun b o e n hb hx=>?_,fun b o e n hx=>?_,fun b o e hx=>?_,fun b xs e=>lZ b xs (I.base.lZ b xs e),fun b o xs e=>nC b o xs (I.base.nC b o xs e),fun b ps e=>?_⟩,?_,fun x c e=>?_,?_,fun x c e=>?_,fun p hp=>?_,bE,I.len⟩
 .exact keep b o (Yc b o e) hb (SE b o e hx) (I.base.keep b o e n hb hx) (I.base.free b o e n hx)
 .obtain⟨sl,e1⟩:=I.base.slot b o e n hb hx;obtain⟨Ui,e2⟩:=slot b _ (Yc b o e) hb (SE b o e hx) e1 (I.base.free b o e n hx);exact⟨Ui,e2⟩
 .obtain⟨o',e1⟩:=I.base.there b o e hx;exact free b o' (SE b o e hx) e1 (I.base.free b o e n hx)
 .obtain⟨o',e1⟩:=I.base.there b o e hx;exact there b o' (SE b o e hx) e1
 .obtain⟨m1,e1⟩:=I.base.nE b ps e;obtain⟨m2,e2⟩:=nE b _ e1;exact⟨m1++m2,by rw[e2,Array.append_assoc]⟩
 .obtain⟨m,hn,hl⟩:=I.loc;refine⟨m,ns m hn,fun i x v e1 e2 e3=>?_⟩;obtain⟨u,r,l⟩:=hl i x v e1 e2 e3;refine⟨u,r,?_⟩;rcases l with l|⟨k,c,e,z⟩
  .exact .inl l
  .exact .inr ⟨k,c,e,JQ x c e _ z⟩
 .obtain⟨v,z⟩:=I.cell x c e;exact⟨v,JQ x c e v z⟩
 .obtain⟨m,⟨o,_,_,ho,_⟩,_⟩:=I.loc;exact free _ o (fun z=>(Gi _ z).2.1 rfl) ho I.free
 .obtain⟨v,o,ho,hd⟩:=I.cell x c e;exact free c o (fun z=>(Gi c z).2.2.1 x c e rfl) ho (I.jU x c e)
 .obtain⟨e,n,ne,nf,d⟩:=I.pin p hp;have OX:p.1∉ch:=fun z=>(Gi p.1 z).2.2.2 p hp rfl;exact⟨keep p.1 p.2 ne nf OX e n,free p.1 p.2 OX e n,ne,nf,d⟩
theorem aP.un{t':Nat}(I:aP X ae σ H s)(u:Un X.fs [] H H' s.heap h')(bE:i7 X.prog X.w H' h'):aP X ae σ H' { s with heap:=h',toks:=t' }:=by
 obtain⟨m,⟨o,es,ep,ho,r⟩,_⟩:=id I.loc;obtain⟨sl,hL⟩:=u.any ho I.free (by simp);exact I.step (g':=s.gens) (d':=s.drawn) (ch:=[]) (fun _ z=>nomatch z) (fun b o _ hb _ e n=>u.keep b o e n hb (by simp)) (fun b o _ hb _ e n=>u.slot b o e n hb (by simp)) (fun b o _ e n=>u.free b o e n (by simp)) (fun b o _ e=>u.there b o e (by simp)) u.lZ u.nC u.nE (fun m' hm=>by
  obtain⟨o',vT,K8,Dm,r'⟩:=hm;rw[ho] at Dm;cases Dm;exact⟨_,vT,K8,hL,r'⟩) bE I.bare
theorem aP.call{g':Array GenState}{t':Nat}{d':Drawn}{ch:List Addr}(I:aP X ae σ H s)(u:Un (BA X.stack) ch H H' s.heap h')(bE:i7 X.prog X.w H' h')(hg:AllBare g')(Gi:∀b∈ch,(b∈X.ex\/X.s₀.heap.objs.size<=b)/\b≠X.env.locals/\(∀x c,X.env.cells.lookup x=some c->c≠b)/\∀p∈X.pn++ae,p.1≠b):
  aP X ae σ H' { s with heap:=h',gens:=g',drawn:=d',toks:=t' }:=by
 obtain⟨m,⟨o,es,ep,ho,r⟩,_⟩:=id I.loc;obtain⟨sl,hL⟩:=u.any ho I.free fun z=>(Gi _ z).2.1 rfl;exact I.step (ch:=ch) Gi (fun b o hL hb hc e n=>u.keep b o e n (fun z=>(bP.mp (I.qt b z)).elim hL hb) hc) (fun b o _ _ hc e n=>u.any e n hc) (fun b o hc e n=>u.free b o e n hc) (fun b o hc e=>u.there b o e hc) u.lZ u.nC u.nE (fun m' hm=>by
  obtain⟨o',vT,K8,Dm,r'⟩:=hm;rw[ho] at Dm;cases Dm;exact⟨_,vT,K8,hL,r'⟩) bE hg
theorem aP.turned{t':Nat}{it:Addr}(I:aP X ae σ H s)(k:∀b o,b≠it->s.heap.get? b=some o->h'.get? b=some o)(hn:H it=none)(hL:it≠X.env.locals)(h1:it∈X.ex\/X.s₀.heap.objs.size<=it)(h2:∀x c,X.env.cells.lookup x=some c->c≠it)(h3:∀p∈X.pn++ae,p.1≠it):aP X ae σ H { s with heap:=h',toks:=t' }:=by
 have Yd:∀b u,H b=some u->b≠it:=fun b u e z=>by rw[z,hn] at e;cases e
 refine I.step (g':=s.gens) (d':=s.drawn) (ch:=[it]) (fun b hb=>?_) (fun b o _ _ hc e _=>k b o (fun z=>hc (by simp[z])) e) (fun b o _ _ hc e _=>⟨o.slots,k b o (fun z=>hc (by simp[z])) e⟩) (fun _ _ _ _ n=>n)
  (fun b o hc e=>⟨o,k b o (fun z=>hc (by simp[z])) e⟩) (fun _ _ e=>e) (fun _ _ _ e=>e) (fun b ps e=>⟨#[],by rw[e];simp⟩) (fun m hm=>?_) (fun b u e=>?_) I.bare
 .have e:b=it:=by simpa using hb
  subst e;exact⟨h1,hL,h2,h3⟩
 .obtain⟨o,es,ep,ho,r⟩:=hm;exact⟨o,es,ep,k _ o (Ne.symm hL) ho,r⟩
 .refine(I.bE b u e).oW (fun c v hc q=>k c v ?_ q) (fun _ q=>q) fun _ _ q=>q;rcases hc with z|z
  .rw[z];exact Yd b u e
  .exact Yd c _ z
theorem aP.tok(I:aP X ae σ H s)(t:Nat):aP X ae σ H { s with toks:=t }:=I.un (h':=s.heap) (t':=t) Un.refl I.bE
theorem aP.kept(I:aP X ae σ H s)(k:∀b u,s.heap.get? b=some u->h'.get? b=some u):aP X ae σ H { s with heap:=h',toks:=t' }:=I.un (Un.kept k) (I.bE.kept k)
theorem aP.laid(I:aP X ae σ H s)(k:∀b u,s.heap.get? b=some u->h'.get? b=some u)(hp:s.heap.objs.size<=a)(new:bS X.prog X.w (upd H a o) h' a o):
  aP X ae σ (upd H a o) { s with heap:=h',toks:=t' }:=I.un (Un.laid k hp (I.bE.fresh hp)) (I.bE.laid k hp new)
theorem aP.write(I:aP X ae σ H s)(mu:OT (H x))(he:e=x\/H e=some (.own x))(k:∀b u,b≠e->s.heap.get? b=some u->h'.get? b=some u)(Oi:∃u,h'.get? e=some u)(new:bS X.prog X.w (upd H x o) h' x o):aP X ae σ (upd H x o) { s with heap:=h',toks:=t' }:=I.un (Un.write mu he k Oi) (I.bE.write mu he k Oi new)
theorem aP.z_(I:aP X ae σ H s)(h:∀p∈OY,s.heap.get? p.1=some p.2/\H p.1=none/\p.1≠X.env.locals/\p.1∉X.fs/\∀v,p.2.data≠.cell v):aP X OY σ H s:=
 ⟨I.ok,I.os,I.bare,I.base,I.loc,I.cell,I.free,I.jU,fun p hp=>(bg.mp hp).elim (fun z=>I.pin p (hW _ z)) (h p),I.bE,I.len⟩
theorem v_{N:List Str}(hN:N.Nodup){i j:Nat}{x:Str}(a:N[i]?=some x)(b:N[j]?=some x):i=j:=by
 obtain⟨h1,e1⟩:=cM.mp a;obtain⟨h2,e2⟩:=cM.mp b;exact(List.getElem_inj hN).mp (e1.trans e2.symm)
theorem sA{M:Model}{A:Around}{E:Value->Shared->Prop}{i:Nat}{x:Str}{v:V}{u:Value}{Q:Unit->Shared->Prop}(I:aP X ae σ H s)(hN:X.N.Nodup)(hi:X.N[i]?=some x)(hx:OW X.env.scope x)(r:bi v u)(h:∀s',aP X ae (σ.set i (some v)) H s'->(∃a,Heap.SameBut a s.heap s'.heap/\(a=X.env.locals\/X.env.cells.lookup x=some a))->Q () s')(hf:X.fn x=true\/X.env.scope.names.lookup x=some .local:=by first|exact .inl rfl|exact .inr rfl|assumption):wpAny M A (storeName X.env x u) Q E s:=by
 obtain⟨m,hn,hl⟩:=id I.loc;have Uj:(X.env.scope.kind==.class||(X.env.scope.kind==.module&&X.env.locals != X.env.globals))=false:=by rw[I.ok.kind];rfl
 have hiσ:i<σ.length:=by rw[I.len];exact(cM.mp hi).1
 have JP:=I.JP;have Aa:∀ {a:Addr} {h':Heap},(∃o,s.heap.get? a=some o/\H a=none)->Heap.SameBut a s.heap h'->i7 X.prog X.w H h':=fun {a h'} ha hs b ob e=>by
  obtain⟨_,_,JR⟩:=ha;refine(I.bE b ob e).oW (fun c w' hc q=>(hs.2 c ?_).trans q) (fun _ q=>q) fun _ _ q=>q;rintro rfl;rcases hc with rfl|hc
  .rw[JR] at e;cases e
  .rw[JR] at hc;cases hc
 rcases hx with hk|hk
 .refine wpAny_storeName_local hk hn (fun h' Ye hs=>?_) Uj;obtain⟨oL,_,_,JS,_⟩:=id hn;refine h _ ⟨I.ok,I.os,I.bare,⟨fun b o e n hb hx=>?_,fun b o e n hb hx=>?_,I.base.free,fun b o e hx=>?_,I.base.lZ,I.base.nC,I.base.nE⟩,⟨_,Ye,fun j y v' e1 e2 e3=>?_⟩,fun y c e=>?_,I.free,I.jU,fun p hp=>?_,Aa ⟨oL,JS,I.free⟩ hs,by simpa using I.len⟩ ⟨_,hs,.inl rfl⟩
  .exact(hs.2 b (aZ (bV (a_ e) I.ok.above))).trans (I.base.keep b o e n hb hx)
  .obtain⟨sl,e1⟩:=I.base.slot b o e n hb hx;exact⟨sl,(hs.2 b (aZ (bV (a_ e) I.ok.above))).trans e1⟩
  .obtain⟨o',e1⟩:=I.base.there b o e hx;exact⟨o',(hs.2 b (aZ (bV (a_ e) I.ok.above))).trans e1⟩
  .by_cases hj:j=i
   .subst hj;rw[hi] at e1;cases e1;rw[pX hiσ] at e2;cases e2;exact⟨u,r,.inl ⟨hk,by simp⟩⟩
   .rw[ui (Ne.symm hj)] at e2;obtain⟨u',r',q⟩:=hl j y v' e1 e2 e3;refine⟨u',r',?_⟩;rcases q with ⟨k,e⟩|⟨k,c,e,z⟩
    .refine .inl ⟨k,?_⟩;have:y≠x:=fun e=>hj (v_ hN e1 (e ▸ hi));simp[this,e]
    .exact .inr ⟨k,c,e,z.sameBut hs (JP y c e)⟩
  .obtain⟨w',z⟩:=I.cell y c e;exact⟨w',z.sameBut hs (JP y c e)⟩
  .obtain⟨e,n,ne,nf,d⟩:=I.pin p hp;exact⟨(hs.2 p.1 ne).trans e,n,ne,nf,d⟩
 .have OZ:X.fn x=true:=by
   rcases hf with z|z
   .exact z
   .rw[z] at hk;cases hk
  obtain⟨c,hc⟩:=I.ok.has x (.inl hk);obtain⟨w',z⟩:=I.cell x c hc;refine wpAny_storeName_cell I.ok.kind hk hc z (fun h' Dn hs=>?_);obtain⟨oc,SF,Uk⟩:=id z;refine h { s with heap:=h' } ⟨I.ok,I.os,I.bare,⟨fun b o e n hb hx=>?_,fun b o e n hb hx=>?_,I.base.free,fun b o e hx=>?_,I.base.lZ,I.base.nC,I.base.nE⟩,⟨m,hn.sameBut hs (Ne.symm (JP x c hc)),fun j y v' e1 e2 e3=>?_⟩,fun y c' e=>?_,I.free,I.jU,fun p hp=>?_,Aa ⟨oc,SF,I.jU x c hc⟩ hs,by simpa using I.len⟩ ⟨c,hs,.inr hc⟩
  .exact(hs.2 b (aZ (bV (a_ e) (I.ok.Ol x c OZ hc)))).trans (I.base.keep b o e n hb hx)
  .obtain⟨sl,e1⟩:=I.base.slot b o e n hb hx;exact⟨sl,(hs.2 b (aZ (bV (a_ e) (I.ok.Ol x c OZ hc)))).trans e1⟩
  .obtain⟨o',e1⟩:=I.base.there b o e hx;exact⟨o',(hs.2 b (aZ (bV (a_ e) (I.ok.Ol x c OZ hc)))).trans e1⟩
  .by_cases hj:j=i
   .subst hj;rw[hi] at e1;cases e1;rw[pX hiσ] at e2;cases e2;exact⟨u,r,.inr ⟨.inl hk,c,hc,Dn⟩⟩
   .rw[ui (Ne.symm hj)] at e2;obtain⟨u',r',q⟩:=hl j y v' e1 e2 e3;refine⟨u',r',?_⟩;rcases q with q|⟨k,c',e,z'⟩
    .exact .inl q
    .refine .inr ⟨k,c',e,z'.sameBut hs ?_⟩;rintro rfl;exact hj (v_ hN e1 (I.ok.inj _ _ _ e hc ▸ hi))
  .by_cases Yf:c'=c
   .subst Yf;exact⟨_,Dn⟩
   .obtain⟨w2,z2⟩:=I.cell y c' e;exact⟨w2,z2.sameBut hs Yf⟩
  .obtain⟨e,n,ne,nf,d⟩:=I.pin p hp;refine⟨(hs.2 p.1 ?_).trans e,n,ne,nf,d⟩;intro q;rw[q,SF] at e;have q':oc=p.2:=aY e;exact d w' (by rw[<-q'];exact Uk)
theorem qu(I:aP X ae σ H s)(hN:X.N.Nodup)(hi:X.N[i]?=some x)(hx:OW X.env.scope x)(r:bi v u)(h:∀s',aP X ae (σ.set i (some v)) H s'->Q () s')(hf:X.fn x=true\/X.env.scope.names.lookup x=some .local:=by first|exact .inl rfl|exact .inr rfl|assumption):wpAny M A (storeName X.env x u) Q E s:=
 sA I hN hi hx r (fun s' I' _=>h s' I') hf
theorem aP.JT(I:aP X ae σ H s)(ho:s'.os=s.os)(u:Un (BA X.stack) ch H H' s.heap s'.heap)(bE:i7 X.prog X.w H' s'.heap)(hg:AllBare s'.gens)(Gi:∀b∈ch,(b∈X.ex\/X.s₀.heap.objs.size<=b)/\b≠X.env.locals/\(∀x c,X.env.cells.lookup x=some c->c≠b)/\∀p∈X.pn++ae,p.1≠b):aP X ae σ H' s':=by
 obtain⟨h',g',d',t',o'⟩:=s';have e:o'=s.os:=ho;subst e;exact I.call (g':=g') (t':=t') (d':=d') u bE hg Gi
end
abbrev XK:=Value->Option Addr->Hp->Prop
abbrev St:=List (Option V)
abbrev VK:=V->Hp->Prop
abbrev TE:=St->Hp->VK->Prop
abbrev TT:=St->Hp->(Bool->Hp->Prop)->Prop
abbrev TA:=St->Hp->(List V->Hp->Prop)->Prop
structure wa where
 nx:St->Hp->Prop
 rt:VK
 bk:St->Hp->Prop:=fun _ _=>False
 ct:St->Hp->Prop:=fun _ _=>False
abbrev TS:=wa->St->Hp->Prop
def EP(X:Cx)(ae:List (Addr×Obj))(σ:St)(Q:VK)(u:Value)(s':Shared):Prop:=∃v H',aP X ae σ H' s'/\bi v u/\Q v H'
def TP(X:Cx)(ae:List (Addr×Obj))(σ:St)(Q:Bool->Hp->Prop)(b:Bool)(s':Shared):Prop:=∃H',aP X ae σ H' s'/\Q b H'
def AP(X:Cx)(ae:List (Addr×Obj))(σ:St)(Q:List V->Hp->Prop)(us:List Value)(s':Shared):Prop:=∃vs H',aP X ae σ H' s'/\aX vs us/\Q vs H'
def SP(X:Cx)(ae:List (Addr×Obj))(D:wa)(f:Flow)(s':Shared):Prop:=
 match f with
 |.next=>∃σ' H',aP X ae σ' H' s'/\D.nx σ' H'
 |.brk=>∃σ' H',aP X ae σ' H' s'/\D.bk σ' H'
 |.cont=>∃σ' H',aP X ae σ' H' s'/\D.ct σ' H'
 |.ret u=>∃v σ' H',aP X ae σ' H' s'/\bi v u/\D.rt v H'
def PE(X:Cx)(e:Expr)(t:TE):Prop:=
 ∀ (ae:List (Addr×Obj)) (s:Shared) (σ:St) (H:Hp) (Q:VK),aP X ae σ H s->t σ H Q->wpAny (model X.prog X.w) X.A (eval e X.env) (EP X ae σ Q) X.xe s
def PT(X:Cx)(e:Expr)(t:TT):Prop:=
 ∀ (ae:List (Addr×Obj)) (s:Shared) (σ:St) (H:Hp) (Q:Bool->Hp->Prop),aP X ae σ H s->t σ H Q->wpAny (model X.prog X.w) X.A (isTrue e X.env (eval e X.env)) (TP X ae σ Q) X.xe s
def PW(X:Cx)(e:Expr)(t:TT):Prop:=
 ∀ (Ab:Sem Value) (ae:List (Addr×Obj)) (s:Shared) (σ:St) (H:Hp) (Q:Bool->Hp->Prop),aP X ae σ H s->t σ H Q->wpAny (model X.prog X.w) X.A (isTrue e X.env Ab) (TP X ae σ Q) X.xe s
theorem PW.pt(h:PW X e t):PT X e t:=h _
def PA(X:Cx)(es:List Expr)(t:TA):Prop:=
 ∀ (pos:Pos) (ae:List (Addr×Obj)) (s:Shared) (σ:St) (H:Hp) (Q:List V->Hp->Prop),aP X ae σ H s->t σ H Q->wpAny (model X.prog X.w) X.A (spliced (backTo pos (starEach es X.env))) (AP X ae σ Q) X.xe s
def PS(X:Cx)(st:Stmt)(t:TS):Prop:=
 ∀ (ae:List (Addr×Obj)) (s:Shared) (σ:St) (H:Hp) (D:wa),aP X ae σ H s->t D σ H->wpAny (model X.prog X.w) X.A (exec st X.env) (SP X ae D) X.xe s
def yM(X:Cx)(st:List Stmt)(t:TS):Prop:=
 ∀ (ae:List (Addr×Obj)) (s:Shared) (σ:St) (H:Hp) (D:wa),aP X ae σ H s->t D σ H->wpAny (model X.prog X.w) X.A (execs st X.env) (SP X ae D) X.xe s
theorem cm(h:wpAny M A t Q E s)(hQ:∀a s,Q a s->Q' a s):wpAny M A t Q' E s:=ir h hQ fun _ _ x=>x
section
variable {X:Cx}
def bb(i:Nat):TE:=fun σ H Q=>∃v,σ[i]?=some (some v)/\Q v H
def tC(v:V):TE:=fun _ H Q=>Q v H
theorem K9(hN:X.N[i]?=some x)(hv:OV X.env.scope x)(hd:(x==("__debug__":Str))=false:=by decide)(sB:(x==("__classdict__":Str))=false:=by decide):PE X (.Name x pos) (bb i):=by
 intro ae s σ H Q I h;obtain⟨v,e,h⟩:=h;obtain⟨m,hn,hl⟩:=I.loc;obtain⟨u,r,l⟩:=hl i x v hN e hv;have fin:EP X ae σ Q u s:=⟨v,H,I,r,h⟩
 rcases l with ⟨hk,hm⟩|⟨hk,c,hc,Ac⟩
 .exact nz (yt I.ok.kind hk hn hm fin) hd
 .rcases hk with hk|hk
  .exact nz (wpAny_loadName_cell I.ok.kind hk hc Ac fin) hd
  .exact nz (yz I.ok.kind hk hc Ac fin sB) hd
theorem aq{i j pos}:PE X (.Constant (.int i) j pos) (tC (.int i)):=fun _ _ _ H _ I h=>wpAny_Constant_int ⟨.int i,H,I.tok _,⟨_,rfl⟩,h⟩
theorem fW{b j pos}:PE X (.Constant (.bool b) j pos) (tC (.bl b)):=fun _ _ _ H _ I h=>Constant_bool ⟨.bl b,H,I,rfl,h⟩
theorem cu{j pos}:PE X (.Constant .none j pos) (tC .bJ):=fun _ _ _ H _ I h=>Constant_none ⟨.bJ,H,I,rfl,h⟩
def Gl(X:Cx)(x:Str):Prop:=X.env.kindOf x=some .globalImplicit
theorem pj(I:aP X ae σ H s)(hg:Gl X x)(hm:X.mg x=some u)(h:Q u s)(hd:(x==("__debug__":Str))=false:=by decide):wpAny (model X.prog X.w) X.A (eval (.Name x pos) X.env) Q E s:=
 Calls.Name_function_global I.ok.kind hg (Calls.loadGlobal_global (by rw[I.ok.glob];exact I.mod.glob.keeps I.bk) hm h) hd
theorem jV(I:aP X ae σ H s)(hg:Gl X x)(hm:X.mg x=none)(hv:bootBuiltins x=some u)(h:Q u s)(hn:x≠"__name__":=by decide)(hd:(x==("__debug__":Str))=false:=by decide):wpAny (model X.prog X.w) X.A (eval (.Name x pos) X.env) Q E s:=by
 obtain⟨mb,h1,h2⟩:=I.mod.blt;exact Calls.Name_function_global I.ok.kind hg (Calls.loadGlobal_builtin (by rw[I.ok.glob];exact I.mod.glob.keeps I.bk) hm (by rw[I.ok.blt];exact h1.keeps I.bk) ((h2 x hn).trans hv) h) hd
theorem uH(hg:Gl X x)(hm:X.mg x=some u)(r:bi v u)(hd:(x==("__debug__":Str))=false:=by decide):PE X (.Name x pos) (tC v):=
 fun _ _ _ H _ I h=>pj I hg hm ⟨v,H,I,r,h⟩ hd
theorem fQ(hg:Gl X x)(hm:X.mg x=none)(hv:bootBuiltins x=some u)(r:bi v u)(hn:x≠"__name__":=by decide)(hd:(x==("__debug__":Str))=false:=by decide):PE X (.Name x pos) (tC v):=
 fun _ _ _ H _ I h=>jV I hg hm hv ⟨v,H,I,r,h⟩ hn hd
variable {a b:Expr} {ta tb:TE} {pos:Pos}
def PC(X:Cx)(op:CmpOp)(a b:Expr)(t:TE):Prop:=
 ∀ (ae:List (Addr×Obj)) (s:Shared) (σ:St) (H:Hp) (Q:VK),aP X ae σ H s->t σ H Q->
  wpAny (model X.prog X.w) X.A (eval a X.env) (fun v s₁=>wpAny (model X.prog X.w) X.A (eval b X.env) (fun u s₂=>wpAny (model X.prog X.w) X.A (compareOp op v u) (EP X ae σ Q) X.xe s₂) X.xe s₁) X.xe s
theorem wb(b:Expr){op:CmpOp}(h:op≠.In)(h2:op≠.NotIn):behindInMarks op b=false:=by
 have e1:(op==CmpOp.In)=false:=by cases op <;> first|rfl|exact absurd rfl h
 have e2:(op==CmpOp.NotIn)=false:=by cases op <;> first|rfl|exact absurd rfl h2
 cases b <;> simp[behindInMarks,e1,e2]
def O0(ta:TE):TE:=fun σ H Q=>ta σ H fun x H1=>Q (.bl (decide (x=.bJ))) H1
def O1(ta:TE):TE:=fun σ H Q=>ta σ H fun x H1=>Q (.bl (!decide (x=.bJ))) H1
theorem bi.wc{x:V}{v:Value}(r:bi x v):(v==Value.none)=decide (x=.bJ):=by
 cases x with
 |bJ=>cases r;rfl
 |bl _=>cases r;rfl
 |int _=>obtain⟨t,rfl⟩:=r;rfl
 |str _=>obtain⟨t,rfl⟩:=r;rfl
 |By _=>obtain⟨t,rfl⟩:=r;rfl
 |JO _=>obtain⟨t,rfl⟩:=r;rfl
 |ref _=>cases r;rfl
 |ty _=>cases r;rfl
theorem K_{j oX}(ha:PE X a ta):PC X .Is a (.Constant .none j oX) (O0 ta):=by
 intro ae s σ H Q I h;refine cm (ha ae s σ H _ I h) fun v s1 ⟨x,H1,I1,r1,q1⟩=>?_;exact Constant_none (is_none_gen ⟨.bl _,H1,I1,by rw[r1.wc];rfl,q1⟩)
theorem GJ{j oX}(ha:PE X a ta):PC X .IsNot a (.Constant .none j oX) (O1 ta):=by
 intro ae s σ H Q I h;refine cm (ha ae s σ H _ I h) fun v s1 ⟨x,H1,I1,r1,q1⟩=>?_;exact Constant_none (isnot_none_gen ⟨.bl _,H1,I1,by rw[r1.wc];rfl,q1⟩)
def tB(t:TE):TT:=fun σ H Q=>t σ H fun x H1=>∃c,x=.bl c/\Q c H1
theorem La{op:CmpOp}{t:TE}(h:PC X op a b t)(h1:behindInMarks op b=false:=by first|exact wb _ (by decide) (by decide)|rfl):PE X (.Compare a [op] [b] pos) t:=fun ae s σ H Q I hw=>wpAny_Compare1 (h ae s σ H Q I hw) h1
theorem uI(h:PC X op a b t)(h1:behindInMarks op b=false:=by first|exact wb _ (by decide) (by decide)|rfl):PT X (.Compare a [op] [b] pos) (tB t):=by
 intro ae s σ H Q I hw;refine wpAny_isTrue_Compare1 (cm (h ae s σ H _ I hw) fun v s1 h1=>cm h1 fun u s2 h2=>cm h2 fun c s3 ⟨x,H1,I1,r1,q1⟩=>?_) h1;obtain⟨d,rfl,q⟩:=q1;cases r1;exact ng ⟨H1,I1,q⟩
theorem dE(h:PE X e t)(he:∀Ab,isTrue e X.env Ab=(do let v <- Ab;standAt e.pos;holding [v] (truthy v)):=by intro _;rfl):PT X e (tB t):=by
 intro ae s σ H Q I hw;refine isTrue_plain (cm (h ae s σ H _ I hw) fun v s1 ⟨x,H1,I1,r1,q1⟩=>?_) (he _);obtain⟨d,rfl,q⟩:=q1;cases r1;exact ng ⟨H1,I1,q⟩
variable {tA SG:TT} {oY:List Expr}
def O2(t u:TT):TT:=fun σ H Q=>t σ H fun c H1=>if c=true then u σ H1 Q else Q false H1
def Yg(t u:TT):TT:=fun σ H Q=>t σ H fun c H1=>if c=true then Q true H1 else u σ H1 Q
def Ul(t:TT):TT:=fun σ H Q=>t σ H fun c H1=>Q (!c) H1
theorem uJ(ha:PT X a tA):PW X (.BoolOp .And [a] pos) tA:=by
 intro wh ae s σ H Q I h;refine isTrue_and (cm (ha ae s σ H Q I h) fun c s1 e=>?_);cases c with
 |true=>exact isTrue_and_nil e
 |false=>exact e
theorem l0(ha:PT X a tA):PW X (.BoolOp .Or [a] pos) tA:=by
 intro wh ae s σ H Q I h;refine isTrue_or (cm (ha ae s σ H Q I h) fun c s1 e=>?_);cases c with
 |false=>exact isTrue_or_nil e
 |true=>exact e
theorem yN(ha:PT X a tA)(hb:PW X (.BoolOp .And (b::oY) pos) SG):PW X (.BoolOp .And (a::b::oY) pos) (O2 tA SG):=by
 intro wh ae s σ H Q I h;refine isTrue_and (cm (ha ae s σ H _ I h) fun c s1 ⟨H1,I1,q1⟩=>?_);cases c with
 |true=>exact hb wh ae s1 σ H1 Q I1 q1
 |false=>exact⟨H1,I1,q1⟩
theorem oH(ha:PT X a tA)(hb:PW X (.BoolOp .Or (b::oY) pos) SG):PW X (.BoolOp .Or (a::b::oY) pos) (Yg tA SG):=by
 intro wh ae s σ H Q I h;refine isTrue_or (cm (ha ae s σ H _ I h) fun c s1 ⟨H1,I1,q1⟩=>?_);cases c with
 |true=>exact⟨H1,I1,q1⟩
 |false=>exact hb wh ae s1 σ H1 Q I1 q1
theorem et(ha:PT X a tA):PT X (.UnaryOp .Not a pos) (Ul tA):=by
 intro ae s σ H Q I h;exact isTrue_not (ha ae s σ H (fun c H1=>Q (!c) H1) I h)
def JU(ta tb:TE):TE:=fun σ H Q=>ta σ H fun x H1=>∃c,x=.bl c/\if c=true then tb σ H1 Q else Q (.bl false) H1
def JV(ta:TE):TE:=fun σ H Q=>ta σ H fun x H1=>∃c,x=.bl c/\Q (.bl (!c)) H1
theorem gm{op}(h:PE X a t):PE X (.BoolOp op [a] pos) t:=fun ae s σ H Q I hw=>BoolOp_one (h ae s σ H Q I hw)
theorem fL(ha:PE X a ta)(hb:PE X (.BoolOp .And (b::oY) pos) tb):PE X (.BoolOp .And (a::b::oY) pos) (JU ta tb):=by
 intro ae s σ H Q I h;refine BoolOp_and (cm (ha ae s σ H _ I h) fun v s1 ⟨x,H1,I1,r1,q1⟩=>?_);obtain⟨c,rfl,q1⟩:=q1;cases r1;refine ng ?_;cases c with
 |true=>exact hb ae s1 σ H1 Q I1 q1
 |false=>exact⟨.bl false,H1,I1,rfl,q1⟩
theorem yO(ha:PE X a ta):PE X (.UnaryOp .Not a pos) (JV ta):=by
 intro ae s σ H Q I h;refine UnaryOp_ (cm (ha ae s σ H _ I h) fun v s1 ⟨x,H1,I1,r1,q1⟩=>?_);obtain⟨c,rfl,q1⟩:=q1;cases r1;exact not_of (ng ⟨.bl (!c),H1,I1,rfl,q1⟩)
def Yh(t:TT)(ta tb:TE):TE:=fun σ H Q=>t σ H fun c H1=>if c=true then ta σ H1 Q else tb σ H1 Q
theorem wd(hc:PT X c tA)(ha:PE X a ta)(hb:PE X b tb):PE X (.IfExp c a b pos) (Yh tA ta tb):=by
 intro ae s σ H Q I h;refine wpAny_IfExp (cm (hc ae s σ H _ I h) fun d s1 ⟨H1,I1,q1⟩=>?_);cases d with
 |true=>exact ha ae s1 σ H1 Q I1 q1
 |false=>exact hb ae s1 σ H1 Q I1 q1
end
def aV(K:PySem.W.Frag)(H:Hp)(a:Addr)(xs:List V):Prop:=
 Rd H a (.lst xs)\/
  ∃ (o:Obj) (its:Array Value) (n:Nat),K.lookup a=some o/\o.cls=.type "list"/\o.dict=none/\o.data=.seq its n/\its.size<=sizeLine/\aX xs its.toList
def cR(K:PySem.W.Frag)(H:Hp)(a:Addr)(xs:List V):Prop:=
 Rd H a (.tup xs)\/
  ∃ (o:Obj) (its:Array Value) (n:Nat),K.lookup a=some o/\o.cls=.type "tuple"/\o.data=.seq its n/\its.size<=sizeLine/\aX xs its.toList
def Um:Value->Option V
 |.none=>some .bJ
 |.bool b=>some (.bl b)
 |.int i _=>some (.int i)
 |.str x _=>some (.str x)
 |.bytes b _=>some (.By b)
 |.float b _=>some (.JO b)
 |.ref a=>some (.ref a)
 |.type n=>some (.ty n)
 |_=>none
theorem bi.abs(r:bi x u):Um u=some x:=by
 cases x with
 |bJ=>cases r;rfl
 |bl _=>cases r;rfl
 |int _=>obtain⟨t,rfl⟩:=r;rfl
 |str _=>obtain⟨t,rfl⟩:=r;rfl
 |By _=>obtain⟨t,rfl⟩:=r;rfl
 |JO _=>obtain⟨t,rfl⟩:=r;rfl
 |ref _=>cases r;rfl
 |ty _=>cases r;rfl
theorem bi.inj(r:bi x u)(q:bi y u):x=y:=aY (r.abs.symm.trans q.abs)
theorem aX.inj:∀ {xs ys:List V} {us:List Value},aX xs us->aX ys us->xs=ys
 |_,_,_,.nil,.nil=>rfl
 |_,_,_,.cons r t,.cons r' t'=>by rw[r.inj r',aX.inj t t']
section
variable {X:Cx} {ae:List (Addr×Obj)} {σ:St} {H:Hp} {s:Shared} {a:Addr} {xs ys:List V}
theorem aV.of{K:PySem.W.Frag}(h:H a=some (.lst xs)):aV K H a xs:=.inl (.inl h)
theorem cR.of{K:PySem.W.Frag}(h:H a=some (.tup xs)):cR K H a xs:=.inl (.inl h)
theorem aP.list(I:aP X ae σ H s)(h:aV X.K H a xs):∃its:List Value,aX xs its/\PlainL s.heap a its.toArray/\xs.length<=sizeLine:=by
 rcases h with h|⟨o,its,n,hk,hc,hd,hs,hz,r⟩
 .obtain⟨z,its,n,r,e⟩:=h.ok I.bE;exact⟨its,r,⟨_,n,e,rfl,rfl,rfl⟩,z⟩
 .refine⟨its.toList,r,⟨o,n,I.nG a o hk,hc,hd,by simpa using hs⟩,?_⟩;have e:=r.length;simp only[iE] at e;lia
theorem aP.tuple(I:aP X ae σ H s)(h:cR X.K H a xs):∃its:List Value,aX xs its/\IsTup s.heap a its.toArray/\xs.length<=sizeLine:=by
 rcases h with h|⟨o,its,n,hk,hc,hs,hz,r⟩
 .obtain⟨z,its,r,p⟩:=h.ok I.bE;exact⟨its,r,p.tup,z⟩
 .refine⟨its.toList,r,⟨o,I.nG a o hk,hc,n,by simpa using hs⟩,?_⟩;have e:=r.length;simp only[iE] at e;lia
theorem aP.we(I:aP X ae σ H s)(h:aV X.K H a xs)(h':aV X.K H a ys):xs=ys:=by
 obtain⟨its,r,⟨o,n,e,_,_,d⟩,_⟩:=I.list h;obtain⟨its',r',⟨o',n',e',_,_,d'⟩,_⟩:=I.list h';rw[e] at e';cases e';rw[d] at d';injection d' with d1 _;have:its=its':=by simpa using congrArg Array.toList d1
 subst this;exact r.inj r'
theorem aP.sC(I:aP X ae σ H s)(h:cR X.K H a xs)(h':cR X.K H a ys):xs=ys:=by
 obtain⟨its,r,⟨o,e,_,n,d⟩,_⟩:=I.tuple h;obtain⟨its',r',⟨o',e',_,n',d'⟩,_⟩:=I.tuple h';rw[e] at e';cases e';rw[d] at d';injection d' with d1 _;have:its=its':=by simpa using congrArg Array.toList d1
 subst this;exact r.inj r'
end
abbrev Cx.rV(X:Cx)(E:Value->Shared->Prop):Cx:={ X with xe:=E }
abbrev Cx.JW(X:Cx):Cx:=X.rV fun _ _=>False
theorem Cx.Ok.rV{X:Cx}(ok:X.Ok)(E:Value->Shared->Prop):(X.rV E).Ok:=
 ⟨ok.mod,ok.kind,ok.glob,ok.blt,ok.above,ok.inj,ok.has,ok.Ol,ok.hd,ok.frames,ok.Om,ok.Uf,ok.bs,ok.C0,ok.Dl,ok.GE,ok.nF,ok.K6⟩
theorem Cx.Ok.jW{X:Cx}{E:Value->Shared->Prop}(ok:(X.rV E).Ok):X.Ok:=
 ⟨ok.mod,ok.kind,ok.glob,ok.blt,ok.above,ok.inj,ok.has,ok.Ol,ok.hd,ok.frames,ok.Om,ok.Uf,ok.bs,ok.C0,ok.Dl,ok.GE,ok.nF,ok.K6⟩
section
variable {X:Cx} {ae:List (Addr×Obj)} {σ:St} {H:Hp} {s:Shared} {E:Value->Shared->Prop}
theorem aP.rV(I:aP X ae σ H s)(E:Value->Shared->Prop):aP (X.rV E) ae σ H s:=⟨I.ok.rV E,I.os,I.bare,I.base,I.loc,I.cell,I.free,I.jU,I.pin,I.bE,I.len⟩
theorem aP.jW(I:aP (X.rV E) ae σ H s):aP X ae σ H s:=⟨I.ok.jW,I.os,I.bare,I.base,I.loc,I.cell,I.free,I.jU,I.pin,I.bE,I.len⟩
theorem SP.jW(h:SP (X.rV E) ae D f s'):SP X ae D f s':=by
 cases f with
 |next=>obtain⟨σ',H',I,q⟩:=h;exact⟨σ',H',I.jW,q⟩
 |brk=>obtain⟨σ',H',I,q⟩:=h;exact⟨σ',H',I.jW,q⟩
 |cont=>obtain⟨σ',H',I,q⟩:=h;exact⟨σ',H',I.jW,q⟩
 |ret u=>obtain⟨v,σ',H',I,r,q⟩:=h;exact⟨v,σ',H',I.jW,r,q⟩
theorem yM.JW{st:List Stmt}{t:TS}(h:yM X.JW st t):yM X st t:=fun ae s σ H D I hw=>
 ir (h ae s σ H D (I.rV _) hw) (fun _ _ q=>q.jW) fun _ _ z=>False.elim z
end
section
variable {X:Cx} {st:Stmt} {oY:List Stmt} {t u:TS} {e:Expr} {te:TE} {pos:Pos}
def O4:TS:=fun D σ H=>D.nx σ H
def Uo(t u:TS):TS:=fun D σ H=>t { D with nx:=u D } σ H
theorem aS:yM X [] O4:=fun _ _ σ H _ I h=>uB ⟨σ,H,I,h⟩
theorem ah(h1:PS X st t)(h2:yM X oY u):yM X (st::oY) (Uo t u):=by
 intro ae s σ H D I h;refine wpAny_execs_cons (cm (h1 ae s σ H { D with nx:=u D } I h) fun f s1 q=>?_);cases f with
 |next=>
  obtain⟨σ',H',I',q⟩:=q;exact h2 ae s1 σ' H' D I' q
 |ret v=>exact q
 |brk=>exact q
 |cont=>exact q
theorem al(h1:PS X st t):yM X [st] t:=by
 intro ae s σ H D I h;refine wpAny_execs_cons (cm (h1 ae s σ H D I h) fun f s1 q=>?_);cases f with
 |next=>exact uB q
 |ret v=>exact q
 |brk=>exact q
 |cont=>exact q
theorem aP.quiet(I:aP X ae σ H s):interactive X.env=false:=by simp[interactive,I.ok.kind]
def O5(te:TE):TS:=fun D σ H=>te σ H fun _ H1=>D.nx σ H1
theorem cw(he:PE X e te)(hs:swapsWith e none pos.line X.env=pure false:=by rfl):PS X (.Expr e pos) (O5 te):=by
 intro ae s σ H D I h;exact wpAny_Expr_any (cm (he ae s σ H _ I h) fun v s1 ⟨x,H1,I1,r1,q1⟩=>⟨σ,H1,I1,q1⟩) I.quiet hs
def Up(te:TE):TS:=fun D σ H=>te σ H D.rt
theorem aH(he:PE X e te):PS X (.Return (some e) pos) (Up te):=by
 intro ae s σ H D I h;exact wpAny_Return_some (cm (he ae s σ H _ I h) fun v s1 ⟨x,H1,I1,r1,q1⟩=>⟨x,σ,H1,I1,r1,q1⟩)
def Uq(c:TT)(t u:TS):TS:=fun D σ H=>c σ H fun b H1=>if b=true then t D σ H1 else u D σ H1
theorem bx(hc:PT X c tc)(ha:yM X a t)(hb:yM X b u):PS X (.If c a b pos) (Uq tc t u):=by
 intro ae s σ H D I h;refine wpAny_If (cm (hc ae s σ H _ I h) fun d s1 ⟨H1,I1,q1⟩=>?_);cases d with
 |true=>exact ha ae s1 σ H1 D I1 q1
 |false=>exact hb ae s1 σ H1 D I1 q1
def Lb:TS:=fun _ _ _=>False
theorem dO:yM X sts Lb:=fun _ _ _ _ _ _ h=>h.elim
end
abbrev TG:=V->St->Hp->(St->Hp->Prop)->Prop
abbrev O7:=List V->St->Hp->(St->Hp->Prop)->Prop
def PG(X:Cx)(Lc:Expr)(t:TG):Prop:=
 ∀ (ae:List (Addr×Obj)) (s:Shared) (σ:St) (H:Hp) (v:V) (u:Value) (Q:St->Hp->Prop),aP X ae σ H s->bi v u->t v σ H Q->
  wpAny (model X.prog X.w) X.A (assign Lc X.env u) (fun _ s'=>∃σ' H',aP X ae σ' H' s'/\Q σ' H') X.xe s
def SI(X:Cx)(ts:List Expr)(t:O7):Prop:=
 ∀ (ae:List (Addr×Obj)) (s:Shared) (σ:St) (H:Hp) (vs:List V) (us:List Value) (Q:St->Hp->Prop),aP X ae σ H s->aX vs us->t vs σ H Q->
  wpAny (model X.prog X.w) X.A (assignInOrder ((assignEach ts X.env).map (·.2)) us) (fun _ s'=>∃σ' H',aP X ae σ' H' s'/\Q σ' H') X.xe s
abbrev O_:=V->V->V->Hp->(Hp->Prop)->Prop
def Pa(X:Cx)(t:O_):Prop:=
 ∀ (ae:List (Addr×Obj)) (s:Shared) (σ:St) (H:Hp) (o i v:V) (ov iv u:Value) (Q:Hp->Prop),aP X ae σ H s->bi o ov->bi i iv->bi v u->t o i v H Q->
  wpAny (model X.prog X.w) X.A (setItem ov iv u) (fun _ s'=>∃H',aP X ae σ H' s'/\Q H') X.xe s
abbrev Ur:=V->V->Hp->VK->Prop
def Yi(X:Cx)(op:Operator)(t:Ur):Prop:=
 ∀ (ae:List (Addr×Obj)) (s:Shared) (σ:St) (H:Hp) (x y:V) (v u:Value) (Q:VK),aP X ae σ H s->bi x v->bi y u->t x y H Q->
  wpAny (model X.prog X.w) X.A (inplaceOp op v u) (EP X ae σ Q) X.xe s
section
variable {X:Cx} {pos:Pos}
def bH(i:Nat):TG:=fun v σ H Q=>Q (σ.set i (some v)) H
theorem aF(hN:X.N.Nodup)(hi:X.N[i]?=some x)(hx:OW X.env.scope x)(hf:X.fn x=true\/X.env.scope.names.lookup x=some .local:=by first|exact .inl rfl|exact .inr rfl|assumption):PG X (.Name x pos) (bH i):=by
 intro ae s σ H v u Q I r h;exact wpAny_assign_Name (qu I hN hi hx r (fun s' I'=>⟨_,H,I',h⟩) hf)
def wg:O7:=fun vs σ H Q=>vs=[]/\Q σ H
def gK(t:TG)(u:O7):O7:=fun vs σ H Q=>∃v r,vs=v::r/\t v σ H fun σ' H'=>u r σ' H' Q
theorem ft:SI X [] wg:=by
 intro ae s σ H vs us Q I r h;obtain⟨e,h⟩:=h;subst e;cases r;exact assignInOrder_nil ⟨σ,H,I,h⟩
theorem bu(h1:PG X e t)(h2:SI X es u)(hs:(assignEach (e::es) X.env).map (·.2)=assign e X.env::(assignEach es X.env).map (·.2):=by rfl):SI X (e::es) (gK t u):=by
 intro ae s σ H vs us Q I r h;obtain⟨v,vr,e1,h⟩:=h;subst e1;cases r with
 |cons r rr=>
  rw[hs];refine assignInOrder_cons (cm (h1 ae s σ H _ _ _ I r h) fun _ s1 ⟨σ1,H1,I1,q1⟩=>?_);exact h2 ae s1 σ1 H1 _ _ Q I1 rr q1
def wn(K:PySem.W.Frag)(n:Nat)(t:O7):TG:=fun v σ H Q=>∃a xs,v=.ref a/\cR K H a xs/\xs.length=n/\t xs σ H Q
theorem gL(hc:X.calm=true)(h:SI X es t)(hn:(assignEach es X.env).length=n:=by rfl)(nI:(assignEach es X.env).findIdx? (·.1)=none:=by rfl):PG X (.Tuple es k pos) (wn X.K n t):=by
 intro ae s σ H v u Q I r hw;obtain⟨a,xs,e1,hq,hl,hw⟩:=hw;subst e1;cases r;obtain⟨its,rv,ht,hz⟩:=I.tuple hq;refine assign_Tuple_tuple (I.ok.hd hc) ht (by simp[hn,<-hl,rv.length]) nI fun h' hx=>?_;have I1:aP X ae σ H { s with heap:=h' }:=I.kept (t':=s.toks) fun b o e=>hx b o (aZ (a_ e)) e;exact h ae _ σ H xs _ Q I1 (by simpa using rv) hw
def Ut(to ti:TE)(t:O_):TG:=fun v σ H Q=>to σ H fun o H1=>ti σ H1 fun i H2=>t o i v H2 fun H3=>Q σ H3
theorem nJ(ho:PE X o to)(hi:PE X i ti)(hs:Pa X t)(ha:∀v,assign (.Subscript o i pos) X.env v=(do
   let ov <- holding [v] (eval o X.env)
   let iv <- holding [v,ov] (eval i X.env)
   standAt pos
   holding [v,ov,iv] (setItem ov iv v)
   release [v,ov,iv] []):=by intro _;rfl):PG X (.Subscript o i pos) (Ut to ti t):=by
 intro ae s σ H v u Q I r h;rw[ha];refine aJ (jM (cm (ho ae s σ H _ I h) fun ov s1 ⟨x,H1,I1,r1,q1⟩=>?_));refine aJ (jM (cm (hi ae s1 σ H1 _ I1 q1) fun iv s2 ⟨y,H2,I2,r2,q2⟩=>?_));refine aJ (qo (aJ (jM (cm (hs ae s2 σ H2 x y v ov iv u _ I2 r1 r2 r q2) fun _ s3 ⟨H3,I3,q3⟩=>?_))));exact wpAny_release ⟨σ,H3,I3,q3⟩
def Ld(te:TE)(g:TG):TS:=fun D σ H=>te σ H fun x H1=>g x σ H1 D.nx
theorem i9(he:PE X e te)(hg:PG X tg g)(hs:swapsWithSole [tg] e pos.line X.env=pure false:=by rfl)(hw:swappedStores [tg] e X.env=pure none:=by rfl)(h1:(assignEach [tg] X.env).map (·.2)=[assign tg X.env]:=by rfl):PS X (.Assign [tg] e pos) (Ld te g):=by
 intro ae s σ H D I h;refine wpAny_Assign_stores (cm (he ae s σ H _ I h) fun v s1 ⟨x,H1,I1,r1,q1⟩=>?_) hs hw;rw[h1];exact cm (hg ae s1 σ H1 x v _ I1 r1 q1) fun _ s2 q=>q
theorem aL(hN:X.N.Nodup)(hi:X.N[i]?=some x)(hx:OW X.env.scope x)(he:PE X e te)(hs:swapsWith e (some (.Name x oX)) pos.line X.env=pure false:=by rfl)(hf:X.fn x=true\/X.env.scope.names.lookup x=some .local:=by first|exact .inl rfl|exact .inr rfl|assumption):
  PS X (.Assign [.Name x oX] e pos) (Ld te (bH i)):=by
 intro ae s σ H D I h;refine wpAny_Assign_Name (cm (he ae s σ H _ I h) fun v s1 ⟨y,H1,I1,r1,q1⟩=>?_) hs;exact qu I1 hN hi hx r1 (fun s2 I2=>⟨_,H1,I2,q1⟩) hf
def Uu(i:Nat)(te:TE)(ti:Ur):TS:=fun D σ H=>∃x,σ[i]?=some (some x)/\te σ H fun y H1=>ti x y H1 fun z H2=>D.nx (σ.set i (some z)) H2
theorem Do(hN:X.N.Nodup)(hi:X.N[i]?=some x)(hx:OW X.env.scope x)(he:PE X e te)(ho:Yi X op ti)(hf:X.fn x=true\/X.env.scope.names.lookup x=some .local:=by first|exact .inl rfl|exact .inr rfl|assumption):
  PS X (.AugAssign (.Name x oX) op e pos) (Uu i te ti):=by
 intro ae s σ H D I h;obtain⟨v,e1,h⟩:=h;obtain⟨m,hn,hl⟩:=I.loc;have Uv:OV X.env.scope x:=by rcases hx with k|k;exact .inl k;exact .inr (.inl k)
 obtain⟨u,r,l⟩:=hl i x v hi e1 Uv;refine wpAny_AugAssign_Name ?_;have go:wpAny (model X.prog X.w) X.A (eval e X.env) (fun w s₂=>wpAny (model X.prog X.w) X.A (inplaceOp op u w) (fun r s₃=>wpAny (model X.prog X.w) X.A (storeName X.env x r) (fun _=>SP X ae D .next) X.xe s₃) X.xe s₂) X.xe s:=by
  refine cm (he ae s σ H _ I h) fun w s1 ⟨y,H1,I1,r1,q1⟩=>?_;refine cm (ho ae s1 σ H1 v y u w _ I1 r r1 q1) fun z s2 ⟨zv,H2,I2,r2,q2⟩=>?_;exact qu I2 hN hi hx r2 (fun s3 I3=>⟨_,H2,I3,q2⟩) hf
 rcases l with ⟨hk,hm⟩|⟨hk,c,hc,Ac⟩
 .exact yt I.ok.kind hk hn hm go
 .rcases hk with hk|hk
  .exact wpAny_loadName_cell I.ok.kind hk hc Ac go
  .rcases hx with k|k
   .have:X.env.scope.names.lookup x=some .free:=hk;rw[k] at this;cases this
   .have:X.env.scope.names.lookup x=some .free:=hk;rw[k] at this;cases this
def ipI(f:Int->Int->Int):Ur:=fun x y H Q=>∃i j,x=.int i/\y=.int j/\Q (.int (f i j)) H
theorem Dp:Yi X .Add (ipI fun i j=>i+j):=by
 intro ae s σ H x y v u Q I r1 r2 h;obtain⟨i,j,e1,e2,q⟩:=h;subst e1;subst e2;obtain⟨t,rfl⟩:=r1;obtain⟨t',rfl⟩:=r2;exact iadd_int ⟨.int _,H,I.tok _,⟨_,rfl⟩,q⟩
def Dq(c:TT)(tb:TS):TS:=fun D σ H=>∃W:Nat->St->Hp->Prop,(∃m,W m σ H)/\∀m σ H,W m σ H->
 c σ H fun b H1=>if b=true then ∃N:St->Hp->Prop,(∀σ' H',N σ' H'->∃m',m'<m/\W m' σ' H')/\tb { D with nx:=N,ct:=N,bk:=D.nx } σ H1 else D.nx σ H1
theorem qw(hp:PassesOwn (model X.prog X.w) X.A X.env X.xe)(hc:PT X c tc)(hb:yM X body tb):PS X (.While c body [] pos) (Dq tc tb):=by
 intro ae s σ H D I h;obtain⟨W,⟨m0,w0⟩,Dr⟩:=h;refine wpAny_While (codeAny_whileLoop (fun n s'=>∃σ' H',aP X ae σ' H' s'/\W n σ' H') ?_ m0 ⟨σ,H,I,w0⟩);rintro n s1 ⟨σ1,H1,I1,w1⟩;refine lO hp (cm (hc ae s1 σ1 H1 _ I1 (Dr n σ1 H1 w1)) fun b s2 ⟨H2,I2,q2⟩=>?_);cases b with
 |true=>
  obtain⟨N,hN,q2⟩:=q2;rw[ao rfl];refine lO hp (cm (hb ae s2 σ1 H2 _ I2 q2) fun f s3 q3=>?_);cases f with
  |next=>
   obtain⟨σ3,H3,I3,n3⟩:=q3;obtain⟨m',hm,w3⟩:=hN σ3 H3 n3;exact⟨m',hm,σ3,H3,I3,w3⟩
  |cont=>
   obtain⟨σ3,H3,I3,n3⟩:=q3;obtain⟨m',hm,w3⟩:=hN σ3 H3 n3;exact⟨m',hm,σ3,H3,I3,w3⟩
  |brk=>exact q3
  |ret v=>exact q3
 |false=>
  rw[ap cz];exact uB ⟨σ1,H2,I2,q2⟩
end
structure It where
 go:Nat->Hp->Prop
 JX:Nat->Hp->V->Hp->Prop
 stop:Nat->Hp->Prop
 SJ:Around->Hp->Prop
def k9(X:Cx)(ae:List (Addr×Obj))(H:Hp)(b:Addr):Prop:=
 H b=none/\b≠X.env.locals/\b∉X.fs/\(b∈X.ex\/X.s₀.heap.objs.size<=b)/\(∀x c,X.env.cells.lookup x=some c->c≠b)/\∀p∈X.pn++ae,p.1≠b
theorem aP.wo(I:aP X ae σ H s)(hb:s.heap.objs.size<=b)(hn:H' b=none):k9 X ae H' b:=by
 refine⟨hn,jR (bV I.lt hb),I.Uh hb,.inr (bj I.sz hb),fun x c e z=>?_,fun p hp z=>?_⟩
 .obtain⟨v,q⟩:=I.cell x c e;exact absurd (bV q.lt (by rw[z];exact hb)) (jw _)
 .exact absurd (bV (a_ (I.pin p hp).1) (by rw[z];exact hb)) (jw _)
structure uK(P:Program)(w:World)(K:PySem.W.Frag)(tg:Expr)(J:It)(fp:List Addr)(it:Addr)(tn:Nat->Heap->Prop):Prop where
 mem:it∈fp
 obj:∀i h,tn i h->∀b∈fp,∃o,h.get? b=some o/\∀v,o.data≠.cell v
 keep:∀i h h',tn i h->(∀b∈fp,∀o,h.get? b=some o->h'.get? b=some o)->tn i h'
 item:∀ (X:Cx),X.prog=P->X.w=w->X.K=K->∀ (i:Nat) (ae:List (Addr×Obj)) (s:Shared) (σ:St) (H:Hp) (E:Value->Shared->Prop),(X.calm=true\/J.SJ X.A H)->aP X ae σ H s->(∀b∈fp,k9 X ae H b)->tn i s.heap->J.go i H->
  wpAny (model P w) X.A (pyNext (.ref it)) (fun r s1=>∃u,r=some u/\
   wpAny (model P w) X.A (letOwnedTupleGo tg (.ref it) u) (fun _ s2=>∃x H',aP X ae σ H' s2/\bi x u/\J.JX i H x H'/\tn (i+1) s2.heap/\∀b∈fp,H' b=none) E s1) E s
 done:∀ (X:Cx),X.prog=P->X.w=w->X.K=K->∀ (i:Nat) (ae:List (Addr×Obj)) (s:Shared) (σ:St) (H:Hp) (E:Value->Shared->Prop),(X.calm=true\/J.SJ X.A H)->aP X ae σ H s->(∀b∈fp,k9 X ae H b)->tn i s.heap->J.stop i H->
  wpAny (model P w) X.A (pyNext (.ref it)) (fun r s1=>r=none/\aP X ae σ H s1) E s
 self:∀ (A:Around) (i:Nat) (s:Shared) (Q:Value->Shared->Prop) (E:Value->Shared->Prop),tn i s.heap->Q (.ref it) s->wpAny (model P w) A (pyIter (.ref it)) Q E s
abbrev TI:=St->Hp->(It->Hp->Prop)->Prop
def Yj(X:Cx)(ae:List (Addr×Obj))(σ:St)(tg:Expr)(R:It->Hp->Prop)(SK:Value)(s2:Shared):Prop:=
 ∃ (it:Addr) (fp:List Addr) (tn:Nat->Heap->Prop) (J:It) (H':Hp),SK=.ref it/\aP X ae σ H' s2/\uK X.prog X.w X.K tg J fp it tn/\tn 0 s2.heap/\(∀b∈fp,k9 X ae H' b)/\R J H'
def PI(X:Cx)(tg jA:Expr)(wi:TI):Prop:=
 ∀ (ae:List (Addr×Obj)) (s:Shared) (σ:St) (H:Hp) (R:It->Hp->Prop),aP X ae σ H s->wi σ H R->
  wpAny (model X.prog X.w) X.A (eval jA X.env) (fun v s1=>wpAny (model X.prog X.w) X.A (pyIter v) (Yj X ae σ tg R) X.xe s1) X.xe s
theorem Ad(ho:s.heap.get? it=some o)(hc:o.cls=.type n)(hd:o.data=.fields vs)(hn:["enumerate","zip","dict_itemiterator","dict_reverseitemiterator","odict_iterator","itertools.zip_longest","itertools.pairwise"].contains n=false)(hQ:Q () s):wpAny M A (letOwnedTupleGo tg (.ref it) u) Q E s:=by
 unfold letOwnedTupleGo;cases tg <;> first
  |exact wpAny_pure hQ
  |(cases u <;> first
    |exact wpAny_pure hQ
    |(refine aJ (wpAny_load ho ?_);rw[hc,hd];show wpAny M A (if (["enumerate","zip","dict_itemiterator","dict_reverseitemiterator","odict_iterator","itertools.zip_longest","itertools.pairwise"].contains n&&vs[0]?==some (rawInt _))=true then _ else _) Q E s;rw[ap (by intro h;rw[hn,nw] at h;cases h)];exact wpAny_pure hQ))
def Ds(K:PySem.W.Frag)(a:Addr):It:=
 ⟨fun i H=>∃xs x,aV K H a xs/\xs[i]?=some x,fun i H x H'=>H'=H/\∀xs,aV K H a xs->xs[i]?=some x,fun i H=>∃xs,aV K H a xs/\xs.length<=i,fun _ _=>False⟩
def Uw(K:PySem.W.Frag)(a:Addr):It:=
 ⟨fun i H=>∃xs x,cR K H a xs/\xs[i]?=some x,fun i H x H'=>H'=H/\∀xs,cR K H a xs->xs[i]?=some x,fun i H=>∃xs,cR K H a xs/\xs.length<=i,fun _ _=>False⟩
def JY(lo:Int)(n:Nat):It:=⟨fun i _=>i<n,fun i H x H'=>H'=H/\x=.int (lo+i),fun i _=>n<=i,fun A H=>A.handled=none\/∃p φ,A.handled=some (.ref p)/\H p=some (.ext φ)/\∀h,φ h->z9 p h⟩
theorem BB{P:Program}{w:World}{K:PySem.W.Frag}{tg:Expr}(a it:Addr):uK P w K tg (Ds K a) [it] it (fun i h=>h.IsListIter it a i) where
 mem:=by simp
 obj:=fun i h st b hb=>by
  have e:b=it:=by simpa using hb
  subst e;obtain⟨o,e,c,d⟩:=st;exact⟨o,e,fun v z=>by rw[d] at z;cases z⟩
 keep:=fun i h h' st k=>st.at fun o e=>k it (by simp) o e
 item:=by
  intro X hP hw hK i ae s σ H E uL I hf st hg;subst hP hw hK;have hc:X.calm=true:=uL.elim id fun z=>(show False from z).elim;obtain⟨xs,x,hq,hx⟩:=hg;obtain⟨its,rv,p,hz⟩:=I.list hq;obtain⟨u,hu,ru⟩:=rv.get hx;obtain⟨f0,f1,f2,f3,f4,f5⟩:=hf it (by simp);refine yi st p.isList (x:=u) (by simpa using hu) fun h' aU sb=>?_;have I1:aP X ae σ H { s with heap:=h' }:=I.turned (t':=s.toks) (fun b o hb e=>(sb.2 b hb).trans e) f0 f1 f3 f4 f5;obtain⟨o,e,c,d⟩:=id aU;exact⟨u,rfl,Ad (s:={ s with heap:=h' }) e c d (by decide) ⟨x,H,I1,ru,⟨rfl,fun ys hy=>by rw[I.we hy hq];exact hx⟩,aU,fun b hb=>(hf b hb).1⟩⟩
 done:=by
  intro X hP hw hK i ae s σ H E uL I hf st hg;subst hP hw hK;have hc:X.calm=true:=uL.elim id fun z=>(show False from z).elim;obtain⟨xs,hq,hx⟩:=hg;obtain⟨its,rv,p,hz⟩:=I.list hq;obtain⟨f0,f1,f2,f3,f4,f5⟩:=hf it (by simp);have hl:=rv.length;exact yq (I.ok.hd hc) st p.isList (by simp;lia) fun h' eb=>⟨rfl,I.turned (t':=s.toks) (fun b o hb e=>eb b o hb e) f0 f1 f3 f4 f5⟩
 self:=fun _ _ _ _ _ st h=>wpAny_pyIter_listiter st h
theorem yP{P:Program}{w:World}{K:PySem.W.Frag}{tg:Expr}(a it:Addr):uK P w K tg (Uw K a) [it] it (fun i h=>h.IsTupleIter it a i) where
 mem:=by simp
 obj:=fun i h st b hb=>by
  have e:b=it:=by simpa using hb
  subst e;obtain⟨o,e,c,d⟩:=st;exact⟨o,e,fun v z=>by rw[d] at z;cases z⟩
 keep:=fun i h h' st k=>st.at fun o e=>k it (by simp) o e
 item:=by
  intro X hP hw hK i ae s σ H E uL I hf st hg;subst hP hw hK;have hc:X.calm=true:=uL.elim id fun z=>(show False from z).elim;obtain⟨xs,x,hq,hx⟩:=hg;obtain⟨its,rv,p,hz⟩:=I.tuple hq;obtain⟨u,hu,ru⟩:=rv.get hx;obtain⟨f0,f1,f2,f3,f4,f5⟩:=hf it (by simp);refine wpAny_pyNext_tuple_item st (show s.heap.IsTuple a its.toArray from p) (x:=u) (by simpa using hu) fun h' aU sb=>?_;have I1:aP X ae σ H { s with heap:=h' }:=I.turned (t':=s.toks) (fun b o hb e=>(sb.2 b hb).trans e) f0 f1 f3 f4 f5;obtain⟨o,e,c,d⟩:=id aU;exact⟨u,rfl,Ad (s:={ s with heap:=h' }) e c d (by decide) ⟨x,H,I1,ru,⟨rfl,fun ys hy=>by rw[I.sC hy hq];exact hx⟩,aU,fun b hb=>(hf b hb).1⟩⟩
 done:=by
  intro X hP hw hK i ae s σ H E uL I hf st hg;subst hP hw hK;have hc:X.calm=true:=uL.elim id fun z=>(show False from z).elim;obtain⟨xs,hq,hx⟩:=hg;obtain⟨its,rv,p,hz⟩:=I.tuple hq;obtain⟨f0,f1,f2,f3,f4,f5⟩:=hf it (by simp);have hl:=rv.length;exact wpAny_pyNext_tuple_end (I.ok.hd hc) st (show s.heap.IsTuple a its.toArray from p) (by simp;lia) fun h' eb=>⟨rfl,I.turned (t':=s.toks) (fun b o hb e=>eb b o hb e) f0 f1 f3 f4 f5⟩
 self:=fun _ _ _ _ _ st h=>wpAny_pyIter_tupleiter st h
theorem yQ{P:Program}{w:World}{K:PySem.W.Frag}{tg:Expr}(it:Addr)(lo:Int)(n:Nat):uK P w K tg (JY lo n) [it] it (fun i h=>IsRangeIter h it (lo+(i:Nat)*1) ((n:Int)-(i:Nat)) 1) where
 mem:=by simp
 obj:=fun i h st b hb=>by
  have e:b=it:=by simpa using hb
  subst e;exact⟨_,st,fun v z=>by
   have z':Data.fields _=Data.cell v:=z;cases z'⟩
 keep:=fun i h h' st k=>k it (by simp) _ st
 item:=by
  intro X hP hw hK i ae s σ H E hc I hf st hg;subst hP hw hK;obtain⟨f0,f1,f2,f3,f4,f5⟩:=hf it (by simp);refine wpAny_pyNext_range_item st (by have:i<n:=hg;lia) fun h' aU sb=>?_;have I1:aP X ae σ H { s with heap:=h',toks:=s.toks+1 }:=I.turned (fun b o hb e=>(sb.2 b hb).trans e) f0 f1 f3 f4 f5;have iH:IsRangeIter h' it (lo+((i+1:Nat):Int)*1) ((n:Int)-((i+1:Nat):Int)) 1:=by
   rw[show lo+((i+1:Nat):Int)*1=lo+(i:Int)*1+1 by lia,show (n:Int)-((i+1:Nat):Int)=(n:Int)-(i:Int)-1 by lia];exact aU
  exact⟨_,rfl,Ad (s:={ s with heap:=h',toks:=s.toks+1 }) (n:="range_iterator") iH rfl rfl (by decide) ⟨.int (lo+i),H,I1,⟨s.toks,by rw[Int.mul_one]⟩,⟨rfl,rfl⟩,iH,fun b hb=>(hf b hb).1⟩⟩
 done:=by
  intro X hP hw hK i ae s σ H E hc I hf st hg;subst hP hw hK;obtain⟨f0,f1,f2,f3,f4,f5⟩:=hf it (by simp);have he:X.A.handled=none\/∃p φ,X.A.handled=some (.ref p)/\H p=some (.ext φ)/\∀h,φ h->z9 p h:=hc.elim (fun z=>.inl (I.ok.hd z)) id;rcases he with hn|⟨p,φ,hp,hH,hφ⟩
  .exact wpAny_pyNext_range_end hn st (by have:n<=i:=hg;lia) fun h' eb=>⟨rfl,I.turned (t':=s.toks) (fun b o hb e=>eb b o hb e) f0 f1 f3 f4 f5⟩
  .exact yL hp (hφ _ (I.bE p _ hH).1) st (by have:n<=i:=hg;lia) fun h' eb=>⟨rfl,I.kept (t':=s.toks) eb⟩
 self:=fun _ _ _ _ _ st h=>wpAny_pyIter_rangeiter st h
section
variable {X:Cx} {tg:Expr}
def Pc(K:PySem.W.Frag)(tl:TE):TI:=fun σ H R=>tl σ H fun x H1=>∃a,x=.ref a/\(∃xs,aV K H1 a xs)/\R (Ds K a) H1
def Ux(K:PySem.W.Frag)(tl:TE):TI:=fun σ H R=>tl σ H fun x H1=>∃a,x=.ref a/\(∃xs,cR K H1 a xs)/\R (Uw K a) H1
theorem cJ{l:Expr}{tl:TE}(hl:PE X l tl):PI X tg l (Pc X.K tl):=by
 intro ae s σ H R I h;refine cm (hl ae s σ H _ I h) fun v s1 ⟨x,H1,I1,r1,q1⟩=>?_;obtain⟨a,e,⟨xs,hq⟩,q⟩:=q1;subst e;cases r1;obtain⟨its,rv,p,hz⟩:=I1.list hq;refine qe p.isList ?_;refine⟨s1.heap.objs.size,[s1.heap.objs.size],_,_,H1,rfl,I1.kept (t':=s1.toks) fun b o e=>cD _ e,BB a _,⟨_,dh _ rfl,rfl,rfl⟩,fun b hb=>?_,q⟩;have e:b=s1.heap.objs.size:=by simpa using hb
 subst e;exact I1.wo (ba _) (I1.bE.fresh (ba _))
theorem Dt{l:Expr}{tl:TE}(hl:PE X l tl):PI X tg l (Ux X.K tl):=by
 intro ae s σ H R I h;refine cm (hl ae s σ H _ I h) fun v s1 ⟨x,H1,I1,r1,q1⟩=>?_;obtain⟨a,e,⟨xs,hq⟩,q⟩:=q1;subst e;cases r1;obtain⟨its,rv,p,hz⟩:=I1.tuple hq;refine yD (show s1.heap.IsTuple a its.toArray from p) ?_;refine⟨s1.heap.objs.size,[s1.heap.objs.size],_,_,H1,rfl,I1.kept (t':=s1.toks) fun b o e=>cD _ e,yP a _,⟨_,dh _ rfl,rfl,rfl⟩,fun b hb=>?_,q⟩;have e:b=s1.heap.objs.size:=by simpa using hb
 subst e;exact I1.wo (ba _) (I1.bE.fresh (ba _))
theorem wq{ae:List (Addr×Obj)}{σ:St}{H:Hp}{s:Shared}{R:It->Hp->Prop}{E:Value->Shared->Prop}{lo hi:Int}{t u v:Tok}{tk:Nat}(I:aP X ae σ H s)(h1:-(2 ^ 62)<=lo)(h2:lo<2 ^ 62)(h3:-(2 ^ 62)<=hi)(h4:hi<2 ^ 62)(q:R (JY lo (hi-lo).toNat) H):wpAny (model X.prog X.w) X.A (pyIter (.ref s.heap.objs.size)) (Yj X ae σ tg R) E { s with heap:=s.heap.push { cls:=.type "range",data:=.fields #[.int lo t,.int hi u,.int 1 v] },toks:=tk }:=by
 refine wpAny_pyIter_range (IsRange.new ..) (small_one h1 h2 h3 h4) ?_;have I1:aP X ae σ H { s with heap:=s.heap.push { cls:=.type "range",data:=.fields #[.int lo t,.int hi u,.int 1 v] },toks:=tk }:=I.kept fun b o e=>cD _ e;refine⟨(s.heap.push { cls:=.type "range",data:=.fields #[.int lo t,.int hi u,.int 1 v] }).objs.size,[(s.heap.push { cls:=.type "range",data:=.fields #[.int lo t,.int hi u,.int 1 v] }).objs.size],_,_,H,rfl,
  I1.kept (t':=tk) fun b o e=>cD _ e,yQ _ lo (hi-lo).toNat,?_,fun b hb=>?_,q⟩
 .have e1:lo+((0:Nat):Int)*1=lo:=by simp
  have e2:(((hi-lo).toNat:Nat):Int)-((0:Nat):Int)=Builtin.Range.rangeSize lo hi 1:=by rw[rangeSize_one];split <;> lia
  show IsRangeIter _ _ (lo+((0:Nat):Int)*1) ((((hi-lo).toNat:Nat):Int)-((0:Nat):Int)) 1;rw[e1,e2];exact dh _ rfl
 .have e:b=(s.heap.push { cls:=.type "range",data:=.fields #[.int lo t,.int hi u,.int 1 v] }).objs.size:=by simpa using hb
  subst e;exact I1.wo (ba _) (I1.bE.fresh (ba _))
def Pd(ta:TA):TI:=fun σ H R=>ta σ H fun vs H1=>∃j:Int,vs=[.int j]/\-(2 ^ 62)<=j/\j<2 ^ 62/\R (JY 0 j.toNat) H1
def Pe(ta:TA):TI:=fun σ H R=>ta σ H fun vs H1=>∃i j:Int,vs=[.int i,.int j]/\(-(2 ^ 62)<=i/\i<2 ^ 62/\-(2 ^ 62)<=j/\j<2 ^ 62)/\R (JY i (j-i).toNat) H1
theorem dP{a:Expr}{ta:TA}{p pos:Pos}(hg:Gl X "range")(hm:X.mg "range"=none)(ha:PA X [a] ta)(hs:starEach [a] X.env=[(false,eval a X.env)]:=by rfl):PI X tg (.Call (.Name "range" p) [a] [] pos) (Pd ta):=by
 intro ae s σ H R I h;refine Call_ (jV I hg hm boot_range (pS (cm (ha pos ae s σ H _ I h) fun us s1 ⟨vs,H1,I1,r1,q1⟩=>?_) hs rfl));obtain⟨j,e,q1,q2,q⟩:=q1;subst e;cases r1 with
 |cons r rr=>
  cases rr;obtain⟨t,rfl⟩:=r;exact call_range_1 (wq I1 (by lia) (by lia) q1 q2 (by simpa using q))
theorem nK(hg:Gl X "range")(hm:X.mg "range"=none)(ha:PA X [a,b] ta)(hs:starEach [a,b] X.env=[(false,eval a X.env),(false,eval b X.env)]:=by rfl)(qx:starEach [b] X.env=[(false,eval b X.env)]:=by rfl):
  PI X tg (.Call (.Name "range" p) [a,b] [] pos) (Pe ta):=by
 intro ae s σ H R I h;refine Call_ (jV I hg hm boot_range (pS (cm (ha pos ae s σ H _ I h) fun us s1 ⟨vs,H1,I1,r1,q1⟩=>?_) (by rw[hs,qx]) (by rw[qx];rfl)));obtain⟨i,j,e,⟨q1,q2,q3,q4⟩,q⟩:=q1;subst e;cases r1 with
 |cons r rr=>
  cases rr with
  |cons r' rr=>
   cases rr;obtain⟨t,rfl⟩:=r;obtain⟨t',rfl⟩:=r';exact call_range_2 (wq I1 q1 q2 q3 q4 q)
def Uy(wi:TI)(g:TG)(tb:TS):TS:=fun D σ H=>wi σ H fun J H1=>∃W:Nat->Nat->St->Hp->Prop,(∃m,W 0 m σ H1)/\∀i m σ H,W i m σ H->
 (J.stop i H/\D.nx σ H)\/(J.go i H/\∃N:St->Hp->Prop,(∀σ' H',N σ' H'->∃m',m'<m/\W (i+1) m' σ' H')/\∀x H',J.JX i H x H'->g x σ H' fun σ2 H2=>tb { D with nx:=N,ct:=N,bk:=D.nx } σ2 H2)
def qy(fp:List Addr)(h:Heap):List (Addr×Obj):=fp.filterMap fun b=>(h.get? b).map fun o=>(b,o)
theorem i_(hb:b∈fp)(e:h.get? b=some o):(b,o)∈qy fp h:=m9.mpr ⟨b,hb,by rw[e];rfl⟩
theorem BC(hp:p∈qy fp h):p.1∈fp/\h.get? p.1=some p.2:=by
 obtain⟨b,hb,e⟩:=m9.mp hp;cases q:h.get? b with
 |none=>rw[q] at e;cases e
 |some o=>
  rw[q] at e;have e':(b,o)=p:=aY e;subst e';exact⟨hb,q⟩
theorem aP.pinned(I:aP X ae σ H s)(hf:∀b∈fp,k9 X ae H b)(ho:∀b∈fp,∃o,s.heap.get? b=some o/\∀v,o.data≠.cell v):aP X (ae++qy fp s.heap) σ H s:=
 I.z_ fun p hp=>(bg.mp hp).elim (fun z=>I.pin p (iD _ z)) fun z=>by
  obtain⟨hb,e⟩:=BC z;obtain⟨f0,f1,f2,_⟩:=hf p.1 hb;obtain⟨o,e',d⟩:=ho p.1 hb;rw[e] at e';cases e';exact⟨e,f0,f1,f2,d⟩
theorem aP.mC(I:aP X (ae++pl) σ H s):aP X ae σ H s:=I.z_ fun p hp=>I.pin p (iD _ (hW _ hp))
theorem dR(hp:PassesOwn (model X.prog X.w) X.A X.env X.xe)(hc:X.calm=true)(hi:PI X tg jA wi)(hg:PG X tg g)(hb:yM X body tb)(hs:∀x,foldedSetIterable jA X.env x=pure x:=by intro _;rfl):PS X (.For tg jA body [] pos) (Uy wi g tb):=by
 intro ae s σ H D I h;refine wpAny_For (cm (hi ae s σ H _ I h) fun v s1 h1=>cm h1 fun SK s2 h2=>?_) hs;obtain⟨it,fp,tn,J,H2,e,I2,T,iH,f2,W,⟨m0,w0⟩,Dr⟩:=h2;subst e;have yR:∀ {H':Hp},(∀b∈fp,H' b=none)->∀b∈fp,k9 X ae H' b:=fun hn b hb=>⟨hn b hb,(f2 b hb).2⟩
 refine codeAny_forLoop_any (fun n s'=>∃i σ' H',aP X ae σ' H' s'/\tn i s'.heap/\(∀b∈fp,H' b=none)/\W i n σ' H') ?_ m0 ⟨0,σ,H2,I2,iH,fun b hb=>(f2 b hb).1,w0⟩;rintro n s3 ⟨i,σ3,H3,I3,uM,Le,w3⟩;rcases Dr i n σ3 H3 w3 with ⟨stop,qn⟩|⟨go,N,hN,step⟩
 .refine lO hp (cm (T.done X rfl rfl rfl i ae s3 σ3 H3 X.xe (.inl hc) I3 (yR Le) uM stop) fun r s4 ⟨hr,I4⟩=>?_);subst hr;exact uB ⟨σ3,H3,I4,qn⟩
 .refine lO hp (cm (T.item X rfl rfl rfl i ae s3 σ3 H3 X.xe (.inl hc) I3 (yR Le) uM go) fun r s4 ⟨u,hr,h4⟩=>?_);subst hr;refine lO hp (cm h4 fun _ s5 ⟨x,H5,I5,r5,y5,Ae,Uz⟩=>?_);have UA:=I5.pinned (yR Uz) (T.obj _ _ Ae);refine lO hp (cm (hg _ s5 σ3 H5 x u _ UA r5 (step x H5 y5)) fun _ s6 ⟨σ6,H6,I6,q6⟩=>?_);refine lO hp (cm (hb _ s6 σ6 H6 _ I6 q6) fun f s7 q7=>?_);have again:∀ {σ7:St} {H7:Hp},aP X (ae++qy fp s5.heap) σ7 H7 s7->N σ7 H7->∃m,m<n/\∃i σ' H',aP X ae σ' H' s7/\tn i s7.heap/\(∀b∈fp,H' b=none)/\W i m σ' H':=fun {σ7 H7} I7 n7=>by
   obtain⟨m',hm,w7⟩:=hN σ7 H7 n7;refine⟨m',hm,i+1,σ7,H7,I7.mC,T.keep _ _ _ Ae fun b hb o e=>(I7.pin (b,o) (iD _ (iD _ (i_ hb e)))).1,fun b hb=>?_,w7⟩;obtain⟨o,e,d⟩:=T.obj _ _ Ae b hb;exact(I7.pin (b,o) (iD _ (iD _ (i_ hb e)))).2.1
  cases f with
  |next=>obtain⟨σ7,H7,I7,n7⟩:=q7;exact again I7 n7
  |cont=>obtain⟨σ7,H7,I7,n7⟩:=q7;exact again I7 n7
  |brk=>obtain⟨σ7,H7,I7,q7⟩:=q7;exact⟨σ7,H7,I7.mC,q7⟩
  |ret v=>obtain⟨x7,σ7,H7,I7,r7,q7⟩:=q7;exact⟨x7,σ7,H7,I7.mC,r7,q7⟩
end
theorem jX{K:PySem.W.Frag}{a:Addr}{xs:List V}{g:TG}{tb:TS}{D:wa}{σ:St}{H:Hp}(Pv:Nat->St->Hp->Prop)(h0:Pv 0 σ H)(hl:∀i σ H,i<=xs.length->Pv i σ H->aV K H a xs)(hs:∀i x σ H,xs[i]?=some x->Pv i σ H->g x σ H fun σ2 H2=>tb { D with nx:=Pv (i+1),ct:=Pv (i+1),bk:=D.nx } σ2 H2)(hd:∀σ H,Pv xs.length σ H->D.nx σ H):
  ∃W:Nat->Nat->St->Hp->Prop,(∃m,W 0 m σ H)/\∀i m σ H,W i m σ H->
   ((Ds K a).stop i H/\D.nx σ H)\/((Ds K a).go i H/\∃N:St->Hp->Prop,(∀σ' H',N σ' H'->∃m',m'<m/\W (i+1) m' σ' H')/\∀x H',(Ds K a).JX i H x H'->g x σ H' fun σ2 H2=>tb { D with nx:=N,ct:=N,bk:=D.nx } σ2 H2):=by
 refine⟨fun i m σ H=>m=xs.length-i/\i<=xs.length/\Pv i σ H,⟨xs.length,by simp,dv _,h0⟩,?_⟩;rintro i m σ H ⟨rfl,hi,p⟩;have q:=hl i σ H hi p;by_cases d9:i<xs.length
 .refine .inr ⟨⟨xs,xs[i],q,by simp[d9]⟩,Pv (i+1),fun σ' H' p'=>⟨xs.length-(i+1),by lia,rfl,d9,p'⟩,fun x H' y=>?_⟩;obtain⟨e,y⟩:=y;subst e;exact hs i x σ _ (y xs q) p
 .have e:i=xs.length:=by lia
  subst e;exact .inl ⟨⟨xs,q,ba _⟩,hd σ H p⟩
theorem eE{lo:Int}{n:Nat}{g:TG}{tb:TS}{D:wa}{σ:St}{H:Hp}(Pv:Nat->St->Hp->Prop)(h0:Pv 0 σ H)(hs:∀i σ H,i<n->Pv i σ H->g (.int (lo+i)) σ H fun σ2 H2=>tb { D with nx:=Pv (i+1),ct:=Pv (i+1),bk:=D.nx } σ2 H2)(hd:∀σ H,Pv n σ H->D.nx σ H):
  ∃W:Nat->Nat->St->Hp->Prop,(∃m,W 0 m σ H)/\∀i m σ H,W i m σ H->
   ((JY lo n).stop i H/\D.nx σ H)\/((JY lo n).go i H/\∃N:St->Hp->Prop,(∀σ' H',N σ' H'->∃m',m'<m/\W (i+1) m' σ' H')/\∀x H',(JY lo n).JX i H x H'->g x σ H' fun σ2 H2=>tb { D with nx:=N,ct:=N,bk:=D.nx } σ2 H2):=by
 refine⟨fun i m σ H=>m=n-i/\i<=n/\Pv i σ H,⟨n,by simp,dv _,h0⟩,?_⟩;rintro i m σ H ⟨rfl,hi,p⟩;by_cases d9:i<n
 .refine .inr ⟨d9,Pv (i+1),fun σ' H' p'=>⟨n-(i+1),by lia,rfl,d9,p'⟩,fun x H' y=>?_⟩;obtain⟨e,y⟩:=y;subst e y;exact hs i σ _ d9 p
 .have e:i=n:=by lia
  subst e;exact .inl ⟨ba _,hd σ H p⟩
theorem wr(Pv:St->Hp->Prop)(μ:St->Hp->Nat)(h0:Pv σ H)(hs:∀σ H,Pv σ H->c σ H fun b H1=>if b=true then tb { D with nx:=fun σ' H'=>Pv σ' H'/\μ σ' H'<μ σ H,ct:=fun σ' H'=>Pv σ' H'/\μ σ' H'<μ σ H,bk:=D.nx } σ H1 else D.nx σ H1)(mono:∀σ H Q Q',(∀b H1,Q b H1->Q' b H1)->c σ H Q->c σ H Q'):Dq c tb D σ H:=by
 refine⟨fun m σ H=>m=μ σ H/\Pv σ H,⟨_,rfl,h0⟩,?_⟩;rintro m σ H ⟨rfl,p⟩;refine mono σ H _ _ (fun b H1 q=>?_) (hs σ H p);cases b with
 |true=>exact⟨_,fun σ' H' ⟨p',l⟩=>⟨_,l,rfl,p'⟩,q⟩
 |false=>exact q
abbrev R2:=V->V->Hp->VK->Prop
def mD(X:Cx)(f:Value->Value->Sem Value)(r:R2):Prop:=
 ∀ (ae:List (Addr×Obj)) (s:Shared) (σ:St) (H:Hp) (x y:V) (v u:Value) (Q:VK),aP X ae σ H s->bi x v->bi y u->r x y H Q->
  wpAny (model X.prog X.w) X.A (f v u) (EP X ae σ Q) X.xe s
def UB(X:Cx)(f:Value->Sem Value)(r:V->Hp->VK->Prop):Prop:=
 ∀ (ae:List (Addr×Obj)) (s:Shared) (σ:St) (H:Hp) (x:V) (v:Value) (Q:VK),aP X ae σ H s->bi x v->r x H Q->
  wpAny (model X.prog X.w) X.A (f v) (EP X ae σ Q) X.xe s
def eU(X:Cx)(f:Value)(r:List V->Hp->VK->Prop):Prop:=
 ∀ (ae:List (Addr×Obj)) (s:Shared) (σ:St) (H:Hp) (xs:List V) (us:List Value) (Q:VK),aP X ae σ H s->aX xs us->r xs H Q->
  wpAny (model X.prog X.w) X.A (call f us) (EP X ae σ Q) X.xe s
def mE(r:R2)(ta tb:TE):TE:=fun σ H Q=>ta σ H fun x H1=>tb σ H1 fun y H2=>r x y H2 Q
def tUn(r:V->Hp->VK->Prop)(ta:TE):TE:=fun σ H Q=>ta σ H fun x H1=>r x H1 Q
def rI(C:Int->Int->Prop)(g:Int->Int->V):R2:=fun x y H Q=>∃i j,x=.int i/\y=.int j/\C i j/\Q (g i j) H
def BF(g:Int->Int->V):R2:=fun x y H Q=>∃i j,x=.int i/\y=.int j/\Q (g i j) H
def rU(g:Int->V):V->Hp->VK->Prop:=fun x H Q=>∃i,x=.int i/\Q (g i) H
section
variable {X:Cx} {a b c:Expr} {ta tb tc:TE} {pos:Pos}
theorem Lf(ha:PE X a ta)(hb:PE X b tb){ae:List (Addr×Obj)}{s:Shared}{σ:St}{H:Hp}{R:V->V->Hp->Prop}(I:aP X ae σ H s)(h:ta σ H fun x H1=>tb σ H1 fun y H2=>R x y H2){Q:Value->Shared->Prop}{f:Value->Value->Sem Value}(hf:∀v u s2 x y H2,aP X ae σ H2 s2->bi x v->bi y u->R x y H2->wpAny (model X.prog X.w) X.A (f v u) Q X.xe s2):
  wpAny (model X.prog X.w) X.A (eval a X.env) (fun v s₁=>wpAny (model X.prog X.w) X.A (eval b X.env) (fun u s₂=>wpAny (model X.prog X.w) X.A (f v u) Q X.xe s₂) X.xe s₁) X.xe s:=by
 refine cm (ha ae s σ H _ I h) fun v s1 ⟨x,H1,I1,r1,q1⟩=>?_;refine cm (hb ae s1 σ H1 _ I1 q1) fun u s2 ⟨y,H2,I2,r2,q2⟩=>?_;exact hf v u s2 x y H2 I2 r1 r2 q2
theorem bC{op:Operator}{r:R2}(ho:mD X (binaryOp op) r)(ha:PE X a ta)(hb:PE X b tb):PE X (.BinOp a op b pos) (mE r ta tb):=by
 intro ae s σ H Q I h;exact wpAny_BinOp (Lf ha hb I h fun v u s2 x y H2 I2 rx ry q=>ho ae s2 σ H2 x y v u Q I2 rx ry q)
theorem lv(ho:UB X (unaryOp op) r)(ha:PE X a ta):PE X (.UnaryOp op a pos) (tUn r ta):=by
 intro ae s σ H Q I h;exact UnaryOp_ (cm (ha ae s σ H _ I h) fun v s1 ⟨x,H1,I1,r1,q1⟩=>ho ae s1 σ H1 x v Q I1 r1 q1)
theorem SL{f:Value->Value->Sem Value}{C:Int->Int->Prop}{g:Int->Int->Int}(rule:∀ (i j:Int) (t u:Tok) (s:Shared) (Q:Value->Shared->Prop) (E:Value->Shared->Prop),C i j->Q (.int (g i j) s.toks) { s with toks:=s.toks+1 }->wpAny (model X.prog X.w) X.A (f (.int i t) (.int j u)) Q E s):
  mD X f (rI C fun i j=>.int (g i j)):=by
 intro ae s σ H x y v u Q I rx ry h;obtain⟨i,j,rfl,rfl,hc,q⟩:=h;obtain⟨t,rfl⟩:=rx;obtain⟨t',rfl⟩:=ry;exact rule i j t t' s _ _ hc ⟨.int (g i j),H,I.tok _,⟨_,rfl⟩,q⟩
theorem Pf{f:Value->Value->Sem Value}{g:Int->Int->Int}(rule:∀ (i j:Int) (t u:Tok) (s:Shared) (Q:Value->Shared->Prop) (E:Value->Shared->Prop),Q (.int (g i j) s.toks) { s with toks:=s.toks+1 }->wpAny (model X.prog X.w) X.A (f (.int i t) (.int j u)) Q E s):
  mD X f (BF fun i j=>.int (g i j)):=by
 intro ae s σ H x y v u Q I rx ry h;obtain⟨i,j,rfl,rfl,q⟩:=h;obtain⟨t,rfl⟩:=rx;obtain⟨t',rfl⟩:=ry;exact rule i j t t' s _ _ ⟨.int (g i j),H,I.tok _,⟨_,rfl⟩,q⟩
theorem GK{f:Value->Value->Sem Value}{g:Int->Int->Bool}(rule:∀ (i j:Int) (t u:Tok) (s:Shared) (Q:Value->Shared->Prop) (E:Value->Shared->Prop),Q (.bool (g i j)) s->wpAny (model X.prog X.w) X.A (f (.int i t) (.int j u)) Q E s):
  mD X f (BF fun i j=>.bl (g i j)):=by
 intro ae s σ H x y v u Q I rx ry h;obtain⟨i,j,rfl,rfl,q⟩:=h;obtain⟨t,rfl⟩:=rx;obtain⟨t',rfl⟩:=ry;exact rule i j t t' s _ _ ⟨.bl (g i j),H,I,rfl,q⟩
def UC(i j:Int):Prop:=0<j/\j<1073741824
def UD(i j:Int):Prop:=0<=j/\j<=1000000/\i.natAbs<2 ^ 64
def Lg(i j:Int):Prop:=(-(2 ^ 64)<i/\i<2 ^ 64)\/(-(2 ^ 64)<j/\j<2 ^ 64)
theorem Lg.ok(h:Lg i j):IntMulOk i j:=by
 rcases h with ⟨h1,h2⟩|⟨h1,h2⟩
 .exact .of_left (intBits_le_64 h1 h2)
 .exact .of_right (intBits_le_64 h1 h2)
theorem dF:mD X (binaryOp .Add) (BF fun i j=>.int (i+j)):=Pf fun _ _ _ _ _ _ _ q=>add_int q
theorem qz:mD X (binaryOp .Sub) (BF fun i j=>.int (i-j)):=Pf fun _ _ _ _ _ _ _ q=>sub_int q
theorem yS:mD X (binaryOp .Mult) (rI Lg fun i j=>.int (i*j)):=SL fun _ _ _ _ _ _ _ hc q=>mul_int q hc.ok
theorem Af:mD X (binaryOp .FloorDiv) (rI UC fun i j=>.int (i / j)):=SL fun i j _ _ _ _ _ hc q=>by
 have h1:(0:Int)<j:=hc.1;have h2:j<1073741824:=hc.2;exact floordiv_int (by lia) (by rw[Int.fdiv_eq_ediv_of_nonneg i (by lia)];exact q) (.inl (PyProof.noPylong_small (by lia)))
theorem gN:mD X (binaryOp .Mod) (rI (fun _ j=>0<j) fun i j=>.int (i % j)):=SL fun i j _ _ _ _ _ hc q=>by
 have h1:(0:Int)<j:=hc;exact mod_int' (by lia) (by rw[Dc i (by lia)];exact q)
theorem Dv:mD X (binaryOp .Pow) (rI UD fun i j=>.int (i ^ j.toNat)):=SL fun _ _ _ _ _ _ _ hc q=>pow_int_small hc.1 hc.2.1 hc.2.2 q
theorem unI{f:Value->Sem Value}{g:Int->Int}(rule:∀ (i:Int) (t:Tok) (s:Shared) (Q:Value->Shared->Prop) (E:Value->Shared->Prop),Q (.int (g i) s.toks) { s with toks:=s.toks+1 }->wpAny (model X.prog X.w) X.A (f (.int i t)) Q E s):
  UB X f (rU fun i=>.int (g i)):=by
 intro ae s σ H x v Q I rx h;obtain⟨i,rfl,q⟩:=h;obtain⟨t,rfl⟩:=rx;exact rule i t s _ _ ⟨.int (g i),H,I.tok _,⟨_,rfl⟩,q⟩
theorem iw:UB X (unaryOp .USub) (rU fun i=>.int (-i)):=unI fun _ _ _ _ _ q=>neg_int q
end
def Li:V->V->Bool
 |.bJ,.bJ=>true|.bJ,.int _=>true|.int _,.bJ=>true|.bJ,.bl _=>true|.bl _,.bJ=>true|.bJ,.str _=>true|.str _,.bJ=>true
 |.int _,.int _=>true|.bl _,.bl _=>true|.str _,.str _=>true|.By _,.By _=>true
 |.int _,.str _=>true|.str _,.int _=>true|.bl _,.str _=>true|.str _,.bl _=>true
 |_,_=>false
def SN:R2:=fun x y H Q=>Li x y=true/\Q (.bl (decide (x=y))) H
def rNe:R2:=fun x y H Q=>Li x y=true/\Q (.bl (!decide (x=y))) H
theorem pq:decide (V.int i=V.int j)=(i==j):=by
 rw[iT];simp
theorem Dw:decide (V.bl i=V.bl j)=(i==j):=by
 rw[iT];simp
theorem Ag:decide (V.str i=V.str j)=(i==j):=by
 rw[iT];simp
theorem Ah:decide (V.By i=V.By j)=(i.toList==j.toList):=by
 rw[iT];cases i;cases j;simp
section
variable {X:Cx} {a b c:Expr} {ta tb tc:TE} {pos:Pos}
theorem bD(I:aP X ae σ H s)(q:Q (.bl k) H)(e:k=k'):EP X ae σ Q (.bool k') s:=by
 subst e;exact⟨.bl k,H,I,rfl,q⟩
theorem eM:mD X (compareOp .Eq) SN:=by
 intro ae s σ H x y v u Q I rx ry h;obtain⟨hs,q⟩:=h;cases x with
 |bJ=>
  cases rx;cases y with
  |bJ=>cases ry;exact PySem.EqNone.eq_none_none (bD I q (by simp))
  |bl j=>cases ry;exact PySem.EqNone.eq_none_bool (bD I q (by simp))
  |int j=>obtain⟨t',rfl⟩:=ry;exact PySem.EqNone.eq_none_int (bD I q (by simp))
  |str j=>obtain⟨t',rfl⟩:=ry;exact PySem.EqNone.eq_none_str (bD I q (by simp))
  |_=>exact absurd (show false=true from hs) cz
 |bl i=>
  cases rx;cases y with
  |bJ=>cases ry;exact PySem.EqNone.eq_bool_none (bD I q (by simp))
  |bl j=>cases ry;exact eq_bool (bD I q Dw)
  |str j=>obtain⟨t',rfl⟩:=ry;exact PySem.EqMixed.eq_bool_str (bD I q (by simp))
  |_=>exact absurd (show false=true from hs) cz
 |int i=>
  obtain⟨t,rfl⟩:=rx;cases y with
  |bJ=>cases ry;exact PySem.EqNone.eq_int_none (bD I q (by simp))
  |int j=>obtain⟨t',rfl⟩:=ry;exact eq_int (bD I q pq)
  |str j=>obtain⟨t',rfl⟩:=ry;exact PySem.EqMixed.eq_int_str (bD I q (by simp))
  |_=>exact absurd (show false=true from hs) cz
 |str i=>
  obtain⟨t,rfl⟩:=rx;cases y with
  |bJ=>cases ry;exact PySem.EqNone.eq_str_none (bD I q (by simp))
  |bl j=>cases ry;exact PySem.EqMixed.eq_str_bool (bD I q (by simp))
  |int j=>obtain⟨t',rfl⟩:=ry;exact PySem.EqMixed.eq_str_int (bD I q (by simp))
  |str j=>obtain⟨t',rfl⟩:=ry;exact eq_str (bD I q Ag)
  |_=>exact absurd (show false=true from hs) cz
 |By i=>
  obtain⟨t,rfl⟩:=rx;cases y with
  |By j=>obtain⟨t',rfl⟩:=ry;exact PySem.W.eq_bytes (bD I q Ah)
  |_=>exact absurd (show false=true from hs) cz
 |_=>cases y <;> exact absurd (show false=true from hs) cz
theorem sG:mD X (compareOp .NotEq) rNe:=by
 intro ae s σ H x y v u Q I rx ry h;obtain⟨hs,q⟩:=h;cases x with
 |bJ=>
  cases rx;cases y with
  |bJ=>cases ry;exact PySem.EqNone.ne_none_none (bD I q (by simp))
  |bl j=>cases ry;exact PySem.EqNone.ne_none_bool (bD I q (by simp))
  |int j=>obtain⟨t',rfl⟩:=ry;exact PySem.EqNone.ne_none_int (bD I q (by simp))
  |str j=>obtain⟨t',rfl⟩:=ry;exact PySem.EqNone.ne_none_str (bD I q (by simp))
  |_=>exact absurd (show false=true from hs) cz
 |bl i=>
  cases rx;cases y with
  |bJ=>cases ry;exact PySem.EqNone.ne_bool_none (bD I q (by simp))
  |bl j=>cases ry;exact ne_bool (bD I q (congrArg not Dw))
  |str j=>obtain⟨t',rfl⟩:=ry;exact PySem.EqMixed.ne_bool_str (bD I q (by simp))
  |_=>exact absurd (show false=true from hs) cz
 |int i=>
  obtain⟨t,rfl⟩:=rx;cases y with
  |bJ=>cases ry;exact PySem.EqNone.ne_int_none (bD I q (by simp))
  |int j=>obtain⟨t',rfl⟩:=ry;exact ne_int (bD I q (congrArg not pq))
  |str j=>obtain⟨t',rfl⟩:=ry;exact PySem.EqMixed.ne_int_str (bD I q (by simp))
  |_=>exact absurd (show false=true from hs) cz
 |str i=>
  obtain⟨t,rfl⟩:=rx;cases y with
  |bJ=>cases ry;exact PySem.EqNone.ne_str_none (bD I q (by simp))
  |bl j=>cases ry;exact PySem.EqMixed.ne_str_bool (bD I q (by simp))
  |int j=>obtain⟨t',rfl⟩:=ry;exact PySem.EqMixed.ne_str_int (bD I q (by simp))
  |str j=>obtain⟨t',rfl⟩:=ry;exact ne_str (bD I q (congrArg not Ag))
  |_=>exact absurd (show false=true from hs) cz
 |By i=>
  obtain⟨t,rfl⟩:=rx;cases y with
  |By j=>obtain⟨t',rfl⟩:=ry;exact PySem.W.ne_bytes (bD I q (congrArg not Ah))
  |_=>exact absurd (show false=true from hs) cz
 |_=>cases y <;> exact absurd (show false=true from hs) cz
theorem oI:mD X (compareOp .Lt) (BF fun i j=>.bl (decide (i<j))):=GK fun _ _ _ _ _ _ _ q=>lt_int q
theorem Ai:mD X (compareOp .LtE) (BF fun i j=>.bl (decide (i<=j))):=GK fun _ _ _ _ _ _ _ q=>le_int q
theorem Dx:mD X (compareOp .Gt) (BF fun i j=>.bl (decide (j<i))):=GK fun _ _ _ _ _ _ _ q=>gt_int q
theorem Dy:mD X (compareOp .GtE) (BF fun i j=>.bl (decide (j<=i))):=GK fun _ _ _ _ _ _ _ q=>ge_int q
theorem jY:mD X (compareOp .Is) (fun x y H Q=>y=.bJ/\Q (.bl (decide (x=.bJ))) H):=by
 intro ae s σ H x y v u Q I rx ry h;obtain⟨rfl,q⟩:=h;cases ry;refine is_none_gen (bD I q ?_);cases x <;> first
  |(cases rx;rfl)
  |(obtain⟨t,rfl⟩:=rx;rfl)
theorem pr:mD X (compareOp .IsNot) (fun x y H Q=>y=.bJ/\Q (.bl (!decide (x=.bJ))) H):=by
 intro ae s σ H x y v u Q I rx ry h;obtain⟨rfl,q⟩:=h;cases ry;refine isnot_none_gen (bD I q ?_);cases x <;> first
  |(cases rx;rfl)
  |(obtain⟨t,rfl⟩:=rx;rfl)
theorem aO(b:Expr)(h:op≠.In:=by decide)(h2:op≠.NotIn:=by decide):behindInMarks op b=false:=by
 have e1:(op==CmpOp.In)=false:=by cases op <;> first|rfl|exact absurd rfl h
 have e2:(op==CmpOp.NotIn)=false:=by cases op <;> first|rfl|exact absurd rfl h2
 cases b <;> simp[behindInMarks,e1,e2]
theorem dG(ho:mD X (compareOp op) r)(ha:PE X a ta)(hb:PE X b tb)(hm:behindInMarks op b=false):PE X (.Compare a [op] [b] pos) (mE r ta tb):=by
 intro ae s σ H Q I h;exact wpAny_Compare1 (Lf ha hb I h fun v u s2 x y H2 I2 rx ry q=>ho ae s2 σ H2 x y v u Q I2 rx ry q) hm
def jZ(t:TE):TT:=fun σ H Q=>t σ H fun x H'=>∃k,x=.bl k/\Q k H'
theorem aK(ho:mD X (compareOp op) r)(ha:PE X a ta)(hb:PE X b tb)(hm:behindInMarks op b=false):PT X (.Compare a [op] [b] pos) (jZ (mE r ta tb)):=by
 intro ae s σ H Q I h;refine wpAny_isTrue_Compare1 (cm (ha ae s σ H _ I h) fun v s1 ⟨x,H1,I1,r1,q1⟩=>cm (hb ae s1 σ H1 _ I1 q1) fun u s2 ⟨y,H2,I2,r2,q2⟩=>
  cm (ho ae s2 σ H2 x y v u _ I2 r1 r2 q2) fun c s3 ⟨z,H3,I3,r3,k,e,q3⟩=>?_) hm
 subst e;cases r3;exact ng ⟨H3,I3,q3⟩
def Lj(r r':R2)(ta tb tc:TE):TE:=fun σ H Q=>ta σ H fun x H1=>tb σ H1 fun y H2=>r x y H2 fun z H3=>∃k,z=.bl k/\
 (if k=true then tc σ H3 fun w' H4=>r' y w' H4 Q else Q (.bl false) H3)
theorem wt(ho:mD X (compareOp op) r)(Dm:mD X (compareOp Yk) r')(ha:PE X a ta)(hb:PE X b tb)(hc:PE X c tc)(hm:lastMarks [op,Yk] [b,c]=false:=by with_unfolding_all rfl):PE X (.Compare a [op,Yk] [b,c] pos) (Lj r r' ta tb tc):=by
 intro ae s σ H Q I h;refine Compare_chain (cm (ha ae s σ H _ I h) fun v s1 ⟨x,H1,I1,r1,q1⟩=>chain_link (cm (hb ae s1 σ H1 _ I1 q1) fun u s2 ⟨y,H2,I2,r2,q2⟩=>
  cm (ho ae s2 σ H2 x y v u _ I2 r1 r2 q2) fun d s3 ⟨z,H3,I3,r3,k,e,q3⟩=>?_)) hm
 subst e;cases r3;refine ng ?_;cases k with
 |false=>exact ite_ff ⟨.bl false,H3,I3,rfl,q3⟩
 |true=>exact ite_tt (chain_last (cm (hc ae s3 σ H3 _ I3 q3) fun w' s4 ⟨z',H4,I4,r4,q4⟩=>Dm ae s4 σ H4 y z' u w' Q I4 r2 r4 q4))
theorem uN:(sizeLine:Nat)<2 ^ 63:=by rw[iY];decide
theorem qA(r:aX [x] us):∃u,us=[u]/\bi x u:=by
 cases r with
 |cons r1 r2=>cases r2;exact⟨_,rfl,r1⟩
theorem JZ(r:aX [x,y] us):∃u w',us=[u,w']/\bi x u/\bi y w':=by
 cases r with
 |cons r1 r2=>
  cases r2 with
  |cons r3 r4=>cases r4;exact⟨_,_,rfl,r1,r3⟩
theorem DA:eU X (.builtin "abs") (fun xs H Q=>∃i,xs=[.int i]/\Q (.int (if i<0 then -i else i)) H):=by
 intro ae s σ H xs us Q I r h;obtain⟨i,rfl,q⟩:=h;obtain⟨u,rfl,t,rfl⟩:=qA r;exact call_abs_int fun u tk=>⟨.int (if i<0 then -i else i),H,I.tok _,⟨_,rfl⟩,q⟩
theorem sH(hc:X.calm=true):eU X (.builtin "max") (fun xs H Q=>∃i j,xs=[.int i,.int j]/\Q (.int (if j > i then j else i)) H):=by
 intro ae s σ H xs us Q I r h;obtain⟨i,j,rfl,q⟩:=h;obtain⟨u,w',rfl,⟨t,rfl⟩,⟨t',rfl⟩⟩:=JZ r;refine max_two_ints (I.ok.hd hc) fun h' tk k=>⟨_,H,I.kept k,?_,q⟩
 by_cases hj:j > i
 .rw[ao hj,ao hj];exact⟨_,rfl⟩
 .rw[ap hj,ap hj];exact⟨_,rfl⟩
theorem BG(hc:X.calm=true):eU X (.builtin "min") (fun xs H Q=>∃i j,xs=[.int i,.int j]/\Q (.int (if j<i then j else i)) H):=by
 intro ae s σ H xs us Q I r h;obtain⟨i,j,rfl,q⟩:=h;obtain⟨u,w',rfl,⟨t,rfl⟩,⟨t',rfl⟩⟩:=JZ r;refine min_two_ints (I.ok.hd hc) fun h' tk k=>⟨_,H,I.kept k,?_,q⟩
 by_cases hj:j<i
 .rw[ao hj,ao hj];exact⟨_,rfl⟩
 .rw[ap hj,ap hj];exact⟨_,rfl⟩
theorem sI:eU X (.type "int") (fun xs H Q=>(∃i,xs=[.int i]/\Q (.int i) H)\/∃k,xs=[.bl k]/\Q (.int (if k then 1 else 0)) H):=by
 intro ae s σ H xs us Q I r h;rcases h with ⟨i,rfl,q⟩|⟨k,rfl,q⟩
 .obtain⟨u,rfl,t,rfl⟩:=qA r;exact call_int_int ⟨.int i,H,I,⟨_,rfl⟩,q⟩
 .obtain⟨u,rfl,r1⟩:=qA r;cases r1;exact call_int_bool ⟨.int (if k then 1 else 0),H,I.tok _,⟨_,rfl⟩,q⟩
end
structure yT(h:Heap)(x dx C:Addr)(mA:Str->Option Value):Prop where
 obj:h.get? x=some (PySem.W.instObj C dx)
 ns:h.Ns1 dx mA
 ne:dx≠x
theorem BI{h:Heap}{dx:Addr}{mA:Str->Option Value}(n:h.Ns1 dx mA):∃od,h.get? dx=some od/\∀name,PySem.W.lookIn name od=some (mA name):=by
 obtain⟨o,es,ep,ho,hd,hk,_,hm⟩:=n;refine⟨o,ho,fun name=>?_⟩;have e:=hm name;unfold nsFind findBy at e;rw[<-Array.find?_toList] at e;unfold PySem.W.lookIn;rw[hd];dsimp only;split
 .rename_i y q;rw[q] at e;exact congrArg some e
 .rename_i q;rw[q] at e;have a:es.toList.any (·.refKey)=false:=by
   rw[yy];intro y hy;obtain⟨z,t,oZ⟩:=hk y (Array.mem_toList_iff.mp hy);simp[DictEntry.refKey,oZ]
  have a':¬ es.toList.any (·.refKey)=true:=by rw[a];exact cz
  rw[ap a'];exact congrArg some e
theorem yT.look(I:yT h x dx C mA):∃od,PySem.W.InstAt h x (PySem.W.instObj C dx) C (some od)/\∀name,PySem.W.lookIn name od=some (mA name):=
 let ⟨od,ho,hl⟩:=BI I.ns
 ⟨od,⟨I.obj,rfl,rfl,ho⟩,hl⟩
section
variable {prog:Program} {w:World} {A:Around} {E:Value->Shared->Prop} {s:Shared} {K:PySem.W.Frag} {x dx C f:Addr} {mA:Str->Option Value} {name:Str} {v:Value}
theorem GL(X:K.In s.heap)(I:yT s.heap x dx C mA)(hg:PySem.W.plainGet K C name=true)(hh:PySem.W.hasDictIn K C=true)(ha:PySem.W.findIn K (.ref C) name=some none)(hv:mA name=some v)(yU:PySem.W.handedIn v=true)(h:Q v { s with toks:=s.toks+1 }):
  wpAny (model prog w) A (getAttr (.ref x) name GN) Q E s:=by
 obtain⟨od,J,hl⟩:=I.look;exact PySem.W.get_value X J (yj hg).1 (PySem.W.findObj_own hh ha rfl (by rw[hl,hv])) yU h
theorem DB(X:K.In s.heap)(I:yT s.heap x dx C mA)(hg:PySem.W.plainGet K C name=true)(hf:PySem.W.findIn K (.ref C) name=some (some (.ref f)))(ht:PySem.W.isFn K (.ref f)=true)(hv:mA name=none)(h:Q (.ref f,[.ref x]) s):
  wpAny (model prog w) A (getMethod (.ref x) name pl) Q E s:=by
 obtain⟨od,J,hl⟩:=I.look;exact PySem.W.method_fn X J (yj hg).1 (yj hg).2 hf (gu.mp ht) (by show (PySem.W.lookIn name od).map (·.isSome)=some false;rw[hl,hv];rfl) h
theorem GQ(X:K.In s.heap)(I:yT s.heap x dx C mA)(hs:PySem.W.findIn K (.ref C) "__setattr__"=some (some (.builtin "object.__setattr__")))(hp:PySem.W.plainOver K C=true)(ht:PySem.W.takerIn K C name=some none)(hh:PySem.W.hasDictIn K C=true)(hw:PySem.Within mA ns)(hsz:ns.length<=sizeLine)(h:∀h',yT h' x dx C (fun y=>if y=name then some v else mA y)->Heap.SameBut dx s.heap h'->Q () { s with heap:=h',toks:=s.toks+2 }):
  wpAny (model prog w) A (setAttr (.ref x) name v) Q E s:=by
 obtain⟨od,J,hl⟩:=I.look;refine PySem.W.set_plain X J hs (PySem.W.osa_open (s:={ s with toks:=s.toks+1 }) (r:=none) X J hp ht fun b=>?_);obtain⟨cd,hc,K7⟩:=PySem.W.any_some hh;have hx:s.heap.get? x=some ⟨.ref C,some dx,.plain,#[]⟩:=I.obj;refine aJ (wpAny_pure (aJ (aJ (wpAny_loadPart hx (aJ (PySem.W.Looks.here (s:={ s with toks:=s.toks+1 }) (PySem.W.looks_clsIn X hc) ?_))))));rw[K7];refine wpAny_pure (a:=some dx) (aJ (wpAny_pure (aJ ?_)));refine wpAny_nsSet1 (s:={ s with toks:=s.toks+1 }) I.ns fun h' SO qx=>?_;obtain⟨oD,esD,epD,hoD,Pg,GS⟩:=SO.count (PySem.Within.cons name v hw);refine aJ (wpAny_lookBehind hoD (by rw[Pg];exact pastItsLine_dict (bj GS (by rw[cG];lia))) ?_);exact wpAny_pure (h _ ⟨(qx.2 _ (Ne.symm I.ne)).trans I.obj,SO,I.ne⟩ qx)
theorem DC(X:K.In s.heap)(hm:PySem.W.makesIn K C=true)(hi:PySem.W.findIn K (.ref C) "__init__"=some (some (.ref f)))(hf:PySem.W.typeIn K (.ref f)=some (.type "function"))(h:codeAny (model prog w) (A.under (.builtin "type.__call__" ⟨.ref C::vs,kw⟩)) (.call (.ref f) ⟨.ref (s.heap.objs.size+1)::vs,kw⟩) (PySem.W.InitBack (s.heap.objs.size+1) R)
   { s with heap:=(s.heap.push PySem.W.emptyDict).push (PySem.W.instObj C s.heap.objs.size) }):
  codeAny (model prog w) A (.call (.ref C) ⟨vs,kw⟩) R s:=by
 obtain⟨hh,g,d,t,os⟩:=s;exact PySem.W.make_core (PySem.W.makes_of X hm) (PySem.W.looks_findIn X hi) (fun self=>PySem.W.bind_fn X self hf) (.inl rfl) h
end
def dI(f:Str)(v:V):List (Str×V)->List (Str×V)
 |[]=>[(f,v)]
 |(g,x)::r=>if g=f then (g,v)::r else (g,x)::dI f v r
theorem bn(f g:Str)(v:V):∀fs:List (Str×V),(dI f v fs).lookup g=if g=f then some v else fs.lookup g
 |[]=>by
  show List.lookup g [(f,v)]=_;by_cases h:g=f
  .have hb:(g==f)=true:=gu.mpr h;simp only[List.lookup,hb,ao h]
  .have hb:(g==f)=false:=lq.mpr h;simp only[List.lookup,hb,ap h]
 |(k,x)::r=>by
  have ih:=bn f g v r;rw[show dI f v ((k,x)::r)=(if k=f then (k,v)::r else (k,x)::dI f v r) from rfl];by_cases hk:k=f
  .rw[ao hk];by_cases h:g=k
   .have hb:(g==k)=true:=gu.mpr h;simp only[List.lookup,hb,ao (h.trans hk)]
   .have hb:(g==k)=false:=lq.mpr h;simp only[List.lookup,hb,ap (fun e:g=f=>h (e.trans hk.symm))]
  .rw[ap hk];by_cases h:g=k
   .have hb:(g==k)=true:=gu.mpr h;simp only[List.lookup,hb,ap (fun e:g=f=>hk (h.symm.trans e))]
   .have hb:(g==k)=false:=lq.mpr h;simp only[List.lookup,hb];exact ih
theorem nM(f:Str)(v:V):∀fs:List (Str×V),f∈(dI f v fs).map (·.1)/\∀g,g∈fs.map (·.1)->g∈(dI f v fs).map (·.1)
 |[]=>⟨by simp[dI],fun g h=>by simp at h⟩
 |(k,x)::r=>by
  obtain⟨i1,i2⟩:=nM f v r;rw[show dI f v ((k,x)::r)=(if k=f then (k,v)::r else (k,x)::dI f v r) from rfl];by_cases hk:k=f
  .rw[ao hk];subst hk;exact⟨by simp,fun g h=>by simpa using h⟩
  .rw[ap hk];refine⟨?_,fun g h=>?_⟩
   .rw[cQ];exact cy _ i1
   .rw[cQ] at h |-;rcases bP.mp h with e|e
    .exact bP.mpr (.inl e)
    .exact cy _ (i2 g e)
theorem eB(f:Str)(v:V):∀fs:List (Str×V),(dI f v fs).length<=fs.length+1
 |[]=>by simp[dI]
 |(k,x)::r=>by
  have ih:=eB f v r;rw[show dI f v ((k,x)::r)=(if k=f then (k,v)::r else (k,x)::dI f v r) from rfl];by_cases hk:k=f
  .rw[ao hk,cG,cG];lia
  .rw[ap hk,cG,cG];lia
theorem k8.some_of(r:k8 (some v) o):∃u,o=some u/\bi v u:=by
 cases o with
 |none=>exact(show False from r).elim
 |some u=>exact⟨u,rfl,r⟩
theorem k8.none_of(r:k8 none o):o=none:=by
 cases o with
 |none=>rfl
 |some u=>exact(show False from r).elim
theorem iI(r:bi v u):PySem.W.handedIn u=true:=by
 cases v with
 |bJ=>cases (show u=Value.none from r);rfl
 |bl b=>cases (show u=Value.bool b from r);rfl
 |int i=>obtain⟨t,e⟩:=(show ∃t,u=Value.int i t from r);cases e;rfl
 |str x=>obtain⟨t,e⟩:=(show ∃t,u=Value.str x t from r);cases e;rfl
 |By b=>obtain⟨t,e⟩:=(show ∃t,u=Value.bytes b t from r);cases e;rfl
 |JO b=>obtain⟨t,e⟩:=(show ∃t,u=Value.float b t from r);cases e;rfl
 |ref a=>cases (show u=Value.ref a from r);rfl
 |ty n=>cases (show u=Value.type n from r);rfl
section
variable {P:Program} {w:World} {H H':Hp} {h h':Heap} {a C dx:Addr} {fs fs':List (Str×V)}
theorem pz(bE:i7 P w H h)(e:H a=some (.ins C dx fs)):∃mA,yT h a dx C mA/\(∀f,k8 (fs.lookup f) (mA f))/\PySem.Within mA (fs.map (·.1))/\fs.length<=1000/\H dx=some (.own a):=by
 obtain⟨d,z,ne,ob,mA,n,r,q⟩:=(show bS P w H h a (.ins C dx fs) from bE a _ e)
 exact⟨mA,⟨ob,n,ne⟩,r,q,z,d⟩
end
structure Gj(K:PySem.W.Frag)(C:Addr):Prop where
 pg:PySem.W.plainGet K C Str.empty=true
 hd:PySem.W.hasDictIn K C=true
 po:PySem.W.plainOver K C=true
 sa:PySem.W.findIn K (.ref C) "__setattr__"=some (some (.builtin "object.__setattr__"))
theorem Gj.get{K:PySem.W.Frag}{C:Addr}(c:Gj K C)(f:Str):PySem.W.plainGet K C f=true:=c.pg
def ix(K:PySem.W.Frag)(C:Addr)(f:Str):Prop:=PySem.W.findIn K (.ref C) f=some none
theorem ix.taker{K:PySem.W.Frag}{C:Addr}{f:Str}(n:ix K C f):PySem.W.takerIn K C f=some none:=by
 unfold PySem.W.takerIn;rw[show PySem.W.findIn K (.ref C) f=some none from n];rfl
structure Lk(K:PySem.W.Frag)(C:Addr)(m:Str)(f:Addr):Prop where
 at_:PySem.W.findIn K (.ref C) m=some (some (.ref f))
 fn:PySem.W.isFn K (.ref f)=true
 kp:PySem.W.keepIn K (.ref f)=true
section
variable {X:Cx} {ae:List (Addr×Obj)} {σ:St} {H:Hp} {s:Shared} {a C dx:Addr} {fs:List (Str×V)} {f:Str} {v:V} {A:Around} {E:Value->Shared->Prop}
theorem yV(I:aP X ae σ H s)(e:H a=some (.ins C dx fs))(c:Gj X.K C)(n:ix X.K C f)(l:fs.lookup f=some v)(h:∀u s',aP X ae σ H s'->bi v u->Q u s'):wpAny (model X.prog X.w) A (getAttr (.ref a) f b) Q E s:=by
 obtain⟨mA,O,r,_,_,_⟩:=pz I.bE e;obtain⟨u,hu,ru⟩:=k8.some_of (v:=v) (o:=mA f) (by rw[<-l];exact r f);exact GL I.nG O (c.get f) c.hd n hu (iI ru) (h u _ (I.tok _) ru)
theorem yW(I:aP X ae σ H s)(e:H a=some (.ins C dx fs))(c:Gj X.K C)(k:Lk X.K C m g)(l:fs.lookup m=none)(h:Q (.ref g,[.ref a]) s):wpAny (model X.prog X.w) A (getMethod (.ref a) m pl) Q E s:=by
 obtain⟨mA,O,r,_,_,_⟩:=pz I.bE e;have hn:mA m=none:=k8.none_of (by rw[<-l];exact r m);exact DB I.nG O (c.get m) k.at_ k.fn hn h
theorem yX(I:aP X ae σ H s)(e:H a=some (.ins C dx fs))(c:Gj X.K C)(n:ix X.K C f)(hl:fs.length<1000)(ry:bi y u)(h:∀s',aP X ae σ (upd H a (.ins C dx (dI f y fs))) s'->Q () s'):wpAny (model X.prog X.w) A (setAttr (.ref a) f u) Q E s:=by
 obtain⟨mA,O,r,wi,_,ho⟩:=pz I.bE e;have hz:(fs.map (·.1)).length<=sizeLine:=by rw[aG,iY];lia
 refine GQ I.nG O c.sa c.po n.taker c.hd wi hz fun h' O' sb=>h _ ?_;have hd:∃o,h'.get? dx=some o:=let ⟨o,_,_,e',_⟩:=O'.ns;⟨o,e'⟩;refine I.write (x:=a) (e:=dx) (by rw[e];exact True.intro) (.inr ho) (fun b q hb z=>(sb.2 b hb).trans z) hd ?_;refine⟨by rw[ai O.ne];exact ho,?_,O.ne,O'.obj,_,O'.ns,fun g=>?_,fun g hg=>?_⟩
 .have:=eB f y fs;lia
 .show k8 ((dI f y fs).lookup g) (if g=f then some u else mA g);rw[bn];by_cases q:g=f
  .rw[ao q,ao q];exact ry
  .rw[ap q,ap q];exact r g
 .by_cases q:g=f
  .rw[q];exact(nM f y fs).1
  .refine(nM f y fs).2 g (wi g fun z=>hg ?_);show (if g=f then some u else mA g)=none;rw[ap q];exact z
theorem aP.made(I:aP X ae σ H s):aP X ae σ (upd (upd H s.heap.objs.size (.own (s.heap.objs.size+1))) (s.heap.objs.size+1) (.ins C s.heap.objs.size []))
  { s with heap:=(s.heap.push PySem.W.emptyDict).push (PySem.W.instObj C s.heap.objs.size) }:=by
 have e1:(s.heap.push PySem.W.emptyDict).get? s.heap.objs.size=some PySem.W.emptyDict:=dh s.heap rfl;have e2:((s.heap.push PySem.W.emptyDict).push (PySem.W.instObj C s.heap.objs.size)).get? (s.heap.objs.size+1)=some (PySem.W.instObj C s.heap.objs.size):=by
  have:=dh (s.heap.push PySem.W.emptyDict) (o:=PySem.W.instObj C s.heap.objs.size) rfl;rwa [iV] at this
 have e3:(s.heap.push PySem.W.emptyDict).Ns s.heap.objs.size (fun _=>none):=⟨PySem.W.emptyDict,#[],_,e1,rfl,(fun e he=>absurd he (by simp)),fun _=>rfl⟩
 have I1:=I.laid (a:=s.heap.objs.size) (o:=.own (s.heap.objs.size+1)) (h':=s.heap.push PySem.W.emptyDict) (t':=s.toks) (fun b u q=>cD _ q) (ba _) ⟨_,e1⟩;refine I1.laid (a:=s.heap.objs.size+1) (o:=.ins C s.heap.objs.size []) (t':=s.toks) (fun b u q=>cD _ q) (uF (iV _ _)) ?_;have ne:s.heap.objs.size≠s.heap.objs.size+1:=aZ (jK _);refine⟨by rw[ai ne,af],dv _,ne,e2,fun _=>none,(Heap.Ns1.of_empty e3).at fun o q=>cD _ q,fun _=>True.intro,fun y hy=>absurd rfl hy⟩
theorem GU(hb:attributeBase e f env (eval e env)=eval e env)(h:wpAny (model prog w) A (eval e env) (fun o s₁=>wpAny (model prog w) A (getAttr o f true) Q E s₁) E s):wpAny (model prog w) A (eval (.Attribute e f pos) env) Q E s:=
 Attribute_any_ h (by rw[arm_eval_Attribute,hb])
end
def Ll(K:PySem.W.Frag)(ta:TE)(f:Str):TE:=fun σ H Q=>ta σ H fun x H1=>∃a C dx fs v,x=.ref a/\H1 a=some (.ins C dx fs)/\Gj K C/\ix K C f/\fs.lookup f=some v/\Q v H1
def UE(K:PySem.W.Frag)(ta tv:TE)(f:Str):TS:=fun D σ H=>tv σ H fun y H1=>ta σ H1 fun x H2=>∃a C dx fs,x=.ref a/\H2 a=some (.ins C dx fs)/\Gj K C/\ix K C f/\fs.length<1000/\
 D.nx σ (upd H2 a (.ins C dx (dI f y fs)))
section
variable {X:Cx} {o e value:Expr} {f:Str} {pos oX Lm:Pos} {ta tv:TE}
theorem nN(he:PE X e ta)(hb:attributeBase e f X.env (eval e X.env)=eval e X.env):PE X (.Attribute e f pos) (Ll X.K ta f):=by
 intro ae s σ H Q I h;refine GU hb (cm (he ae s σ H _ I h) fun u s1 ⟨x,H1,I1,rx,a,C,dx,fs,v,ex,ea,c,n,l,q⟩=>?_);subst ex;obtain rfl:u=Value.ref a:=rx;exact yV I1 ea c n l fun u' s2 I2 ru=>⟨v,H1,I2,ru,q⟩
theorem uO(ha:PE X o ta)(hv:PE X value tv)(hs:swapsWith value (some (.Attribute o f oX)) pos.line X.env=pure false):PS X (.Assign [.Attribute o f oX] value pos) (UE X.K ta tv f):=by
 intro ae s σ H D I h;refine plainObj_wpAny_Assign_Attribute (cm (hv ae s σ H _ I h) fun u s1 ⟨y,H1,I1,ry,q⟩=>cm (ha ae s1 σ H1 _ I1 q) fun ov s2 ⟨x,H2,I2,rx,a,C,dx,fs,ex,ea,c,n,l,q2⟩=>?_) hs;subst ex;obtain rfl:ov=Value.ref a:=rx;exact yX I2 ea c n l ry fun s3 I3=>⟨σ,_,I3,q2⟩
end
section
variable {X:Cx} {ae:List (Addr×Obj)} {σ:St} {H:Hp} {s:Shared} {A:Around} {E:Value->Shared->Prop} {Q:Value->Shared->Prop} {c:Value} {b:Bool}
inductive nQ (K:PySem.W.Frag) (H:Hp):V->Value->Prop where
 |bJ:nQ K H .bJ (.type "NoneType")
 |bl (x:Bool):nQ K H (.bl x) (.type "bool")
 |int (i:Int):nQ K H (.int i) (.type "int")
 |str (x:Str):nQ K H (.str x) (.type "str")
 |JO (x:UInt64):nQ K H (.JO x) (.type "float")
 |lst {a:Addr} {xs:List V} (e:H a=some (.lst xs)):nQ K H (.ref a) (.type "list")
 |iR {a:Addr} {o:Obj} {xs:List V} (e:H a=some (.iR o (.lst xs))):nQ K H (.ref a) (.type "list")
 |tup {a:Addr} {xs:List V} (e:H a=some (.tup xs)):nQ K H (.ref a) (.type "tuple")
 |dK {a:Addr} {kvs:List (dz×V)} (e:H a=some (.dK kvs)):nQ K H (.ref a) (.type "dict")
 |dT {a:Addr} {kvs:List (List dz×V)} (e:H a=some (.dT kvs)):nQ K H (.ref a) (.type "dict")
 |ins {a C dx:Addr} {fs:List (Str×V)} (e:H a=some (.ins C dx fs)) (cl:Gj K C) (ha:PySem.W.findIn K (.ref C) "__class__"=some (some (.builtin "object.__class__")))
   (hn:PySem.W.specialIn K (.builtin "object.__class__") "__get__"=some (some (.builtin "getset_descriptor.__get__"))) (UF:PySem.W.takesIn K (.builtin "object.__class__")=some true)
   (hm:PySem.W.mroIn K C (.type "object")=some true):nQ K H (.ref a) (.ref C)
theorem BJ(I:aP X ae σ H s)(rx:bi x u)(ty:nQ X.K H x t)(e:PySem.W.kitOne X.K t c=some b)(h:∀tk,Q (.bool b) { s with toks:=tk }):
  wpAny (model X.prog X.w) A (call (.builtin "isinstance") [u,c]) Q E s:=by
 cases ty with
 |bJ=>cases (show u=Value.none from rx);exact jv PySem.W.kitx_none I.nG True.intro e (fun z=>nomatch z) h
 |bl y=>cases (show u=Value.bool y from rx);exact jv PySem.W.kitx_bool I.nG True.intro e (fun z=>nomatch z) h
 |int i=>obtain⟨t,q⟩:=(show ∃t,u=Value.int i t from rx);cases q;exact jv PySem.W.kitx_int I.nG True.intro e (fun z=>nomatch z) h
 |str y=>obtain⟨t,q⟩:=(show ∃t,u=Value.str y t from rx);cases q;exact jv PySem.W.kitx_str I.nG True.intro e (fun z=>nomatch z) h
 |JO y=>obtain⟨t,q⟩:=(show ∃t,u=Value.float y t from rx);cases q;exact jv PySem.W.kitx_float I.nG True.intro e (fun z=>nomatch z) h
 |@lst a xs ea=>
  cases (show u=Value.ref a from rx);obtain⟨_,_,n,_,h1⟩:=(show bS X.prog X.w H s.heap a (.lst xs) from I.bE a _ ea)
  exact jv PySem.W.kitx_list I.nG ⟨_,h1,rfl⟩ e (fun z=>nomatch z) h
 |@iR a ob xs ea=>
  cases (show u=Value.ref a from rx);obtain⟨_,_,_,n,_,h1⟩:=(show bS X.prog X.w H s.heap a (.iR ob (.lst xs)) from I.bE a _ ea)
  exact jv PySem.W.kitx_list I.nG ⟨_,h1,rfl⟩ e (fun z=>nomatch z) h
 |@tup a xs ea=>
  cases (show u=Value.ref a from rx);obtain⟨_,_,_,p⟩:=(show bS X.prog X.w H s.heap a (.tup xs) from I.bE a _ ea)
  obtain⟨o,h1,h2,_⟩:=p;exact jv PySem.W.kitx_tuple I.nG ⟨o,h1,h2⟩ e (fun z=>nomatch z) h
 |@dK a kvs ea=>
  cases (show u=Value.ref a from rx);obtain⟨_,_,vs,_,p⟩:=(show bS X.prog X.w H s.heap a (.dK kvs) from I.bE a _ ea)
  obtain⟨o,es,ep,h1,h2,_⟩:=p;exact jv PySem.W.kitx_dict I.nG ⟨o,h1,h2.1⟩ e (fun z=>nomatch z) h
 |@dT a kvs ea=>
  cases (show u=Value.ref a from rx);obtain⟨_,_,xs,_,o,es,ep,h1,h2,_⟩:=(show bS X.prog X.w H s.heap a (.dT kvs) from I.bE a _ ea)
  exact jv PySem.W.kitx_dict I.nG ⟨o,h1,h2.1⟩ e (fun z=>nomatch z) h
 |@ins a C dx fs ea cl ha hn UF hm=>
  cases (show u=Value.ref a from rx);obtain⟨mA,O,_⟩:=pz I.bE ea;obtain⟨od,J,_⟩:=O.look;exact jv (PySem.W.kitx_own (cl.get _) cl.hd ha hn UF hm) I.nG J e (fun z=>nomatch z) h
end
structure b_(k:Nat)(A:Around):Prop where
 hd:A.handled=none
 dp:A.depth+3*k+5<recursionLimit
 un:A.units+16*k+200<cLine
 gd:A.guards=some []
theorem b_.mono(r:b_ k A)(h:j<=k):b_ j A:=⟨r.hd,by have:=r.dp;lia,by have:=r.un;lia,r.gd⟩
theorem b_.deeper(r:b_ (k+1) A)(env:Env):b_ k (A.deeper env):=
 ⟨r.hd,by have:=r.dp;show A.depth+1+3*k+5<_;lia,by have:=r.un;show A.units+3+16*k+200<_;lia,r.gd⟩
theorem yY{A:Around}{C:Addr}{us:List Value}{kw:List (Str×Value)}:(A.under (.builtin "type.__call__" ⟨.ref C::us,kw⟩)).depth=A.depth+1:=by
 first|rfl|simp[Around.under,Code.weight,Code.isCreation,Code.isGuard,Code.isCaller,Code.frames,Code.isFrame,guardIds]
theorem yZ{A:Around}{C:Addr}{us:List Value}{kw:List (Str×Value)}:(A.under (.builtin "type.__call__" ⟨.ref C::us,kw⟩)).units=A.units+1:=by
 first|rfl|simp[Around.under,Code.cUnits,Code.frames,Code.isFrame]
theorem b_.make(r:b_ (k+1) A)(C:Addr)(us:List Value)(kw:List (Str×Value)):b_ k (A.under (.builtin "type.__call__" ⟨.ref C::us,kw⟩)):=
 ⟨r.hd,by have:=r.dp;rw[yY];lia,by have:=r.un;rw[yZ];lia,r.gd⟩
theorem b_.depth(r:b_ k A):A.depth<recursionLimit:=by have:=r.dp;lia
theorem b_.u(r:b_ k A)(h:n<=200:=by decide):A.units+n<cLine:=by have:=r.un;lia
def jB:TA:=fun _ H Q=>Q [] H
def bT(ta:TE)(tr:TA):TA:=fun σ H Q=>ta σ H fun x H1=>tr σ H1 fun xs H2=>Q (x::xs) H2
section
variable {X:Cx} {e:Expr} {es:List Expr} {te:TE} {t:TA} {pos:Pos}
theorem ag:PA X [] jB:=fun _ _ _ _ H Q I h=>Calls.spliced_nil ⟨[],H,I,.nil,h⟩
theorem aa(ha:PE X e te)(hr:PA X es t)(hs:starEach (e::es) X.env=(false,eval e X.env)::starEach es X.env:=by rfl):PA X (e::es) (bT te t):=by
 intro pos ae s σ H Q I h;rw[hs];show wpAny _ _ (spliced ((false,eval e X.env)::backTo pos (starEach es X.env))) _ _ s;refine Calls.spliced_cons (cm (ha ae s σ H _ I h) fun u s1 ⟨x,H1,I1,r1,q1⟩=>?_);exact cm (hr pos ae s1 σ H1 _ I1 q1) fun us s2 ⟨xs,H2,I2,r2,q2⟩=>⟨x::xs,H2,I2,.cons r1 r2,q2⟩
def y3(t:TA):TE:=fun σ H Q=>t σ H fun xs H1=>xs.length<=sizeLine/\∀p,H1 p=none->Q (.ref p) (upd H1 p (.tup xs))
def Ln(t:TA):TE:=fun σ H Q=>t σ H fun xs H1=>xs.length<=sizeLine/\∀p,H1 p=none->Q (.ref p) (upd H1 p (.lst xs))
theorem fN{x1}(h:PA X es t):PE X (.Tuple es x1 pos) (y3 t):=by
 intro ae s σ H Q I hq;refine wpAny_Tuple_spliced (cm (h pos ae s σ H _ I hq) fun us s1 ⟨xs,H1,I1,r,z,q⟩=>⟨by rw[<-r.length];exact z,?_⟩);have hf:H1 s1.heap.objs.size=none:=I1.bE.fresh (ba _);refine⟨.ref s1.heap.objs.size,upd H1 s1.heap.objs.size (.tup xs),I1.laid (t':=s1.toks) (fun b u e=>cD _ e) (ba _) ?_,rfl,q _ hf⟩;exact⟨z,us,r,⟨_,dh _ rfl,rfl,_,rfl,rfl⟩⟩
theorem dS(h:PA X es t):PE X (.List es pos) (Ln t):=by
 intro ae s σ H Q I hq;refine wpAny_List_spliced (cm (h pos ae s σ H _ I hq) fun us s1 ⟨xs,H1,I1,r,z,q⟩=>⟨by rw[<-r.length];exact z,?_⟩);have hf:H1 s1.heap.objs.size=none:=I1.bE.fresh (ba _);refine⟨.ref s1.heap.objs.size,upd H1 s1.heap.objs.size (.lst xs),I1.laid (t':=s1.toks) (fun b u e=>cD _ e) (ba _) ?_,rfl,q _ hf⟩;exact⟨z,us,0,r,dh _ rfl⟩
end
abbrev Sp:=List V->Hp->VK->XK->Prop
abbrev wu:=List Env->Hp->Shared->XK->Value->Shared->Prop
structure ww(P:Program)(w:World)(K:PySem.W.Frag)(mg:Str->Option Value)(base:Heap)(A:Around)(outer:List Env)(s:Shared)(H:Hp):Prop where
 frames:A.frames=some outer
 mod:Mod K mg base
 bs:∀b o,base.get? b=some o->s.heap.get? b=some o/\H b=none
 C0:base.objs.size<=s.heap.objs.size
 nF:s.heap.FunFrames base outer
 K6:∀b∈BA outer,H b=none
 bE:i7 P w H s.heap
 bare:AllBare s.gens
def CE(outer:List Env)(P:Program)(w:World)(H:Hp)(s:Shared)(Q:VK)(u:Value)(s':Shared):Prop:=
 ∃v H',s'.os=s.os/\AllBare s'.gens/\Un (BA outer) [] H H' s.heap s'.heap/\i7 P w H' s'.heap/\bi v u/\Q v H'
def CR(CX:wu)(outer:List Env)(P:Program)(w:World)(H:Hp)(s:Shared)(Q:VK)(E:XK)(r:Result)(s':Shared):Prop:=
 match r with
 |.ok (.ret u)=>CE outer P w H s Q u s'
 |.ok _=>False
 |.error e=>CX outer H s E e s'
structure bz(P:Program)(w:World)(K:PySem.W.Frag)(mg:Str->Option Value)(base:Heap)(CX:wu)(k:Nat)(f:Addr)(fd:FuncData)(ps:List Str)(sp:Sp):Prop where
 len:∀vs H Q E,sp vs H Q E->vs.length=ps.length
 run:∀ (A:Around) (outer:List Env) (s:Shared) (H:Hp) (args:Args) (us:List Value) (vs:List V) (Q:VK) (E:XK),b_ k A->ww P w K mg base A outer s H->BindsTo s fd args (ps.zip us)->aX vs us->sp vs H Q E->
  codeAny (model P w) A (.call (.ref f) args) (CR CX outer P w H s Q E) s
theorem ww.make{P:Program}{w:World}{K:PySem.W.Frag}{mg:Str->Option Value}{base:Heap}{A:Around}{outer:List Env}{s:Shared}{H:Hp}(e:ww P w K mg base A outer s H)(C:Addr)(us:List Value)(kw:List (Str×Value)):
  ww P w K mg base (A.under (.builtin "type.__call__" ⟨.ref C::us,kw⟩)) outer s H:=⟨by first|exact e.frames|(simpa [Around.under,Code.envs,Code.isFrame,pushEnvs] using e.frames),e.mod,e.bs,e.C0,e.nF,e.K6,e.bE,e.bare⟩
section
variable {X:Cx} {ae:List (Addr×Obj)} {σ:St} {H:Hp} {s s':Shared}
theorem aP.Lo(I:aP X ae σ H s):ww X.prog X.w X.K X.mg X.base X.A X.stack s H:=
 ⟨I.ok.frames,I.ok.mod,I.bs,bj I.ok.C0 I.sz,I.stack,I.pi,I.bE,I.bare⟩
theorem aP.after(I:aP X ae σ H s)(h:CE X.stack X.prog X.w H s Q u s'):EP X ae σ Q u s':=by
 obtain⟨v,H',os,bare,un,bE,r,q⟩:=h;obtain⟨hh,g,d,t,os'⟩:=s';obtain rfl:os'=s.os:=os;exact⟨v,H',I.call (h':=hh) (g':=g) (d':=d) (t':=t) (ch:=[]) un bE bare (fun b z=>absurd z (by simp)),r,q⟩
end
def qB(sp:Sp)(rK:List V)(E:XK)(t:TA):TE:=fun σ H Q=>t σ H fun vs H1=>sp (vs++rK) H1 Q E
def Ph(C:Addr)(m:Str)(sp:Sp)(rK:List V)(E:XK)(ta:TE)(t:TA):TE:=fun σ H Q=>ta σ H fun x H1=>∃a dx fs,x=.ref a/\H1 a=some (.ins C dx fs)/\fs.lookup m=none/\
 t σ H1 fun vs H2=>sp (x::(vs++rK)) H2 Q E
def Pi(C:Addr)(sp:Sp)(rK:List V)(E:XK)(t:TA):TE:=fun σ H Q=>t σ H fun vs H1=>∀x dx,H1 x=none->H1 dx=none->dx≠x->
 sp (.ref x::(vs++rK)) (upd (upd H1 dx (.own x)) x (.ins C dx [])) (fun v H2=>v=.bJ/\Q (.ref x) H2) E
def j4(K:PySem.W.Frag)(fd:FuncData)(ps:List Str)(ds:List Value):Prop:=
 ∀ (s:Shared) (us:List Value),K.In s.heap->(us++ds).length=ps.length->BindsTo s fd ⟨us,[]⟩ (ps.zip (us++ds))
theorem j4.all{K:PySem.W.Frag}{fd:FuncData}{ps:List Str}(h:∀us:List Value,us.length=ps.length->bindArgs fd ⟨us,[]⟩=pure (ps.zip us)):j4 K fd ps []:=fun s us _ hl=>by
 rw[nu] at hl |-;exact .of_eq (h us hl)
def l4(CX:wu)(X:Cx)(E:XK):Prop:=∀ (ae:List (Addr×Obj)) (σ:St) (H:Hp) (s:Shared) (e:Value) (s':Shared),aP X ae σ H s->CX X.stack H s E e s'->X.xe e s'
section
variable {X:Cx} {CX:wu} {k:Nat} {f C:Addr} {fd:FuncData} {ps:List Str} {sp:Sp} {rK:List V} {ds:List Value} {E:XK} {x m:Str} {p pos uP:Pos} {e o:Expr} {es:List Expr} {ta:TE} {t:TA}
theorem DD(F:bz X.prog X.w X.K X.mg X.base CX k f fd ps sp)(hr:b_ k X.A)(hb:j4 X.K fd ps ds)(hd:aX rK ds)(hx:l4 CX X E)(I:aP X ae σ H s)(r:aX vs us)(h:sp (vs++rK) H Q E):wpAny (model X.prog X.w) X.A (call (.ref f) us) (EP X ae σ Q) X.xe s:=by
 have r2:aX (vs++rK) (us++ds):=r.append hd;have hl:(us++ds).length=ps.length:=by rw[<-r2.length];exact F.len _ _ _ _ h
 refine ny (lT (F.run X.A X.stack s H ⟨us,[]⟩ (us++ds) (vs++rK) Q E hr I.Lo (hb s us I.nG hl) r2 h) fun r s' hq=>?_);cases r with
 |error e=>exact hx ae σ H s e s' I hq
 |ok fl=>
  cases fl with
  |ret u=>exact I.after hq
  |next=>exact False.elim hq
  |brk=>exact False.elim hq
  |cont=>exact False.elim hq
theorem GV(F:bz X.prog X.w X.K X.mg X.base CX k f fd ps sp)(hr:b_ k X.A)(hg:Gl X x)(hm:X.mg x=some (.ref f))(hk:PySem.W.keepIn X.K (.ref f)=true)(hb:j4 X.K fd ps ds)(hd:aX rK ds)(hx:l4 CX X E)(ha:PA X (e::es) t)(BK:(x==("__debug__":Str))=false:=by decide)(he:starEach (e::es) X.env=(false,eval e X.env)::starEach es X.env:=by rfl)(xO:(backTo pos (starEach es X.env)).any (·.1)=false:=by rfl):
  PE X (.Call (.Name x p) (e::es) [] pos) (qB sp rK E t):=by
 intro ae s σ H Q I h;refine lI (pj I hg hm ?_ BK);refine ur (h₀:=X.base) I.ok.mod.Oj hk (cm (ha pos ae s σ H _ I h) fun us s1 ⟨vs,H1,I1,r,q⟩=>⟨I1.nG,?_⟩) he xO;exact DD F hr hb hd hx I1 r q
theorem ja(he:PE X o ta)(c:Gj X.K C)(hm:Lk X.K C m f)(F:bz X.prog X.w X.K X.mg X.base CX k f fd ps sp)(hr:b_ k X.A)(hb:j4 X.K fd ps ds)(hd:aX rK ds)(hx:l4 CX X E)(ha:PA X (e::es) t)(nI:starEach (e::es) X.env=(false,eval e X.env)::starEach es X.env:=by rfl)(xO:(backTo pos (starEach es X.env)).any (·.1)=false:=by rfl)(ht:eval (.Call (.Attribute o m uP) (e::es) [] pos) X.env=(do
   let ov <- eval o X.env
   standAt uP.atName
   let (f,first) <- holding [ov] (getMethod ov m pl)
   callWith pos f first (backTo pos (starEach (e::es) X.env)) (backToKw pos (keywordEach [] X.env))):=by rfl):
  PE X (.Call (.Attribute o m uP) (e::es) [] pos) (Ph C m sp rK E ta t):=by
 intro ae s σ H Q I h;refine PySem.W.methodCall_KW (pl:=pl) (cm (he ae s σ H _ I h) fun u s1 ⟨x,H1,I1,rx,a,dx,fs,ex,ea,l,q⟩=>?_) ht;subst ex;obtain rfl:u=Value.ref a:=rx;refine yW I1 ea c hm l ?_;refine ur (first:=[.ref a]) (h₀:=X.base) I.ok.mod.Oj hm.kp (cm (ha pos ae s1 σ H1 _ I1 q) fun us s2 ⟨vs,H2,I2,r,q2⟩=>⟨I2.nG,?_⟩) nI xO;exact DD (us:=.ref a::us) (vs:=.ref a::vs) F hr hb hd hx I2 (.cons rfl r) q2
structure Mk(K:PySem.W.Frag)(C f:Addr):Prop where
 makes:PySem.W.makesIn K C=true
 init:PySem.W.findIn K (.ref C) "__init__"=some (some (.ref f))
 fn:PySem.W.isFn K (.ref f)=true
 kp:PySem.W.keepIn K (.ref C)=true
theorem DE(M:Mk X.K C f)(F:bz X.prog X.w X.K X.mg X.base CX k f fd ps sp)(hr:b_ (k+1) X.A)(hb:j4 X.K fd ps ds)(hd:aX rK ds)(hx:l4 CX X E)(I:aP X ae σ H s)(r:aX vs us)(h:∀x dx,H x=none->H dx=none->dx≠x->sp (.ref x::(vs++rK)) (upd (upd H dx (.own x)) x (.ins C dx [])) (fun v H2=>v=.bJ/\Q (.ref x) H2) E):
  wpAny (model X.prog X.w) X.A (call (.ref C) us) (EP X ae σ Q) X.xe s:=by
 have hq:=h (s.heap.objs.size+1) s.heap.objs.size (I.bE.fresh (Nat.le_succ _)) (I.bE.fresh (ba _)) (aZ (jK _));have I2:=aP.made (C:=C) I;have r2:aX (V.ref (s.heap.objs.size+1)::(vs++rK)) (Value.ref (s.heap.objs.size+1)::(us++ds)):=.cons rfl (r.append hd);have hl:(Value.ref (s.heap.objs.size+1)::us++ds).length=ps.length:=by
  have e:=r2.length;rw[F.len _ _ _ _ hq] at e;exact e.symm
 refine ny (DC (f:=f) I.nG M.makes M.init (gu.mp M.fn) (lT (F.run _ X.stack _ _ ⟨Value.ref (s.heap.objs.size+1)::us,[]⟩ (Value.ref (s.heap.objs.size+1)::(us++ds)) _ _ E (hr.make C us [])
  (I2.Lo.make C us []) (hb _ (Value.ref (s.heap.objs.size+1)::us) I2.nG hl) r2 hq) fun r s' GW=>?_))
 cases r with
 |error e=>exact hx ae σ _ _ e s' I2 GW
 |ok fl=>
  cases fl with
  |ret u=>
   obtain⟨v,H',I3,rv,ev,q3⟩:=I2.after GW;subst ev;exact⟨rv,⟨V.ref (s.heap.objs.size+1),H',I3,rfl,q3⟩⟩
  |next=>exact False.elim GW
  |brk=>exact False.elim GW
  |cont=>exact False.elim GW
theorem GX(M:Mk X.K C f)(F:bz X.prog X.w X.K X.mg X.base CX k f fd ps sp)(hr:b_ (k+1) X.A)(hg:Gl X x)(hm:X.mg x=some (.ref C))(hb:j4 X.K fd ps ds)(hd:aX rK ds)(hx:l4 CX X E)(ha:PA X (e::es) t)(BK:(x==("__debug__":Str))=false:=by decide)(he:starEach (e::es) X.env=(false,eval e X.env)::starEach es X.env:=by rfl)(xO:(backTo pos (starEach es X.env)).any (·.1)=false:=by rfl):
  PE X (.Call (.Name x p) (e::es) [] pos) (Pi C sp rK E t):=by
 intro ae s σ H Q I h;refine lI (pj I hg hm ?_ BK);refine ur (h₀:=X.base) I.ok.mod.Oj M.kp (cm (ha pos ae s σ H _ I h) fun us s1 ⟨vs,H1,I1,r,q⟩=>⟨I1.nG,?_⟩) he xO;exact DE M F hr hb hd hx I1 r q
end
def PK(X:Cx)(DG:List Keyword)(t:TA):Prop:=
 ∀ (pos:Pos) (ae:List (Addr×Obj)) (s:Shared) (σ:St) (H:Hp) (Q:List V->Hp->Prop),aP X ae σ H s->t σ H Q->wpAny (model X.prog X.w) X.A (evalAll ((backToKw pos (keywordEach DG X.env)).map (·.2))) (AP X ae σ Q) X.xe s
section
variable {X:Cx} {CX:wu} {k:Nat} {f C:Addr} {fd:FuncData} {ps ks:List Str} {sp:Sp} {E:XK} {x m:Str} {p pos uP UG:Pos} {e o:Expr} {es:List Expr} {DG:List Keyword} {te ta:TE} {t tk:TA} {nm:Option Str}
theorem Lq:PK X [] jB:=fun _ _ _ _ H Q I h=>wpAny_evalAll_nil ⟨[],H,I,.nil,h⟩
theorem GY(ha:PE X e te)(hr:PK X DG t):PK X (⟨nm,e,UG⟩::DG) (bT te t):=by
 intro pos ae s σ H Q I h;show wpAny _ _ (evalAll ((do let v <- eval e X.env;standAt pos;pure v)::(backToKw pos (keywordEach DG X.env)).map (·.2))) _ _ s;refine wpAny_evalAll_cons (aJ (cm (ha ae s σ H _ I h) fun u s1 ⟨x,H1,I1,r1,q1⟩=>aJ (qo (wpAny_pure ?_))));exact cm (hr pos ae s1 σ H1 _ I1 q1) fun us s2 ⟨xs,H2,I2,r2,q2⟩=>⟨x::xs,H2,I2,.cons r1 r2,q2⟩
variable {g:List Value->List Value->List Value} {gV:List V->List V->List V}
end
structure aI(N P:List Str)(sc:Scope):Prop where
 kind:sc.kind=.function
 co:sc.isCoroutine=false
 gen:sc.isGenerator=false
 nd:N.Nodup
 pre:N.take P.length=P
 par:∀x∈P,sc.names.lookup x=some .local\/sc.names.lookup x=some .cell
 Lr:∀y∈sc.names,y.2≠.free
theorem sJ{kindOf:Str->Option NameKind}{x:Str}:∀ {binds:List (Str×Value)} {m:Str->Option Value},(∀v,(x,v)∉binds)->bindL kindOf binds m x=m x
 |[],_,_=>rfl
 |(n,v)::r,m,h=>by
  unfold bindL;rw[sJ fun w hw=>h w (cy _ hw)];split
  .have:x≠n:=by rintro rfl;exact h v cq
   simp[this]
  .rfl
theorem sK{kindOf:Str->Option NameKind}{x:Str}:∀ {binds:List (Str×Value)} {m:Str->Option Value},(∀v,(x,v)∉binds)->bindC kindOf binds m x=m x
 |[],_,_=>rfl
 |(n,v)::r,m,h=>by
  unfold bindC;rw[sK fun w hw=>h w (cy _ hw)];split
  .rfl
  .have:x≠n:=by rintro rfl;exact h v cq
   simp[this]
theorem sL{kindOf:Str->Option NameKind}{x:Str}{v:Value}:∀ {P:List Str} {vs:List Value} {i:Nat} {m:Str->Option Value},P.Nodup->P[i]?=some x->vs[i]?=some v->kindOf x=some .local->
  bindL kindOf (P.zip vs) m x=some v
 |[],_,_,_,_,h,_,_=>by simp at h
 |_::_,[],_,_,_,_,h,_=>by simp at h
 |p::P,w::vs,0,m,nd,h1,h2,hk=>by
  simp at h1 h2;subst h1;subst h2;show bindL kindOf ((p,w)::P.zip vs) m p=_;unfold bindL;rw[sJ fun v hv=>(dq.mp nd).1 (nq hv).1,ao hk];simp
 |p::P,w::vs,i+1,m,nd,h1,h2,hk=>by
  show bindL kindOf ((p,w)::P.zip vs) m x=_;unfold bindL;exact sL (i:=i) (dq.mp nd).2 (by simpa using h1) (by simpa using h2) hk
theorem sP{kindOf:Str->Option NameKind}{x:Str}{v:Value}:∀ {P:List Str} {vs:List Value} {i:Nat} {m:Str->Option Value},P.Nodup->P[i]?=some x->vs[i]?=some v->kindOf x≠some .local->
  bindC kindOf (P.zip vs) m x=some v
 |[],_,_,_,_,h,_,_=>by simp at h
 |_::_,[],_,_,_,_,h,_=>by simp at h
 |p::P,w::vs,0,m,nd,h1,h2,hk=>by
  simp at h1 h2;subst h1;subst h2;show bindC kindOf ((p,w)::P.zip vs) m p=_;unfold bindC;rw[sK fun v hv=>(dq.mp nd).1 (nq hv).1,ap hk];simp
 |p::P,w::vs,i+1,m,nd,h1,h2,hk=>by
  show bindC kindOf ((p,w)::P.zip vs) m x=_;unfold bindC;exact sP (i:=i) (dq.mp nd).2 (by simpa using h1) (by simpa using h2) hk
def start(N:List Str)(vs:List V):St:=vs.map some++List.replicate (N.length-vs.length) none
def uQ(CX:wu)(P:Program)(w:World)(K:PySem.W.Frag)(mg:Str->Option Value)(base:Heap)(N:List Str)(qual:Str)(scope:Scope)(f:Addr)(cd:Value)(A:Around)(outer:List Env)(s:Shared)(H:Hp)(E:XK):Cx where
 prog:=P
 w:=w
 K:=K
 mg:=mg
 base:=base
 A:=A.deeper (envOfC qual scope s.heap.objs.size f cd)
 N:=N
 s₀:=s
 H₀:=H
 env:=envOfC qual scope s.heap.objs.size f cd
 outer:=outer
 stack:=envOfC qual scope s.heap.objs.size f cd::outer
 ex:=[]
 calm:=true
 fn:=fun _=>true
 pn:=[]
 xe:=fun e s'=>wpAny (model P w) (A.deeper (envOfC qual scope s.heap.objs.size f cd)) (leaving (envOfC qual scope s.heap.objs.size f cd) e) (fun _ Pj=>CX outer H s E e Pj) (fun e' Pj=>CX outer H s E e' Pj) s'
theorem wx{sc:Scope}{n:Nat}{x:Str}(h:sc.names.lookup x=some .cell):∃c,(cellsFrom n sc.names []).lookup x=some c:=by
 have q:=PySem.W.cellsFrom_some sc.names n [] (.inl h);exact pU.mp q
theorem BM{CX:wu}{P:Program}{w:World}{K:PySem.W.Frag}{mg:Str->Option Value}{base:Heap}{N ps:List Str}{qual:Str}{scope:Scope}{f:Addr}{cd:Value}{A:Around}{outer:List Env}{s s1:Shared}{H:Hp}{E:XK}{us:List Value}{vs:List V}(S:aI N ps scope)(hd:A.handled=none)(e0:ww P w K mg base A outer s H)(hl:vs.length=ps.length)(r:aX vs us)(x:InCallC s s.heap.objs.size (bindL (envOfC qual scope s.heap.objs.size f cd).kindOf (ps.zip us) fun _=>none) (cellsFrom (s.heap.objs.size+1) scope.names []) (bindC (envOfC qual scope s.heap.objs.size f cd).kindOf (ps.zip us) fun _=>none) s1):
  aP (uQ CX P w K mg base N qual scope f cd A outer s H E) [] (start N vs) H s1:=by
 have xO:ps.length<=N.length:=by have:=congrArg List.length S.pre;rw[iG] at this;lia
 obtain⟨h1,tk,rfl,hk⟩:=x.done;have On:∀b:Addr,b∉(uQ CX P w K mg base N qual scope f cd A outer s H E).ex:=fun b z=>absurd (show b∈([]:List Addr) from z) (by simp);refine⟨⟨e0.mod,S.kind,rfl,rfl,ba _,fun y z c h1 h2=>?_,fun y hy=>?_,fun y c _ h=>?_,fun _=>hd,Around.frames_deeper e0.frames,.inr ⟨rfl,rfl⟩,fun b z=>absurd z (On b),e0.bs,e0.C0,fun b _ _=>On b,fun b z=>absurd z (On b),e0.nF,e0.K6⟩,
  rfl,e0.bare,Un.kept hk,⟨_,x.toInCall.ns,fun i y v h1 h2 h3=>?_⟩,fun y c h=>⟨_,x.cell y c h⟩,e0.bE.fresh (ba _),fun y c h=>?_,fun p hp=>absurd (show p∈([]:List (Addr×Obj)) from hp) (by simp),e0.bE.kept hk,?_⟩
 .exact name_of_addr x.apart (jH h1) (jH h2)
 .have hy:scope.names.lookup y=some .cell\/scope.names.lookup y=some .free:=hy;rcases hy with hy|hy
  .exact wx hy
  .exact absurd rfl (S.Lr _ (jH hy))
 .exact d_ (x.above y c (jH h))
 .have hi:i<vs.length:=by
   unfold start at h2;by_cases hi:i<vs.length
   .exact hi
   .rw[oz (by simpa using hi)] at h2;rw[xZ] at h2;split at h2 <;> cases h2
  have ha:vs[i]?=some v:=by
   unfold start at h2;rw[iC (by simpa using hi),bq] at h2;cases e:vs[i]? with
   |none=>rw[e] at h2;cases h2
   |some a=>rw[e] at h2;cases h2;rfl
  obtain⟨u,hu,rv⟩:=r.get ha;have hp:ps[i]?=some y:=by
   rw[<-S.pre,xX (by lia)];exact h1
  have Yl:ps.Nodup:=by rw[<-S.pre];exact S.nd.sublist (yw _ _)
  refine⟨u,rv,?_⟩;rcases S.par y (dW hp) with k|k
  .exact .inl ⟨k,sL Yl hp hu k⟩
  .obtain⟨c,e⟩:=wx (n:=s.heap.objs.size+1) k;refine .inr ⟨.inl k,c,e,?_⟩;have q:=x.cell y c e;rw[sP Yl hp hu (by show scope.names.lookup y≠_;rw[k];decide)] at q;exact q
 .exact e0.bE.fresh (d_ (x.above y c (jH h)))
 .unfold start;show _=N.length;rw[cr,aG,pR];lia
theorem J1{CX:wu}{P:Program}{w:World}{K:PySem.W.Frag}{mg:Str->Option Value}{base:Heap}{k:Nat}{f:Addr}{name qual:Str}{params:Arguments}{body:List Stmt}{scope:Scope}{dV kV mH pm dQ ct oc:Value}{an od:Option Addr}{xP:Array (Option Value)}{N ps:List Str}{sp:Sp}(lk:K.lookup f=some ⟨oc,od,.func (PySem.W.fnOf name qual params body scope dV kV mH pm an dQ ct),xP⟩)(sB:PySem.W.codeIn K dQ qual=true)(S:aI N ps scope)(len:∀vs H Q E,sp vs H Q E->vs.length=ps.length)(wy:∀ (A:Around) (outer:List Env) (s:Shared) (H:Hp) (vs:List V) (Q:VK) (E:XK),b_ k (A.deeper (envOfC qual scope s.heap.objs.size f dQ))->sp vs H Q E->
   ∃t,yM (uQ CX P w K mg base N qual scope f dQ A outer s H E) body t/\t { nx:=fun _ H'=>Q .bJ H',rt:=Q } (start N vs) H):
  bz P w K mg base CX (k+1) f (PySem.W.fnOf name qual params body scope dV kV mH pm an dQ ct) ps sp:=by
 refine⟨len,fun A outer s H args us vs Q E hr e0 hb r Gk=>?_⟩;have hl:=len _ _ _ _ Gk;have KX:K.In s.heap:=e0.mod.Oj.keeps fun b o e=>(e0.bs b o e).1;have lim:s.heap.NoLimit:=e0.mod.nolimit.keeps fun b o e=>(e0.bs b o e).1;have Pk:∀y∈ps.zip us,scope.names.lookup y.1=some .local\/(scope.names.lookup y.1=some .cell/\((cellsFrom (s.heap.objs.size+1) scope.names []).lookup y.1).isSome=true):=fun ⟨n,v⟩ hy=>by
  rcases S.par n (nq hy).1 with q|q
  .exact .inl q
  .exact .inr ⟨q,PySem.W.cellsFrom_some _ _ _ (.inl q)⟩
 refine codeAny_call_function hr.depth (KX _ _ lk) rfl S.co S.gen rfl (PySem.W.codeRec_of KX sB) (hb _ _ _ _ ?_);refine wpAny_newFunctionEnv_cells S.kind Pk fun env he s1 x=>?_;subst he;refine⟨lim.keeps x.toInCall.keep,codeAny_func ?_⟩;obtain⟨t,ht,hq⟩:=wy A outer s H vs Q E (hr.deeper _) Gk;have I:aP (uQ CX P w K mg base N qual scope f dQ A outer s H E) [] (start N vs) H s1:=BM S hr.hd e0 hl r x;refine ir (ht [] s1 (start N vs) H _ I hq) (fun fl s' hs=>?_) fun e s' hs=>hs;have fin:∀ {σ':St} {H':Hp} {v:V} {u:Value},aP (uQ CX P w K mg base N qual scope f dQ A outer s H E) [] σ' H' s'->bi v u->Q v H'->CE outer P w H s Q u s':=
  fun {σ' H' v u} J rv q=>⟨v,H',J.os,J.bare,J.base,J.bE,rv,q⟩
 cases fl with
 |ret u=>
  obtain⟨v,σ',H',J,rv,q⟩:=hs;exact fin J rv q
 |next=>
  obtain⟨σ',H',J,q⟩:=hs;exact fin (v:=V.bJ) (u:=Value.none) J rfl q
 |brk=>
  obtain⟨_,_,_,q⟩:=hs;exact False.elim q
 |cont=>
  obtain⟨_,_,_,q⟩:=hs;exact False.elim q
section
variable {X:Cx} {x:Str} {p pos:Pos} {e:Expr} {es:List Expr} {t:TA} {id T:String} {r:List V->Hp->VK->Prop}
def Pl(r:List V->Hp->VK->Prop)(t:TA):TE:=fun σ H Q=>t σ H fun vs H1=>r vs H1 Q
theorem au(hc:eU X (.builtin id) r)(hg:Gl X x)(hm:X.mg x=none)(hv:bootBuiltins x=some (.builtin id))(ha:PA X (e::es) t)(hn:x≠"__name__":=by decide)(BK:(x==("__debug__":Str))=false:=by decide)(he:starEach (e::es) X.env=(false,eval e X.env)::starEach es X.env:=by rfl)(xO:(backTo pos (starEach es X.env)).any (·.1)=false:=by rfl):PE X (.Call (.Name x p) (e::es) [] pos) (Pl r t):=by
 intro ae s σ H Q I h;refine lI (jV I hg hm hv ?_ hn BK);exact PyProof.Rows.callWith_builtin1 (cm (ha pos ae s σ H _ I h) fun us s1 ⟨vs,H1,I1,r1,q1⟩=>hc ae s1 σ H1 vs us Q I1 r1 q1) he xO
theorem cV(hc:eU X (.type T) r)(hg:Gl X x)(hm:X.mg x=none)(hv:bootBuiltins x=some (.type T))(ha:PA X (e::es) t)(hn:x≠"__name__":=by decide)(BK:(x==("__debug__":Str))=false:=by decide)(he:starEach (e::es) X.env=(false,eval e X.env)::starEach es X.env:=by rfl)(xO:(backTo pos (starEach es X.env)).any (·.1)=false:=by rfl):PE X (.Call (.Name x p) (e::es) [] pos) (Pl r t):=by
 intro ae s σ H Q I h;refine lI (jV I hg hm hv ?_ hn BK);exact pS (cm (ha pos ae s σ H _ I h) fun us s1 ⟨vs,H1,I1,r1,q1⟩=>hc ae s1 σ H1 vs us Q I1 r1 q1) he xO
end
end L2
namespace HT
open PySem PyProof.Rows
section
open PySem.SeqAt
open PySem.AutoSeq1 (wpAny_loadPart')
open PySem.MeetsSeq PySem.MeetsSeq2 PySem.MeetsSeq3
end
section
variable {prog:Program} {w:World} {A:Around} {E:Value->Shared->Prop} {s:Shared}
def rW(n d:Nat):Option Int->Nat
 |none=>d
 |some v=>if v<0 then (v+(n:Int)).toNat else min v.toNat n
end
end HT
namespace L2
open PySem PySem.Spec PyProof.Rows
abbrev TO:=St->Hp->(Option Int->Hp->Prop)->Prop
def PO(X:Cx)(e:Option Expr)(t:TO):Prop:=
 ∀ (ae:List (Addr×Obj)) (s:Shared) (σ:St) (H:Hp) (Q:Option Int->Hp->Prop),aP X ae σ H s->t σ H Q->
  wpAny (model X.prog X.w) X.A (evalPart e X.env) (fun u s'=>∃o H',aP X ae σ H' s'/\IsPart u o/\Q o H') X.xe s
def GZ:TO:=fun _ H Q=>Q none H
def Pm(t:TE):TO:=fun σ H Q=>t σ H fun x H1=>∃i,x=.int i/\Q (some i) H1
theorem y4{ns:List Int}:∀ {us:List Value},aX (ns.map V.int) us->IntsAre us ns:=by
 induction ns with
 |nil=>intro us r;rw[lS] at r;cases r;exact .nil
 |cons n ns ih=>
  intro us r;rw[cQ] at r;cases r with
  |cons r1 r2=>
   obtain⟨t,e⟩:=r1;subst e;exact .cons n t (ih r2)
section
variable {X:Cx} {e:Expr} {te:TE} {lo hi:Option Expr} {tl th:TO} {pos p2:Pos}
theorem uR:PO X none GZ:=by
 intro ae s σ H Q I h;rw[evalPart_none];exact wpAny_pure ⟨none,H,I,.none,h⟩
theorem uS(h:PE X e te):PO X (some e) (Pm te):=by
 intro ae s σ H Q I hw;rw[evalPart_some];refine cm (h ae s σ H _ I hw) fun u s1 ⟨x,H1,I1,r1,q1⟩=>?_;obtain⟨i,rfl,q⟩:=q1;obtain⟨t,rfl⟩:=r1;exact⟨some i,H1,I1,.int i t,q⟩
def Ym(X:Cx)(r:V->Option Int->Option Int->Hp->VK->Prop):Prop:=
 ∀ (ae:List (Addr×Obj)) (s:Shared) (σ:St) (H:Hp) (x:V) (v vl vu:Value) (lo hi:Option Int) (sl:Addr) (Q:VK),aP X ae σ H s->bi x v->s.heap.IsSliceOf sl vl vu .none->IsPart vl lo->IsPart vu hi->r x lo hi H Q->
  ∃T id,typeLookup (.type T) "__getitem__"=pure (some (.builtin id))/\s.TypeIs v T/\wpAny (model X.prog X.w) X.A (getItem v (.ref sl)) (EP X ae σ Q) X.xe s
def tSl(r:V->Option Int->Option Int->Hp->VK->Prop)(te:TE)(tl th:TO):TE:=fun σ H Q=>te σ H fun x H1=>tl σ H1 fun l H2=>th σ H2 fun u H3=>r x l u H3 Q
theorem qC(hr:Ym X r)(he:PE X e te)(hl:PO X lo tl)(hu:PO X hi th):PE X (.Subscript e (.Slice lo hi none p2) pos) (tSl r te tl th):=by
 intro ae s σ H Q I h;refine Subscript_ (cm (he ae s σ H _ I h) fun v s1 ⟨x,H1,I1,r1,q1⟩=>?_);refine wpAny_Slice (cm (hl ae s1 σ H1 _ I1 q1) fun vl s2 ⟨l,H2,I2,pl,q2⟩=>cm (hu ae s2 σ H2 _ I2 q2) fun vu s3 ⟨u,H3,I3,pu,q3⟩=>?_);rw[evalPart_none];refine wpAny_pure ?_;have I4:aP X ae σ H3 { s3 with heap:=s3.heap.push { cls:=.type "slice",data:=.fields #[vl,vu,.none] } }:=I3.kept (t':=s3.toks) fun b ob q=>cD _ q;obtain⟨T,id,hT,ht,hg⟩:=hr ae { s3 with heap:=s3.heap.push { cls:=.type "slice",data:=.fields #[vl,vu,.none] } } σ H3 x v vl vu l u s3.heap.objs.size Q I4 r1 (Heap.IsSliceOf.new ..) pl pu q3;show wpAny (model X.prog X.w) X.A (subscriptTail e (.Slice lo hi none p2) v (.ref s3.heap.objs.size)) (EP X ae σ Q) X.xe { s3 with heap:=s3.heap.push { cls:=.type "slice",data:=.fields #[vl,vu,.none] } };exact tail_any (ops:=[.ref s3.heap.objs.size,v]) ht hT hg (by with_unfolding_all rfl)
def wz(xs:List V)(lo hi:Option Int):List V:=(xs.drop (HT.rW xs.length 0 lo)).take (HT.rW xs.length xs.length hi-HT.rW xs.length 0 lo)
theorem wA(xs:List V)(lo hi:Option Int):(wz xs lo hi).length<=xs.length:=by
 unfold wz;rw[iG,yA];lia
end
def DH(n:Nat)(i:Int):Option Nat:=if 0<=i then (if i<n then some i.toNat else none) else if -(n:Int)<=i then some (i+n).toNat else none
def fR{α:Type}(xs:List α)(i:Int):Option α:=(DH xs.length i).bind fun j=>xs[j]?
theorem Aj(h:DH n i=some j):seqIndex? i n=some j/\j<n/\-(n:Int)<=i/\i<n:=by
 unfold DH at h;by_cases h0:0<=i
 .rw[ao h0] at h;by_cases h1:i<n
  .rw[ao h1] at h;have e:i.toNat=j:=aY h;exact⟨by rw[seqIndex_of h0 h1,e],by lia,by lia,h1⟩
  .rw[ap h1] at h;cases h
 .rw[ap h0] at h;by_cases h1:-(n:Int)<=i
  .rw[ao h1] at h;have e:(i+n).toNat=j:=aY h;exact⟨by rw[seqIndex_neg (by lia) h1,e],by lia,h1,by lia⟩
  .rw[ap h1] at h;cases h
theorem Ak(h:fR xs i=some v):∃j,seqIndex? i xs.length=some j/\xs[j]?=some v/\j<xs.length/\-(xs.length:Int)<=i/\i<xs.length:=by
 unfold fR at h;cases e:DH xs.length i with
 |none=>rw[e] at h;cases h
 |some j=>
  rw[e] at h;obtain⟨h1,h2,h3,h4⟩:=Aj e;exact⟨j,h1,h,h2,h3,h4⟩
theorem bO{α:Type}{xs:List α}{j:Nat}{v:α}(h:xs[j]?=some v):fR xs (j:Int)=some v:=by
 have hj:j<xs.length:=(cM.mp h).1;have e:DH xs.length (j:Int)=some j:=by
  unfold DH;rw[ao (by lia),ao (by lia)];simp
 unfold fR;rw[e];exact h
theorem wB(xs:List α)(v:α):fR (xs++[v]) (-1)=some v:=by
 have hl:(xs++[v]).length=xs.length+1:=by simp
 have e:DH (xs++[v]).length (-1)=some xs.length:=by
  unfold DH;rw[hl,ap (by decide),ao (by lia)];congr 1;lia
 unfold fR;rw[e];show (xs++[v])[xs.length]?=some v;simp
def Al(b:Expr):Prop:=∀o i,subscripted b false o i=operate [o,i] (getItem o i)
def UH(X:Cx)(r:R2):Prop:=
 ∀ (value slice:Expr) (ae:List (Addr×Obj)) (s:Shared) (σ:St) (H:Hp) (x y:V) (v u:Value) (Q:VK),aP X ae σ H s->bi x v->bi y u->r x y H Q->
  subscripted slice false v u=operate [v,u] (getItem v u)->wpAny (model X.prog X.w) X.A (subscriptTail value slice v u) (EP X ae σ Q) X.xe s
def MtR(X:Cx)(id:String)(r:V->List V->Hp->VK->Prop):Prop:=
 ∀ (ae:List (Addr×Obj)) (s:Shared) (σ:St) (H:Hp) (x:V) (xs:List V) (v:Value) (us:List Value) (Q:VK),aP X ae σ H s->bi x v->aX xs us->r x xs H Q->
  wpAny (model X.prog X.w) X.A (call (.builtin id) (v::us)) (EP X ae σ Q) X.xe s
section
variable {X:Cx} {a b:Expr} {ta tb:TE} {pos:Pos}
theorem aA(hr:UH X r)(ha:PE X a ta)(hb:PE X b tb)(hs:Al b):PE X (.Subscript a b pos) (mE r ta tb):=by
 intro ae s σ H Q I h;exact Subscript_ (Lf ha hb I h fun v u s2 x y H2 I2 rx ry q=>hr a b ae s2 σ H2 x y v u Q I2 rx ry q (hs _ _))
def BN(K:PySem.W.Frag):R2:=fun x y H Q=>∃p xs i v,x=.ref p/\y=.int i/\aV K H p xs/\fR xs i=some v/\Q v H
def BO(K:PySem.W.Frag):R2:=fun x y H Q=>∃p xs i v,x=.ref p/\y=.int i/\cR K H p xs/\fR xs i=some v/\Q v H
theorem aB:UH X (BN X.K):=by
 intro value slice ae s σ H x y v u Q I rx ry h hs;obtain⟨p,xs,i,z,rfl,rfl,hq,he,q⟩:=h;cases rx;obtain⟨t,rfl⟩:=ry;obtain⟨its,r,pl,hz⟩:=I.list hq;obtain⟨j,h1,h2,h3,h4,h5⟩:=Ak he;obtain⟨w,ew,G0⟩:=r.get h2;have hl:=r.length;have hn:=uN;have fin:EP X ae σ Q w s:=⟨z,H,I,G0,q⟩
 by_cases h0:0<=i
 .have hj:i.toNat=j:=by
   rw[seqIndex_of h0 h5] at h1;exact aY h1
  exact item_listR pl.isList h0 (by lia) (by rw[hj];simpa using ew) fin hs
 .have hj:(i+(its.toArray.size:Int)).toNat=j:=by
   rw[seqIndex_neg (by lia) h4] at h1;rw[cE,<-hl];exact aY h1
  exact subscriptTail_builtinR (x:=w) pl.isList.typeIs slot_list_getitem.lookup
   (wpAny_getItem_list_neg (Q:=fun r s'=>r=w/\EP X ae σ Q r s') pl.isList (by lia) (by rw[cE] <;> lia) (by lia) (by rw[hj];simpa using ew) ⟨rfl,fin⟩) hs
theorem a9:UH X (BO X.K):=by
 intro value slice ae s σ H x y v u Q I rx ry h hs;obtain⟨p,xs,i,z,rfl,rfl,hq,he,q⟩:=h;cases rx;obtain⟨t,rfl⟩:=ry;obtain⟨its,r,pl,hz⟩:=I.tuple hq;obtain⟨j,h1,h2,h3,h4,h5⟩:=Ak he;obtain⟨w,ew,G0⟩:=r.get h2;have hl:=r.length;have hn:=uN;have fin:EP X ae σ Q w s:=⟨z,H,I,G0,q⟩
 exact subscriptTail_builtinR (x:=w) pl.typeIs slot_tuple_getitem.lookup
  (getItem_tuple (j:=j) (Q:=fun r s'=>r=w/\EP X ae σ Q r s') pl (by lia) (by lia) (by rw[cE,<-hl];exact h1) (by simpa using ew) ⟨rfl,fin⟩) hs
theorem y6(its:List Value)(n j:Nat)(u:Value):Obj.mapSeq (·.setIfInBounds j u) { cls:=.type "list",data:=.seq its.toArray n }={ cls:=.type "list",data:=.seq (its.set j u).toArray n }:=by
 simp[Obj.mapSeq]
theorem aP.lst(I:aP X ae σ H s)(h:H p=some (.lst xs)):
  ∃ (its:List Value) (n:Nat),aX xs its/\s.heap.get? p=some { cls:=.type "list",data:=.seq its.toArray n }/\xs.length<=sizeLine:=by
 obtain⟨z,its,n,r,e⟩:=I.bE p _ h;exact⟨its,n,r,e,z⟩
theorem aP.Lu{ae:List (Addr×Obj)}{σ:St}{H:Hp}{s:Shared}{p:Addr}{xs ys:List V}{its its':List Value}{n n':Nat}{f:Obj->Obj}(I:aP X ae σ H s)(h:H p=some (.lst xs))(ho:s.heap.get? p=some { cls:=.type "list",data:=.seq its.toArray n })(hf:f { cls:=.type "list",data:=.seq its.toArray n }={ cls:=.type "list",data:=.seq its'.toArray n' })(r:aX ys its')(hz:ys.length<=sizeLine)(t:Nat):
  aP X ae σ (upd H p (.lst ys)) { s with heap:=s.heap.update p f,toks:=t }:=by
 have e:(s.heap.update p f).get? p=some { cls:=.type "list",data:=.seq its'.toArray n' }:=by
  rw[uq f ho (by rw[hf] <;> rfl),hf]
 refine I.write (x:=p) (e:=p) (by rw[h];trivial) (.inl rfl) (fun b u hb q=>(uj _ _ (Ne.symm hb)).trans q) ⟨_,e⟩ ?_;exact⟨hz,its',n',r,e⟩
def Pn:V->V->V->Hp->(Hp->Prop)->Prop:=fun o i v H Q=>∃p xs k j,o=.ref p/\i=.int k/\H p=some (.lst xs)/\DH xs.length k=some j/\Q (upd H p (.lst (xs.set j v)))
theorem iJ:Pa X Pn:=by
 intro ae s σ H o i v ov iv u Q I ro ri rv h;obtain⟨p,xs,k,j,rfl,rfl,hp,hj,q⟩:=h;cases ro;obtain⟨t,rfl⟩:=ri;obtain⟨its,n,r,ho,hz⟩:=I.lst hp;obtain⟨h1,h2,h3,h4⟩:=Aj hj;have hl:=r.length;have hn:=uN;have I':aP X ae σ (upd H p (.lst (xs.set j v))) { s with heap:=s.heap.update p (Obj.mapSeq (·.setIfInBounds j u)) }:=
  I.Lu hp ho (y6 its n j u) (r.set rv j) (by rw[lM];exact hz) s.toks
 by_cases h0:0<=k
 .have hk:k.toNat=j:=by
   rw[seqIndex_of h0 h4] at h1;exact aY h1
  exact PySem.W.ki_setAt ho h0 (by lia) (by rw[cE,<-hl];exact h4) (by rw[hk];exact⟨_,I',q⟩)
 .have hk:(k+(its.toArray.size:Int)).toNat=j:=by
   rw[seqIndex_neg (by lia) h3] at h1;rw[cE,<-hl];exact aY h1
  exact PySem.W.ki_setBack ho (by lia) (by rw[cE,<-hl];exact h3) (by lia) (by rw[hk];exact⟨_,I',q⟩)
theorem uT(lo hi:Option Int)(n:Nat):(sliceBounds lo hi none n).1=((HT.rW n 0 lo:Nat):Int)/\(sliceBounds lo hi none n).2.1=((HT.rW n n hi:Nat):Int)/\(sliceBounds lo hi none n).2.2=1:=by
 refine⟨?_,?_,rfl⟩
 .cases lo with
  |none=>simp[sliceBounds,HT.rW]
  |some i=>
   simp only[sliceBounds,HT.rW,Option.getD_none,show (1:Int) > 0 by decide,i6];by_cases h:i<0
   .simp only[h,i6] <;> lia
   .simp only[h,fK] <;> lia
 .cases hi with
  |none=>simp[sliceBounds,HT.rW]
  |some i=>
   simp only[sliceBounds,HT.rW,Option.getD_none,show (1:Int) > 0 by decide,i6];by_cases h:i<0
   .simp only[h,i6] <;> lia
   .simp only[h,fK] <;> lia
theorem rX(its:List Value)(lo hi:Option Int):slicePick its.toArray lo hi none=((its.drop (HT.rW its.length 0 lo)).take (HT.rW its.length its.length hi-HT.rW its.length 0 lo)).toArray:=by
 obtain⟨h1,h2,h3⟩:=uT lo hi its.toArray.size;unfold slicePick;rw[h1,h2,h3];simp only[sliceRange_one,pick_run,cE] <;> rfl
def UI(K:PySem.W.Frag):V->Option Int->Option Int->Hp->VK->Prop:=fun x lo hi H Q=>∃a xs,x=.ref a/\aV K H a xs/\∀p,H p=none->Q (.ref p) (upd H p (.lst (wz xs lo hi)))
theorem uU:Ym X (UI X.K):=by
 intro ae s σ H x v vl vu lo hi sl Q I rx hs pl pu h;obtain⟨a,xs,rfl,hx,q⟩:=h;cases rx;obtain⟨its,r,ht,hz⟩:=I.list hx;have eC:=r.length;refine⟨"list",_,slot_list_getitem.lookup,ht.isList.typeIs,?_⟩;refine wpAny_getItem_list_slice ht.isList hs pl pu .none (by simp) ?_ (by rw[cE] <;> lia);rw[rX,<-eC];refine⟨.ref s.heap.objs.size,_,I.laid (t':=s.toks) (o:=.lst (wz xs lo hi)) (fun b ob q=>cD _ q) (ba _) ?_,rfl,q _ (I.bE.fresh (ba _))⟩;exact⟨bj (wA xs lo hi) hz,_,0,(r.drop (HT.rW xs.length 0 lo)).take (HT.rW xs.length xs.length hi-HT.rW xs.length 0 lo),dh _ rfl⟩
def gv:V->Bool
 |.bJ=>true
 |.bl _=>true
 |.int _=>true
 |.str _=>true
 |_=>false
def sQ:V->V->Bool
 |.bJ,.bJ=>true
 |.bl a,.bl b=>a==b
 |.bl a,.int b=>(if a then 1 else 0)==b
 |.int a,.bl b=>a==(if b then 1 else 0)
 |.int a,.int b=>a==b
 |.str a,.str b=>a==b
 |_,_=>false
theorem DI(ry:bi y u)(rx:bi x v)(fy:gv y=true)(fx:gv x=true):SeqAt.EqAt A s u v (sQ y x):=by
 cases y with
 |bJ=>
  cases ry;cases x with
  |bJ=>cases rx;exact SeqAt.EqAt.same _
  |bl b=>cases rx;exact SeqAt.EqAt.none_bool b
  |int b=>obtain⟨t,rfl⟩:=rx;exact SeqAt.EqAt.none_int b t
  |str b=>obtain⟨t,rfl⟩:=rx;exact SeqAt.EqAt.none_str b t
  |_=>exact absurd (show false=true from fx) cz
 |bl a=>
  cases ry;cases x with
  |bJ=>cases rx;exact SeqAt.EqAt.bool_none a
  |bl b=>cases rx;exact SeqAt.EqAt.bool_bool a b
  |int b=>obtain⟨t,rfl⟩:=rx;exact SeqAt.EqAt.bool_int a b t
  |str b=>obtain⟨t,rfl⟩:=rx;exact SeqAt.EqAt.bool_str a b t
  |_=>exact absurd (show false=true from fx) cz
 |int a=>
  obtain⟨t',rfl⟩:=ry;cases x with
  |bJ=>cases rx;exact SeqAt.EqAt.int_none a t'
  |bl b=>cases rx;exact SeqAt.EqAt.int_bool a t' b
  |int b=>obtain⟨t,rfl⟩:=rx;exact SeqAt.EqAt.int_int a t' b t
  |str b=>obtain⟨t,rfl⟩:=rx;exact SeqAt.EqAt.int_str a t' b t
  |_=>exact absurd (show false=true from fx) cz
 |str a=>
  obtain⟨t',rfl⟩:=ry;cases x with
  |bJ=>cases rx;exact SeqAt.EqAt.str_none a t'
  |bl b=>cases rx;exact SeqAt.EqAt.str_bool a t' b
  |int b=>obtain⟨t,rfl⟩:=rx;exact SeqAt.EqAt.str_int a t' b t
  |str b=>obtain⟨t,rfl⟩:=rx;exact SeqAt.EqAt.str_str a t' b t
  |_=>exact absurd (show false=true from fx) cz
 |_=>exact absurd (show false=true from fy) cz
def uV(x:V)(u:Value):Bool:=match u with
 |.none=>sQ .bJ x
 |.bool b=>sQ (.bl b) x
 |.int i _=>sQ (.int i) x
 |.str z _=>sQ (.str z) x
 |_=>false
theorem DJ(r:bi y u)(f:gv y=true):uV x u=sQ y x:=by
 cases y with
 |bJ=>cases r;rfl
 |bl b=>cases r;rfl
 |int i=>obtain⟨t,rfl⟩:=r;rfl
 |str z=>obtain⟨t,rfl⟩:=r;rfl
 |_=>exact absurd (show false=true from f) cz
theorem kJ:∀ {xs:List V} {us:List Value},aX xs us->xs.all gv=true->us.any (uV x)=xs.any fun y=>sQ y x
 |_,_,.nil,_=>rfl
 |y::xs,u::us,.cons r t,f=>by
  rw[iW,dX] at f;rw[jP,jP,DJ r f.1,kJ t f.2]
theorem iK(rx:bi x v)(fx:gv x=true):∀ {xs:List V} {us:List Value},aX xs us->xs.all gv=true->∀u∈us,SeqAt.EqAt A s u v (uV x u)
 |_,_,.nil,_=>fun u hu=>by cases hu
 |y::xs,u::us,.cons r t,f=>fun u' hu=>by
  rw[iW,dX] at f;rcases bP.mp hu with rfl|hu
  .rw[DJ r f.1];exact DI r rx f.1 fx
  .exact iK rx fx t f.2 u' hu
def DK(x:V)(xs:List V):Bool:=xs.any fun y=>sQ y x
def SS(K:PySem.W.Frag)(Po:Bool):R2:=fun x y H Q=>∃p xs,y=.ref p/\(aV K H p xs\/cR K H p xs)/\gv x=true/\xs.all gv=true/\Q (.bl (if Po then !DK x xs else DK x xs)) H
theorem nR:mD X (compareOp .In) (SS X.K false):=by
 intro ae s σ H x y v u Q I rx ry h;obtain⟨p,xs,rfl,hq,fx,fs,q⟩:=h;cases ry;rcases hq with hq|hq
 .obtain⟨its,r,pl,hz⟩:=I.list hq;refine SeqAt.in_listAt (uV x) pl.isList (fun w hw=>iK rx fx r fs w (by simpa using hw)) ⟨.bl _,H,I,rfl,?_⟩;rw[show its.toArray.any (uV x)=its.any (uV x) by simp,kJ r fs];exact q
 .obtain⟨its,r,pl,hz⟩:=I.tuple hq;refine SeqAt.in_tupleAt (uV x) pl (fun w hw=>iK rx fx r fs w (by simpa using hw)) ⟨.bl _,H,I,rfl,?_⟩;rw[show its.toArray.any (uV x)=its.any (uV x) by simp,kJ r fs];exact q
theorem uW:mD X (compareOp .NotIn) (SS X.K true):=by
 intro ae s σ H x y v u Q I rx ry h;obtain⟨p,xs,rfl,hq,fx,fs,q⟩:=h;cases ry;rcases hq with hq|hq
 .obtain⟨its,r,pl,hz⟩:=I.list hq;refine SeqAt.notIn_listAt (uV x) pl.isList (fun w hw=>iK rx fx r fs w (by simpa using hw)) ⟨.bl _,H,I,rfl,?_⟩;rw[show its.toArray.any (uV x)=its.any (uV x) by simp,kJ r fs];exact q
 .obtain⟨its,r,pl,hz⟩:=I.tuple hq;refine SeqAt.notIn_tupleAt (uV x) pl (fun w hw=>iK rx fx r fs w (by simpa using hw)) ⟨.bl _,H,I,rfl,?_⟩;rw[show its.toArray.any (uV x)=its.any (uV x) by simp,kJ r fs];exact q
theorem aD:eU X (.builtin "len") (fun xs H Q=>∃p ys,xs=[.ref p]/\(aV X.K H p ys\/cR X.K H p ys)/\Q (.int ys.length) H):=by
 intro ae s σ H xs us Q I r h;obtain⟨p,ys,rfl,hq,q⟩:=h;obtain⟨u,rfl,rx⟩:=qA r;cases rx;have hn:=uN;rcases hq with hq|hq
 .obtain⟨its,r',pl,hz⟩:=I.list hq;have eC:=r'.length;exact Calls.call_len_list pl.isList (by simp only[cE] <;> lia) ⟨.int ys.length,H,I.tok _,⟨s.toks+1,by rw[cE,eC]⟩,q⟩
 .obtain⟨its,r',pl,hz⟩:=I.tuple hq;have eC:=r'.length;exact len_tuple pl (by simp only[cE] <;> lia) ⟨.int ys.length,H,I.tok _,⟨s.toks+1,by rw[cE,eC]⟩,q⟩
theorem fS:eU X (.type "tuple") (fun xs H Q=>∃p ys,xs=[.ref p]/\((aV X.K H p ys/\∀l,H l=none->Q (.ref l) (upd H l (.tup ys)))\/(cR X.K H p ys/\Q (.ref p) H))):=by
 intro ae s σ H xs us Q I r h;obtain⟨p,ys,rfl,h⟩:=h;obtain⟨u,rfl,rx⟩:=qA r;cases rx;rcases h with ⟨hq,q⟩|⟨hq,q⟩
 .obtain⟨its,r',pl,hz⟩:=I.list hq;have eC:=r'.length;refine call_tuple_list pl.isList (fun h' kp=>?_) (by simp only[cE] <;> lia);have I1:aP X ae σ H { s with heap:=h' }:=I.kept (t':=s.toks) kp;have I2:aP X ae σ (upd H h'.objs.size (.tup ys)) { s with heap:=h'.push { cls:=.type "tuple",data:=.seq its.toArray } }:=
   I1.laid (t':=s.toks) (fun b o e=>cD _ e) (ba _) (show bS X.prog X.w _ _ _ (.tup ys) from ⟨hz,its,r',nB.new _ _⟩)
  exact⟨.ref h'.objs.size,_,I2,rfl,q _ (I1.bE.fresh (ba _))⟩
 .obtain⟨its,r',pl,hz⟩:=I.tuple hq;exact call_tuple_same pl ⟨.ref p,H,I,rfl,q⟩
def Yn(K:PySem.W.Frag)(T:String)(x:V)(H:Hp):Prop:=match x with
 |.str _=>T="str"
 |.int _=>T="int"
 |.ref p=>(T="list"/\∃xs,aV K H p xs)\/(T="tuple"/\∃o,K.lookup p=some o/\o.cls=.type "tuple"/\o.dict=none)\/
   (T="dict"/\((∃kvs,H p=some (.dK kvs))\/∃kvs,H p=some (.dT kvs)))\/(T="set"/\∃S n,H p=some (.set S n))
 |_=>False
theorem Lv(I:aP X ae σ H s)(r:bi x v)(ty:Yn X.K T x H):
  s.TypeIs v T/\∀a,v=.ref a->∃ob,s.heap.get? a=some ob/\ob.dict=none:=by
 cases x with
 |str z=>
  obtain⟨t,rfl⟩:=r;cases (show T="str" from ty);exact⟨typeIs_str s z t,fun _ e=>nomatch e⟩
 |int i=>
  obtain⟨t,rfl⟩:=r;cases (show T="int" from ty);exact⟨typeIs_int s i t,fun _ e=>nomatch e⟩
 |ref p=>
  cases r;rcases ty with ⟨rfl,xs,hq⟩|⟨rfl,o,hk,hc,hd⟩|⟨rfl,hk⟩|⟨rfl,S,n,hk⟩
  .obtain⟨its,_,pl,_⟩:=I.list hq;refine⟨pl.isList.typeIs,fun a e=>?_⟩;cases e;obtain⟨o,n,e,c,hd,_⟩:=pl;exact⟨o,e,hd⟩
  .refine⟨⟨o,I.nG p o hk,hc⟩,fun a e=>?_⟩;cases e;exact⟨o,I.nG _ o hk,hd⟩
  .have z:∃o,s.heap.get? p=some o/\o.ExactDict:=by
    rcases hk with ⟨kvs,hk⟩|⟨kvs,hk⟩
    .obtain⟨_,_,_,_,o,_,_,e,ex,_⟩:=I.bE p _ hk;exact⟨o,e,ex⟩
    .obtain⟨_,_,_,_,o,_,_,e,ex,_⟩:=I.bE p _ hk;exact⟨o,e,ex⟩
   obtain⟨o,e,ex⟩:=z;refine⟨⟨o,e,ex.1⟩,fun a e2=>?_⟩;cases e2;exact⟨o,e,ex.2.1⟩
  .obtain⟨o,_,_,_,e,ex,_⟩:=I.bE p _ hk;refine⟨⟨o,e,ex.1⟩,fun a e2=>?_⟩;cases e2;exact⟨o,e,ex.2.1⟩
 |_=>exact False.elim ty
def tBM(K:PySem.W.Frag)(T:String)(r:V->List V->Hp->VK->Prop)(to:TE)(t:TA):TE:=fun σ H Q=>to σ H fun x H1=>Yn K T x H1/\t σ H1 fun xs H2=>r x xs H2 Q
variable {o e:Expr} {es:List Expr} {to:TE} {t:TA} {name:Str} {uP uX:Pos} {T id:String} {r:V->List V->Hp->VK->Prop}
theorem gO(pa:PlainAttrs T)(slot:Slot T name id)(hty:typeOf (.builtin id)=pure (.type "method_descriptor"))(hm:MtR X id r)(ho:PE X o to)(ha:PA X (e::es) t)(Pp:attributeBase o name X.env (eval o X.env)=eval o X.env:=by rfl)(UJ:((backTo uX (starEach (e::es) X.env)).all (fun x=>!x.1)&&(backToKw uX (keywordEach [] X.env)).all (fun x=>x.1.isSome)
   && decide ((e::es).length+([]:List Keyword).length+(if ([]:List Keyword).isEmpty then 0 else 1)<30))=true:=by rfl)(Pq:(uP.endLine==uX.line)=true:=by rfl)(hs:starEach (e::es) X.env=(false,eval e X.env)::starEach es X.env:=by rfl)(y7:(backTo uX (starEach es X.env)).any (·.1)=false:=by rfl):
  PE X (.Call (.Attribute o name uP) (e::es) [] uX) (tBM X.K T r to t):=by
 intro ae s σ H Q I h;refine wpAny_Call_method_late Pp UJ Pq rfl (cm (ho ae s σ H _ I h) fun v s1 ⟨x,H1,I1,r1,ty,q1⟩=>?_);obtain⟨h1,h2⟩:=Lv I1 r1 ty;refine⟨T,id,pa,slot,hty,h1,h2,?_⟩;have hA:=ha uX ae s1 σ H1 _ I1 q1;rw[hs] at hA |-;refine Calls.callWith_builtin (by show (false||(backTo uX (starEach es X.env)).any (·.1))=false;rw[y7] <;> rfl) (Calls.evalArgs_plain ?_);exact cm hA fun us s2 ⟨vs,H2,I2,r2,q2⟩=>hm ae s2 σ H2 x vs v us Q I2 r1 r2 q2
end
def SU(X:Cx)(id:String)(r:V->List V->Hp->VK->Prop):Prop:=
 ∀ (ae:List (Addr×Obj)) (s:Shared) (σ:St) (H:Hp) (x:V) (xs:List V) (v:Value) (us:List Value) (Q:VK),aP X ae σ H s->bi x v->aX xs us->r x xs H Q->
  wpAny (model X.prog X.w) X.A (call (.builtin id) (v::us)) (EP X ae σ Q) X.xe s
theorem aX.one{x:V}{us:List Value}(h:aX [x] us):∃u,us=[u]/\bi x u:=by
 cases h with
 |cons r h=>cases h;exact⟨_,rfl,r⟩
theorem aX.two{x y:V}{us:List Value}(h:aX [x,y] us):∃u v,us=[u,v]/\bi x u/\bi y v:=by
 cases h with
 |cons r h=>
  cases h with
  |cons q h=>cases h;exact⟨_,_,rfl,r,q⟩
theorem aX.rep(h:aX xs us):∀k:Nat,aX (List.replicate k xs).flatten (List.replicate k us).flatten
 |0=>.nil
 |k+1=>by
  rw[lG,lG,qb,qb];exact aX.append h (aX.rep h k)
theorem sR(its:List Value):∀ (k:Nat) (dL:List Value),
  List.foldl (fun x1 x2=>x1++x2) dL.toArray (List.replicate k its.toArray)=(dL++(List.replicate k its).flatten).toArray
 |0,dL=>by simp
 |k+1,dL=>by
  have e:dL.toArray++its.toArray=(dL++its).toArray:=by simp
  have e2:(dL++its)++(List.replicate k its).flatten=dL++(List.replicate (k+1) its).flatten:=by
   rw[lG,qb,jr]
  rw[<-e2,<-sR its k (dL++its),<-e,lG,jO]
section
variable {X:Cx} {ae:List (Addr×Obj)} {σ:St} {H:Hp} {s:Shared} {l b:Addr} {xs ys zs:List V}
theorem aP.Lw{its its':List Value}{n:Nat}{f:Array Value->Array Value}{t':Nat}(I:aP X ae σ H s)(hH:H l=some (.lst xs))(e:s.heap.get? l=some { cls:=.type "list",data:=.seq its.toArray n })(hf:f its.toArray=its'.toArray)(hv:aX ys its')(hz:ys.length<=sizeLine):
  aP X ae σ (upd H l (.lst ys)) { s with heap:=s.heap.update l (Obj.mapSeq f),toks:=t' }:=by
 have q:=PySem.IsL.update e f;rw[hf] at q;refine I.write (x:=l) (e:=l) (by rw[hH];exact trivial) (.inl rfl) (fun b' u hb hu=>(uj s.heap (Obj.mapSeq f) (Ne.symm hb)).trans hu) ⟨_,q⟩ ?_;exact⟨hz,its',_,hv,q⟩
theorem aP.Pr(I:aP X ae σ H s)(hv:aX ys its)(hz:ys.length<=sizeLine):
  aP X ae σ (upd H s.heap.objs.size (.lst ys)) { s with heap:=s.heap.push { cls:=.type "list",data:=.seq its.toArray },toks:=t' }:=
 I.laid (fun _ _ q=>cD _ q) (ba _) ⟨hz,its,0,hv,dh _ rfl⟩
theorem aP.fresh(I:aP X ae σ H s):H s.heap.objs.size=none:=I.bE.fresh (ba _)
theorem aP.wC(I:aP X ae σ H s)(hH:H l=some (.lst xs)):xs.length<=sizeLine/\∃ (its:List Value) (n:Nat),aX xs its/\xs.length=its.length/\s.heap.get? l=some { cls:=.type "list",data:=.seq its.toArray n }:=by
 obtain⟨z,its,n,r,e⟩:=I.bE l _ hH;exact⟨z,its,n,r,r.length,e⟩
theorem wD(h:n<=sizeLine):Builtin.List.listTooLong n=false:=by
 unfold Builtin.List.listTooLong;exact cH (by lia)
end
section
variable {X:Cx}
def G4:V->List V->Hp->VK->Prop:=fun x vs H Q=>∃l xs y,x=.ref l/\vs=[y]/\H l=some (.lst xs)/\xs.length<sizeLine/\Q .bJ (upd H l (.lst (xs++[y])))
theorem cC:SU X "list.append" G4:=by
 intro ae s σ H x vs v us Q I rx rv h;obtain⟨l,xs,y,rfl,rfl,hH,hz,q⟩:=h;cases rx;obtain⟨u,rfl,ru⟩:=rv.one;obtain⟨z,its,n,r,hl,e⟩:=I.wC hH;refine lW F.slot_list_append ⟨_,e,rfl⟩ F.entry_list_append (F.args_list_append_2 _ _) (PySem.list_append l its.toArray n u (by rw[cE];lia)) ⟨e,?_⟩;refine⟨.bJ,_,I.Lw (its':=its++[u]) hH e (by simp) (r.append (.cons ru .nil)) ?_,rfl,q⟩;rw[cr,ug];lia
def G5:V->List V->Hp->VK->Prop:=fun x vs H Q=>∃l b xs zs,x=.ref l/\vs=[.ref b]/\H l=some (.lst xs)/\H b=some (.lst zs)/\xs.length+zs.length<=sizeLine/\Q .bJ (upd H l (.lst (xs++zs)))
theorem BP:SU X "list.extend" G5:=by
 intro ae s σ H x vs v us Q I rx rv h;obtain⟨l,b,xs,zs,rfl,rfl,hH,hB,hz,q⟩:=h;cases rx;obtain⟨u,rfl,ru⟩:=rv.one;cases ru;obtain⟨z,its,n,r,hl,e⟩:=I.wC hH;obtain⟨z2,G6,n2,r2,UK,e2⟩:=I.wC hB;have hsz:its.toArray.size+G6.toArray.size<=sizeLine:=by rw[cE,cE];lia
 have DL:¬ (!its.toArray.isEmpty&&Builtin.List.listTooLong (its.toArray.size+G6.toArray.size))=true:=by
  rw[wD hsz,uA];exact cz
 refine lW F.slot_list_extend ⟨_,e,rfl⟩ F.entry_list_extend (F.args_list_extend_2 _ _)
  (AutoSeq1.list_extend_list_list_0 l its.toArray n b G6.toArray n2 DL (by rw[cE];lia) (by lia)) ⟨e,e2,?_⟩
 refine⟨.bJ,_,I.Lw (its':=its++G6) hH e (by simp) (r.append r2) ?_,rfl,q⟩;rw[cr];lia
def UL:R2:=fun x y H Q=>∃l k xs,x=.ref l/\y=.int k/\H l=some (.lst xs)/\-(2 ^ 63)<=k/\k<2 ^ 63/\xs.length*k.toNat<=sizeLine/\
 ∀p,H p=none->Q (.ref p) (upd H p (.lst (List.replicate k.toNat xs).flatten))
theorem G7(xs:List α)(k:Nat):(List.replicate k xs).flatten.length=k*xs.length:=by
 induction k with
 |zero=>simp
 |succ k ih=>rw[lG,qb,cr,ih,Nat.succ_mul,Nat.add_comm]
theorem Lx:mD X (binaryOp .Mult) UL:=by
 intro ae s σ H x y v u Q I rx ry h;obtain⟨l,k,xs,rfl,rfl,hH,h1,h2,hz,q⟩:=h;cases rx;obtain⟨t,rfl⟩:=ry;obtain⟨z,its,n,r,hl,e⟩:=I.wC hH;have eC:its.toArray.size*k.toNat<=sizeLine:=by rw[cE,<-hl];exact hz
 have UM:¬ its.toArray.size*k.toNat > (2 ^ 63-1) / 8:=by
  have:(sizeLine:Nat)<=(2 ^ 63-1) / 8:=by decide
  lia
 have UN:¬ (!Builtin.List.listFitsIndex k)=true:=by
  rw[fitsIndex_both h1 h2];exact cz
 have DL:¬ Builtin.List.listTooLong (its.toArray.size*k.toNat)=true:=by
  rw[wD eC];exact cz
 have nU:List.foldl (fun x1 x2=>x1++x2) #[] (List.replicate (if its.toArray.isEmpty=true then 0 else k.toNat) its.toArray)=(List.replicate k.toNat its).flatten.toArray:=by
  have f0:∀m:Nat,List.foldl (fun x1 x2=>x1++x2) #[] (List.replicate m its.toArray)=(List.replicate m its).flatten.toArray:=fun m=>by
   have:=sR its m [];rw[List.nil_append] at this;exact this
  rw[f0];cases its with
  |nil=>simp
  |cons a r'=>rw[ap (by simp)]
 refine wpAny_binaryOp_repeat_ref (T:="list") (U:="int") (by decide) ⟨_,e,rfl⟩ (fun s'=>typeIs_int s' k t) noFill_list_mul F.fills_int_mul F.slot_int_rmul repeat_list F.slot_int_index.lookup
  (lW F.slot_int_rmul (typeIs_int s k t) F.entry_int_rmul (F.args_int_rmul_2 _ _) (int___rmul___int_list k t l its.toArray n)
   ⟨e,rfl,⟨_,e,rfl⟩,lW F.slot_list_mul ⟨_,e,rfl⟩ F.entry_list_mul (F.args_list_mul_2 _ _) (AutoListH.list___mul___list_int_3 l its.toArray n k t UN UM DL) ⟨e,?_⟩⟩)
 rw[nU];exact⟨.ref _,_,I.Pr (t':=s.toks) (r.rep k.toNat) (by rw[G7,Nat.mul_comm];exact hz),rfl,q _ I.fresh⟩
end
section
variable {prog:Program} {w:World} {A:Around} {E:Value->Shared->Prop} {s:Shared}
end
section
variable {X:Cx}
end
end L2
namespace Yo
open PySem PySem.W PySem.Calls PyProof.Rows
theorem o5:∀ (ns:List Int) (vs:List Value),WellAll P h vs (ns.map WData.int)->IntsAre vs ns:=by
 intro ns;induction ns with
 |nil=>
  intro vs w;rw[lS] at w;cases w;exact .nil
 |cons n ns ih=>
  intro vs w;rw[cQ] at w;cases w with
  |cons a b=>
   cases a;exact .cons _ _ (ih _ b)
theorem BQ{l:OpenLaw}{n:Nat}(hn:l.most=some n){P:Params}{h:Heap}{args:List WData}{DM:List Value}(G8:l.row.toRowW.claim.pre args=true)(UO:WellAll P h DM args):
  ∃a vs ns,DM=[Value.ref a]/\args=[WData.list (ns.map WData.int)]/\h.get? a=some { cls:=.type "list",data:=.seq vs.toArray }/\IntsAre vs ns/\ns.length<=n:=by
 have hsh:WShape.hasAll [] args [.list .int]=true:=(pre_splitW G8).1;have hc:l.pre.holds [] { args:=args }=true:=(pre_splitW G8).2;obtain⟨d,r,rfl,h1,h2⟩:=hasAllW_cons hsh;obtain rfl:=hasAllW_nil h2;obtain⟨xs,rfl,h3⟩:=hasW_list h1;obtain⟨ns,rfl⟩:=items_int h3;have eC:ns.length<=n:=by
  unfold OpenLaw.pre at hc;have h4:(WTm.not (.lt (.lit (.int (n:Int))) (.len (.arg 0)))).holds [] { args:=[.list (ns.map .int)] }=true:=by
   have h4:=(holds_andW hc).1;rw[hn] at h4;exact h4
  have h5:=condW_of h4 (w_not (w_lt w_lit (w_len_list (w_arg rfl))));rw[aG] at h5;refine Nat.le_of_not_lt fun q=>?_;have q':(n:Int)<((ns.length:Nat):Int):=by lia
  first
   |(rw[bB q'] at h5;exact absurd h5 (by decide))
   |(simp at h5;lia)
 cases UO with
 |cons w1 w2=>
  cases w2;cases w1 with
  |list ho rY=>exact⟨_,_,ns,rfl,rfl,ho,o5 ns _ rY,eC⟩
theorem BR(l:OpenLaw)(args:List WData):l.row.toRowW.claim.post args (.bool true) args=true:=
 postW_of (r:=l.row.toRowW) (X:=(true==true))
  (show WShape.has [] (.bool true) .bool=true by first|rfl|decide|simp[WShape.has,WShape.arms,WShape.armsAll])
  (show (WTm.eq .res (.lit (.bool true))).value [] { args:=args,res:=some (.bool true),after:=args }=some (.bool (true==true)) from w_eq_bool (w_res rfl) w_lit) rfl
theorem wE{l:OpenLaw}{n:Nat}{q:Program}{sU:List Str}{XP:(Str->Option Value)->Heap->Prop}{YP:World->Heap->Prop}{d:DefRec}(hn:l.most=some n)(Ps:d.params.defaults=[])(call:∀ (w:World) (s₀ s₁:Shared) (mg mb:Str->Option Value) (fa:Addr) (o:Obj) (pm cd mH:Value) (a:Addr) (vs:List Value) (ns:List Int),
   Ground q sU [] XP w s₀ mg mb s₁.heap->YP w s₁.heap->
   s₁.heap.get? fa=some o->o.data=.func (docDef d.name d.params d.body d.scope pm cd mH)->s₁.heap.CodeRec cd d.name->mg d.name=some (.ref fa)->
   s₁.heap.get? a=some { cls:=.type "list",data:=.seq vs.toArray }->IntsAre vs ns->ns.length<=n->s₁.gens=#[]->
   codeAny (model l.prog w) callerA (.call (.ref fa) ⟨[.ref a],[]⟩) (fun r s'=>r=.ok (.ret (.bool true))/\OldK s₁.heap s'.heap/\s'.os=s₁.os/\AllBare s'.gens) s₁):
  WalkO q sU XP YP l.row.toRowW d [] (fun f vs=>PySem.call f vs):=by
 intro w s₀ s₁ mg mb G Y fa o pm cd mH dV kV ho hd sB hD Pu hg args DM as G8 aab hrd UO wF;obtain rfl:dV=.none:=Dflts.none hD Ps;obtain rfl:kV=.none:=Dflts.noKw hD;obtain⟨a,vs,ns,rfl,rfl,Ly,DN,eC⟩:=BQ hn G8 UO;refine enter_call (lT (call w s₀ s₁ mg mb fa o pm cd mH a vs ns G Y ho (fd_plain hd) sB Pu Ly DN eC hg) fun r s' hq=>?_);obtain⟨rfl,h2,h3,h4⟩:=hq;exact⟨.inl ⟨.bool true,.bool true,[],rfl,fun _=>rfl,.bool true,BR l _,fun _=>⟨List.Pairwise.nil,fun _ hm=>(nomatch hm)⟩⟩,h2,h3,h4⟩
section
variable {prog:Program} {w:World} {A:Around} {E:Value->Shared->Prop} {s:Shared} {K:Frag}
end
end Yo
namespace L2
open PySem PySem.Spec PyProof.Rows
theorem sV:∀ {vs:List Value} {ns:List Int},IntsAre vs ns->aX (ns.map V.int) vs
 |_,_,.nil=>.nil
 |_,_,.cons n t h=>.cons ⟨t,rfl⟩ (sV h)
def pA(s:Stmt)(j:Nat):Stmt:=match s with
 |.ClassDef _ _ _ body _ _ _ _ _ _ _=>body.getD j (.Pass ⟨0,0,0,0⟩)
 |_=>.Pass ⟨0,0,0,0⟩
def cY(s:Stmt):Arguments:=match s with
 |.FunctionDef _ a _ _ _ _ _ _ _ _=>a
 |_=>{ posonlyargs:=[],args:=[],vararg:=none,kwonlyargs:=[],kw_defaults:=[],kwarg:=none,defaults:=[] }
def bZ(s:Stmt):List Stmt:=match s with
 |.FunctionDef _ _ b _ _ _ _ _ _ _=>b
 |_=>[]
def am(s:Stmt):Scope:=match s with
 |.FunctionDef _ _ _ _ _ _ sc _ _ _=>sc
 |_=>{ kind:=.function,names:=[],isGenerator:=false,isCoroutine:=false }
abbrev be:wu:=fun _ _ _ _ _ _=>False
abbrev E0:XK:=fun _ _ _=>False
theorem aQ:l4 be X E0:=fun _ _ _ _ _ _ _ h=>h.elim
structure fX(K:PySem.W.Frag)(x qual:Str)(st:Stmt)(f:Addr)(fd:FuncData):Prop where
 ex:∃ (oc:Value) (od:Option Addr) (kV mH pm:Value) (an:Option Addr) (dQ ct:Value) (xP:Array (Option Value)),
  fd=PySem.W.fnOf x qual (cY st) (bZ st) (am st) .none kV mH pm an dQ ct/\K.lookup f=some ⟨oc,od,.func fd,xP⟩/\PySem.W.codeIn K dQ qual=true
 kp:PySem.W.keepIn K (.ref f)=true
section
variable {P:Program} {w:World} {K:PySem.W.Frag} {mg:Str->Option Value} {base:Heap}
theorem fX.ok{x qual:Str}{st:Stmt}{f:Addr}{fd:FuncData}{N ps:List Str}{k:Nat}{sp:Sp}(F:fX K x qual st f fd)(S:aI N ps (am st))(len:∀vs H Q E,sp vs H Q E->vs.length=ps.length)(wy:∀ (dQ:Value) (A:Around) (outer:List Env) (s:Shared) (H:Hp) (vs:List V) (Q:VK) (E:XK),b_ k (A.deeper (envOfC qual (am st) s.heap.objs.size f dQ))->sp vs H Q E->
   ∃t,yM (uQ be P w K mg base N qual (am st) f dQ A outer s H E).JW (bZ st) t/\t { nx:=fun _ H'=>Q .bJ H',rt:=Q } (start N vs) H):bz P w K mg base be (k+1) f fd ps sp:=by
 obtain⟨oc,od,kV,mH,pm,an,dQ,ct,xP,rfl,lk,sB⟩:=F.ex;refine J1 lk sB S len fun A outer s H vs Q E hr Gk=>?_;obtain⟨t,h,q⟩:=wy dQ A outer s H vs Q E hr Gk;exact⟨t,h.JW,q⟩
theorem fX.binds{x qual:Str}{st:Stmt}{f:Addr}{fd:FuncData}{ps:List Str}(F:fX K x qual st f fd)(h:∀ (kV mH pm:Value) (an:Option Addr) (dQ ct:Value) (us:List Value),us.length=ps.length->bindArgs (PySem.W.fnOf x qual (cY st) (bZ st) (am st) .none kV mH pm an dQ ct) ⟨us,[]⟩=pure (ps.zip us)):j4 K fd ps []:=by
 obtain⟨oc,od,kV,mH,pm,an,dQ,ct,xP,rfl,lk,sB⟩:=F.ex;exact .all (h kV mH pm an dQ ct)
theorem uY{x qual:Str}{st:Stmt}{f:Addr}{oc:Value}{od an:Option Addr}{xP:Array (Option Value)}{kV mH pm dQ ct:Value}(l:K.lookup f=some ⟨oc,od,.func (PySem.W.fnOf x qual (cY st) (bZ st) (am st) .none kV mH pm an dQ ct),xP⟩)(c:PySem.W.codeIn K dQ qual=true)(k:PySem.W.keepIn K (.ref f)=true):fX K x qual st f (PySem.W.fnOf x qual (cY st) (bZ st) (am st) .none kV mH pm an dQ ct):=⟨⟨oc,od,kV,mH,pm,an,dQ,ct,xP,rfl,l,c⟩,k⟩
end
section
variable {X:Cx}
theorem pv(i:Nat)(hN:X.N[i]?=some x:=by rfl)(hv:OV X.env.scope x:=by first|exact Or.inl rfl|exact Or.inr (Or.inl rfl)|exact Or.inr (Or.inr rfl))(hd:(x==("__debug__":Str))=false:=by decide)(sB:(x==("__classdict__":Str))=false:=by decide):PE X (.Name x pos) (bb i):=K9 hN hv hd sB
end
theorem l5{A B:Prop}(h:B):if false=true then A else B:=by
 rw[ap cz];exact h
theorem G9{A B:Prop}(h:A):if true=true then A else B:=by
 rw[ao rfl];exact h
theorem bR{c A B:Prop}[Decidable c](h1:c->A)(h2:¬ c->B):if c then A else B:=by
 by_cases h:c
 .rw[ao h];exact h1 h
 .rw[ap h];exact h2 h
def aM(H H':Hp):Prop:=∀b o,H b=some o->H' b=some o
theorem aM.refl(H:Hp):aM H H:=fun _ _ h=>h
theorem aM.trans(a:aM H H1)(b:aM H1 H2):aM H H2:=fun c o h=>b c o (a c o h)
theorem aM.free(e:aM H H')(h:H' l=Option.none):H l=Option.none:=by
 cases q:H l with
 |none=>rfl
 |some o=>
  rw[e l o q] at h;cases h
def J2(src:List (Option Nat))(σ:St):St:=src.map fun o=>match o with|some j=>σ.getD j none|none=>none
theorem G_{src:List (Option Nat)}{σ:St}{i:Nat}{v:V}(h:(J2 src σ)[i]?=some (some v)):∃j,src[i]?=some (some j)/\σ[j]?=some (some v):=by
 unfold J2 at h;rw[bq] at h;cases e:src[i]? with
 |none=>rw[e] at h;cases h
 |some o=>
  rw[e] at h;cases o with
  |none=>cases h
  |some j=>
   refine⟨j,rfl,?_⟩;have h':σ.getD j none=some v:=aY h;rw[bQ] at h';cases e2:σ[j]? with
   |none=>rw[e2] at h';cases h'
   |some o=>rw[e2] at h';rw[show o=some v from h']
structure gP(NB:List Str)(src:List (Option Nat))(scope:Scope)(X:Cx):Prop where
 kind:scope.kind=.function
 nd:NB.Nodup
 len:src.length=NB.length
 cells:∀y∈scope.names,y.2=.cell->scope.names.lookup y.1=some .cell
 names:∀y∈scope.names,y.2=.local->scope.names.lookup y.1=some .local
 free:∀y∈scope.names,y.2=.free->X.env.scope.names.lookup y.1=some .cell\/X.env.scope.names.lookup y.1=some .free
 src:∀ (i:Nat) (x:Str) (j:Nat),NB[i]?=some x->src[i]?=some (some j)->X.N[j]?=some x/\scope.names.lookup x=some .free
def uZ(scope:Scope)(x:Str):Bool:=match scope.names.lookup x with
 |some .cell=>true
 |_=>false
theorem wG:uZ scope x=true↔scope.names.lookup x=some .cell:=by
 unfold uZ;split
 .rename_i h;exact⟨fun _=>h,fun _=>rfl⟩
 .rename_i h;exact⟨fun z=>(by cases z),fun z=>absurd z h⟩
def Am(X:Cx)(NB:List Str)(scope:Scope)(cl:List (Str×Addr))(C:Addr)(s₃:Shared)(H₃:Hp)(fp:List Addr):Cx:=
 { X with N:=NB,s₀:=s₃,H₀:=H₃,env:=compEnvC scope cl C X.env,outer:=X.stack,stack:=X.stack,ex:=fp,fn:=uZ scope,pn:=[],xe:=fun _ _=>False }
theorem l6:∀ (names:List (Str×NameKind)) (dL:List (Str×Addr)),(∀y∈names,y.2=NameKind.free->∃c,env.cells.lookup y.1=some c)->(∀x c,dL.lookup x=some c->env.cells.lookup x=some c)->
  ∃cl,(forIn names dL fun x r=>(if (x.2==NameKind.free)=true then (do let a <- cellOf env x.1;pure (ForInStep.yield ((x.1,a)::r))) else pure (ForInStep.yield r):Sem (ForInStep (List (Str×Addr)))))=(pure cl:Sem (List (Str×Addr)))/\
   (∀x c,cl.lookup x=some c->env.cells.lookup x=some c)/\(∀x c,dL.lookup x=some c->∃c',cl.lookup x=some c')/\∀x,(x,NameKind.free)∈names->∃c,cl.lookup x=some c
 |[],dL,_,ha=>⟨dL,by rw[List.forIn_nil],ha,fun x c h=>⟨c,h⟩,fun x h=>nomatch h⟩
 |(n,k)::r,dL,hf,ha=>by
  by_cases hk:k=NameKind.free
  .subst hk;obtain⟨c,hc⟩:=hf (n,NameKind.free) cq rfl;have UP:∀x c',((n,c)::dL).lookup x=some c'->env.cells.lookup x=some c':=fun x c' h=>by
    rw[fE] at h;cases hx:x==n with
    |true=>
     rw[hx] at h;cases h;have:x=n:=by simpa using hx
     rw[this];exact hc
    |false=>rw[hx] at h;exact ha x c' h
   obtain⟨cl,e1,e2,e3,e4⟩:=l6 r ((n,c)::dL) (fun y hy=>hf y (cy _ hy)) UP;refine⟨cl,?_,e2,fun x c' h=>?_,fun x h=>?_⟩
   .rw[List.forIn_cons];have ec:cellOf env n=pure c:=by unfold cellOf;rw[hc]
    have e0:(if ((n,NameKind.free).2==NameKind.free)=true then (do let a <- cellOf env (n,NameKind.free).1;pure (ForInStep.yield (((n,NameKind.free).1,a)::dL))) else pure (ForInStep.yield dL):Sem (ForInStep (List (Str×Addr))))=pure (ForInStep.yield ((n,c)::dL)):=by
     rw[ao (show (NameKind.free==NameKind.free)=true by decide)];show cellOf env n >>= _=_;rw[ec];rfl
    rw[e0];exact e1
   .cases hx:x==n with
    |true=>exact e3 x c (by rw[fE,hx])
    |false=>exact e3 x c' (by rw[fE,hx];exact h)
   .rcases bP.mp h with h|h
    .cases h;exact e3 n c (by rw[fE];simp)
    .exact e4 x h
  .obtain⟨cl,e1,e2,e3,e4⟩:=l6 r dL (fun y hy=>hf y (cy _ hy)) ha;refine⟨cl,?_,e2,e3,fun x h=>?_⟩
   .rw[List.forIn_cons];have hb:(k==NameKind.free)=false:=by simpa using hk
    have e0:(if ((n,k).2==NameKind.free)=true then (do let a <- cellOf env (n,k).1;pure (ForInStep.yield (((n,k).1,a)::dL))) else pure (ForInStep.yield dL):Sem (ForInStep (List (Str×Addr))))=pure (ForInStep.yield dL):=by
     rw[ap (by show ¬ (k==NameKind.free)=true;rw[hb];decide)]
    rw[e0];exact e1
   .rcases bP.mp h with h|h
    .cases h;exact absurd rfl hk
    .exact e4 x h
theorem l7(ok:X.Ok)(S:gP NB src scope X):
  ∃cl,closureFor scope X.env=pure cl/\(∀x c,cl.lookup x=some c->X.env.cells.lookup x=some c)/\∀x,(x,NameKind.free)∈scope.names->∃c,cl.lookup x=some c:=by
 obtain⟨cl,e1,e2,_,e4⟩:=l6 (env:=X.env) scope.names [] (fun y hy hk=>ok.has y.1 (S.free y hy hk)) (fun x c h=>nomatch h);refine⟨cl,?_,e2,e4⟩;unfold closureFor;simp only[bind_pure];exact e1
theorem u0(h:scope.names.lookup x=some .free):(relabel scope env).names.lookup x=some .cell\/(relabel scope env).names.lookup x=some .free:=by
 have go:∀names:List (Str×NameKind),names.lookup x=some .free->
   (names.map fun (n,k)=>if (k==NameKind.free&&env.scope.kind==.function&&env.kindOf n==some .cell) then (n,NameKind.cell) else (n,k)).lookup x=some .cell\/
   (names.map fun (n,k)=>if (k==NameKind.free&&env.scope.kind==.function&&env.kindOf n==some .cell) then (n,NameKind.cell) else (n,k)).lookup x=some .free:=by
  intro names;induction names with
  |nil=>intro h;simp at h
  |cons y r ih=>
   intro h;obtain⟨n,k⟩:=y;rw[fE] at h;rw[cQ];cases hx:x==n with
   |true=>
    rw[hx] at h;cases h;by_cases hc:(NameKind.free==NameKind.free&&env.scope.kind==.function&&env.kindOf n==some .cell)=true
    .left;show List.lookup x ((if _ then _ else _)::_)=_;rw[ao hc,fE,hx]
    .right;show List.lookup x ((if _ then _ else _)::_)=_;rw[ap hc,fE,hx]
   |false=>
    rw[hx] at h;by_cases hc:(k==NameKind.free&&env.scope.kind==.function&&env.kindOf n==some .cell)=true
    .show List.lookup x ((if _ then _ else _)::_)=_\/List.lookup x ((if _ then _ else _)::_)=_;rw[ao hc,fE,hx];exact ih h
    .show List.lookup x ((if _ then _ else _)::_)=_\/List.lookup x ((if _ then _ else _)::_)=_;rw[ap hc,fE,hx];exact ih h
 exact go scope.names h
theorem mI(h:(relabel scope env).names.lookup x=some k)(hk:k=.cell\/k=.free):(x,NameKind.free)∈scope.names\/(x,NameKind.cell)∈scope.names:=by
 have m:=jH h;obtain⟨⟨n,k'⟩,hm,e⟩:=cf.mp m;by_cases q:(k'==NameKind.free&&env.scope.kind==.function&&env.kindOf n==some .cell)=true
 .have e':(n,NameKind.cell)=(x,k):=by simpa [q] using e
  have k1:k'=NameKind.free:=by
   simp only[dX,gu] at q;exact q.1.1
  cases e';left;rw[<-k1];exact hm
 .have e':(n,k')=(x,k):=by simpa [q] using e
  cases e';rcases hk with z|z
  .subst z;exact .inr hm
  .subst z;exact .inl hm
theorem nV:∀ (names:List (Str×NameKind)) (h:Heap) (dL:List (Str×Addr)) (x:Str) (c:Addr),(cellsFrom h.objs.size names dL).lookup x=some c->dL.lookup x=some c\/(h.objs.size<=c/\(pushCells h names).IsCell c none)
 |[],_,_,_,_,e=>.inl e
 |(name,kind)::r,h,dL,x,c,e=>by
  unfold cellsFrom at e;unfold pushCells;split at e
  .rename_i hk;rw[ao hk];have hsz:(h.push { cls:=.type "cell",data:=.cell none }).objs.size=h.objs.size+1:=iV ..;rw[<-hsz] at e;rcases nV r _ _ x c e with z|⟨z1,z2⟩
   .rw[fE] at z;cases hx:x==name with
    |true=>
     rw[hx] at z;cases z;exact .inr ⟨ba _,_,pushCells_keeps r _ _ _ (dh _ rfl),rfl⟩
    |false=>rw[hx] at z;exact .inl z
   .exact .inr ⟨by lia,z2⟩
  .rename_i hk;rw[ap hk];exact nV r h dL x c e
theorem sW:∀ (names:List (Str×NameKind)) (n:Nat) (dL:List (Str×Addr)) (x:Str),(x,NameKind.cell)∈names->∃c,n<=c/\(cellsFrom n names dL).lookup x=some c:=by
 have up:∀ (names:List (Str×NameKind)) (n m:Nat) (dL:List (Str×Addr)) (x:Str) (c:Addr),dL.lookup x=some c->m<=c->m<=n->∃c',m<=c'/\(cellsFrom n names dL).lookup x=some c':=by
  intro names;induction names with
  |nil=>intro n m dL x c e h _;exact⟨c,h,e⟩
  |cons y r ih=>
   intro n m dL x c e h hm;obtain⟨name,kind⟩:=y;unfold cellsFrom;split
   .cases hx:x==name with
    |true=>exact ih (n+1) m _ x n (by rw[fE,hx]) hm (by lia)
    |false=>exact ih (n+1) m _ x c (by rw[fE,hx];exact e) h (by lia)
   .exact ih n m dL x c e h hm
 intro names;induction names with
 |nil=>intro n dL x h;cases h
 |cons y r ih=>
  intro n dL x h;obtain⟨name,kind⟩:=y;unfold cellsFrom;rcases bP.mp h with z|z
  .cases z;rw[ao (by decide)];exact up r (n+1) n _ x n (by rw[fE];simp) (ba _) (by lia)
  .split
   .obtain⟨c,h1,h2⟩:=ih (n+1) ((name,n)::dL) x z;exact⟨c,by lia,h2⟩
   .exact ih n dL x z
theorem kK:∀ (names:List (Str×NameKind)) (n:Nat) (dL:List (Str×Addr)) (x:Str) (c:Addr),dL.lookup x=some c->(x,NameKind.cell)∉names->(cellsFrom n names dL).lookup x=some c
 |[],_,_,_,_,e,_=>e
 |(name,kind)::r,n,dL,x,c,e,h=>by
  have hr:(x,NameKind.cell)∉r:=fun z=>h (cy _ z);unfold cellsFrom;split
  .rename_i hk;have jD:(x==name)=false:=by
    cases hx:x==name with
    |false=>rfl
    |true=>
     have e1:x=name:=by simpa using hx
     have e2:kind=.cell:=by simpa using hk
     exact absurd (by rw[e1,e2];exact cq) h
   exact kK r (n+1) _ x c (by rw[fE,jD];exact e) hr
  .exact kK r n dL x c e hr
theorem nW:∀ (names:List (Str×NameKind)) (n:Nat) (dL:List (Str×Addr)),(∀x y c,dL.lookup x=some c->dL.lookup y=some c->x=y)->(∀x c,dL.lookup x=some c->c<n)->∀x y c,(cellsFrom n names dL).lookup x=some c->(cellsFrom n names dL).lookup y=some c->x=y
 |[],_,_,hi,_=>hi
 |(name,kind)::r,n,dL,hi,hl=>by
  unfold cellsFrom;split
  .refine nW r (n+1) _ (fun x y c h1 h2=>?_) (fun x c h=>?_)
   .rw[fE] at h1 h2;cases hx:x==name <;> cases hy:y==name <;> rw[hx] at h1 <;> rw[hy] at h2
    .exact hi x y c h1 h2
    .cases h2;exact absurd (hl x _ h1) (jw _)
    .cases h1;exact absurd (hl y _ h2) (jw _)
    .have e1:x=name:=by simpa using hx
     have e2:y=name:=by simpa using hy
     rw[e1,e2]
   .rw[fE] at h;cases hx:x==name <;> rw[hx] at h
    .exact fk (hl x c h)
    .cases h;exact jK _
  .exact nW r n dL hi hl
section
variable {X:Cx} {ae:List (Addr×Obj)} {σ:St} {H:Hp} {s:Shared} {NB:List Str} {src:List (Option Nat)} {scope:Scope} {cl:List (Str×Addr)} {fp:List Addr} {h₁:Heap} {t₁:Nat}
theorem Ha(I:aP X ae σ H s)(S:gP NB src scope X)(c1:∀x c,cl.lookup x=some c->X.env.cells.lookup x=some c)(c2:∀x,(x,NameKind.free)∈scope.names->∃c,cl.lookup x=some c)(hf:∀b∈fp,k9 X ae H b)(Lz:∀b∈fp,b<s.heap.objs.size){m:Str->Option Value}(hn:h₁.Ns s.heap.objs.size m)(hk:∀b o,s.heap.get? b=some o->h₁.get? b=some o)(nU:∀x c,(cellsFrom (s.heap.objs.size+1) scope.names cl).lookup x=some c->cl.lookup x=some c\/(s.heap.objs.size<c/\h₁.IsCell c none)):
  aP (Am X NB scope (cellsFrom (s.heap.objs.size+1) scope.names cl) s.heap.objs.size s H fp) [] (J2 src σ) H { s with heap:=h₁,toks:=t₁ }:=by
 have Om:∀b∈BA X.stack,b∈X.env.locals::X.fs:=I.qt;have qD:∀x c,cl.lookup x=some c->∃v,s.heap.IsCell c v:=fun x c e=>I.cell x c (c1 x c e);have UQ:∀x c,cl.lookup x=some c->c<s.heap.objs.size:=fun x c e=>by obtain⟨v,o,ho,_⟩:=qD x c e;exact a_ ho
 refine⟨⟨I.ok.mod,S.kind,I.ok.glob,I.ok.blt,ba _,nW _ _ _ (fun x y c e1 e2=>I.ok.inj x y c (c1 x c e1) (c1 y c e2)) (fun x c e=>fk (UQ x c e)),fun x hx=>?_,fun x c z e=>?_,I.ok.hd,I.ok.frames,.inl rfl,fun b hb=>⟨?_,fun x c e=>?_⟩,I.bs,bj I.ok.C0 I.sz,fun b o e hb=>?_,fun b hb=>?_,I.stack,I.pi⟩,
  rfl,I.bare,Un.kept hk,⟨m,hn,fun i x v e1 e2 e3=>?_⟩,fun x c e=>?_,I.bE.fresh (ba _),fun x c e=>?_,fun p hp=>absurd (show p∈([]:List (Addr×Obj)) from hp) (by simp),I.bE.kept hk,?_⟩
 .have UR:(x,NameKind.free)∈scope.names\/(x,NameKind.cell)∈scope.names:=by
   rcases hx with hx|hx
   .exact mI hx (.inl rfl)
   .exact mI hx (.inr rfl)
  by_cases hc:(x,NameKind.cell)∈scope.names
  .obtain⟨c,_,e⟩:=sW scope.names (s.heap.objs.size+1) cl x hc;exact⟨c,e⟩
  .rcases UR with z|z
   .obtain⟨c,e⟩:=c2 x z;exact⟨c,kK _ _ _ _ _ e hc⟩
   .exact absurd z hc
 .have hm:=jH (wG.mp z);obtain⟨c',h1,h2⟩:=sW scope.names (s.heap.objs.size+1) cl x hm;have e':(cellsFrom (s.heap.objs.size+1) scope.names cl).lookup x=some c:=e;rw[h2] at e';cases e';exact Nat.le_of_succ_le h1
 .exact aZ (Lz b hb)
 .rcases nU x c e with z|⟨z,_⟩
  .exact(hf b hb).2.2.2.2.1 x c (c1 x c z)
  .exact jR (qm (Lz b hb) z)
 .rcases(hf b hb).2.2.2.1 with z|z
  .exact I.ok.Dl b o e z
  .exact absurd (bV (a_ e) (bj I.ok.C0 z)) (jw _)
 .intro z;rcases bP.mp (Om b z) with e|e
  .exact(hf b hb).2.1 e
  .exact(hf b hb).2.2.1 e
 .obtain⟨j,hj,hv⟩:=G_ e2;obtain⟨hN,hF⟩:=S.src i x j e1 hj;obtain⟨m0,hn0,hl0⟩:=I.loc;have Hb:=jH hF;have kx:=S.free _ Hb rfl;have Uv:OV X.env.scope x:=by
   rcases kx with z|z
   .exact .inr (.inl z)
   .exact .inr (.inr z)
  obtain⟨u,r,l⟩:=hl0 j x v hN hv Uv;refine⟨u,r,.inr ⟨u0 hF,?_⟩⟩;obtain⟨c,hc⟩:=c2 x Hb;have hnc:(x,NameKind.cell)∉scope.names:=fun z=>by
   have:=S.cells _ z rfl;rw[hF] at this;cases this
  refine⟨c,kK _ _ _ _ _ hc hnc,?_⟩;rcases l with ⟨hk',_⟩|⟨_,c',e,z⟩
  .have Pw:X.env.scope.names.lookup x=some .local:=hk';rcases kx with z|z <;> (rw[z] at Pw;cases Pw)
  .rw[c1 x c hc] at e;cases e;obtain⟨o,ho,hd⟩:=z;exact⟨o,hk _ _ ho,hd⟩
 .rcases nU x c e with z|⟨_,z⟩
  .obtain⟨v,o,ho,hd⟩:=qD x c z;exact⟨v,o,hk _ _ ho,hd⟩
  .exact⟨none,z⟩
 .rcases nU x c e with z|⟨z,_⟩
  .exact I.jU x c (c1 x c z)
  .exact I.bE.fresh (d_ z)
 .show (J2 src σ).length=NB.length;unfold J2;rw[aG];exact S.len
theorem aP.Px(I:aP X ae σ H s)(J:aP (Am X NB scope cl C s H fp) [] σB H' s')(hf:∀b∈fp,k9 X ae H b):aP X ae σ H' s':=by
 refine I.JT (ch:=fp) J.os J.base J.bE J.bare fun b hb=>?_;obtain⟨_,f1,_,f3,f4,f5⟩:=hf b hb;exact⟨f3,f1,f4,f5⟩
end
def Oo(X:Cx)(An:List Expr)(t:TT):Prop:=
 ∀ (ae:List (Addr×Obj)) (s:Shared) (σ:St) (H:Hp) (Q:Bool->Hp->Prop),aP X ae σ H s->t σ H Q->
  wpAny (model X.prog X.w) X.A (forIn An true fun c r=>if r=true then do let ok <- isTrue c X.env (eval c X.env);pure (ForInStep.yield ok) else pure (ForInStep.yield r)) (TP X ae σ Q) X.xe s
def US:TT:=fun _ H Q=>Q true H
theorem fT:Oo X [] US:=fun _ _ _ H _ I h=>wpAny_tests_nil ⟨H,I,h⟩
theorem eF(h:PT X c t):Oo X [c] t:=fun ae s σ H Q I q=>wpAny_tests_one (h ae s σ H Q I q)
def ig(J:It)(g:TG)(tt:TT)(te:TE)(D:Addr)(fin:Hp->Prop)(σB:St)(H1:Hp):Prop:=
 ∃W:Nat->Nat->St->Hp->Prop,(∃m,W 0 m σB H1)/\∀i m σ H,W i m σ H->(J.stop i H/\fin H)\/(J.go i H/\∀x H',J.JX i H x H'->g x σ H' fun σ2 H2=>tt σ2 H2 fun b H3=>
  if b=true then te σ2 H3 fun v H4=>∃ys,H4 D=some (.lst ys)/\ys.length<sizeLine/\∃m',m'<m/\W (i+1) m' σ2 (upd H4 D (.lst (ys++[v]))) else ∃m',m'<m/\W (i+1) m' σ2 H3)
def y8(G:Hp->Prop)(J:It)(g:TG)(tt:TT)(te:TE)(D:Addr)(fin:Hp->Prop)(σB:St)(H1:Hp):Prop:=
 ∃W:Nat->Nat->St->Hp->Prop,(∃m,W 0 m σB H1)/\∀i m σ H,W i m σ H->G H/\((J.stop i H/\fin H)\/(J.go i H/\∀x H',J.JX i H x H'->g x σ H' fun σ2 H2=>tt σ2 H2 fun b H3=>
  if b=true then te σ2 H3 fun v H4=>∃ys,H4 D=some (.lst ys)/\ys.length<sizeLine/\∃m',m'<m/\W (i+1) m' σ2 (upd H4 D (.lst (ys++[v]))) else ∃m',m'<m/\W (i+1) m' σ2 H3))
theorem ig.g{J:It}{g:TG}{tt:TT}{te:TE}{D:Addr}{fin:Hp->Prop}{σB:St}{H1:Hp}(h:ig J g tt te D fin σB H1):y8 (fun _=>True) J g tt te D fin σB H1:=let ⟨W,a,b⟩:=h;⟨W,a,fun i m σ H w=>⟨trivial,b i m σ H w⟩⟩
theorem BS(hx:B.xe=fun _ _=>False)(hc:∀H,G H->B.calm=true\/J.SJ B.A H)(T:uK B.prog B.w B.K tg J fp it tn)(hg:PG B tg g)(ht:Oo B An tt)(he:PE B C1 te)(I:aP B [] σB H1 s)(st:tn 0 s.heap)(hf:∀b∈fp,k9 B [] H1 b)(hw:y8 G J g tt te D fin σB H1)(hR:∀σ' H' s',aP B [] σ' H' s'->fin H'->R (.ok .next) s'):
  codeAny (model B.prog B.w) B.A (.compLoop (.ListComp C1 [⟨tg,jA,An,0⟩] scope pos) 0 (.ref it) (.ref D) B.env) R s:=by
 obtain⟨W,⟨m0,w0⟩,Dr⟩:=hw;have yR:∀ {H':Hp},(∀b∈fp,H' b=none)->∀b∈fp,k9 B [] H' b:=fun hn b hb=>⟨hn b hb,(hf b hb).2⟩
 refine codeAny_loop rfl (fun n s'=>∃i σ' H',aP B [] σ' H' s'/\tn i s'.heap/\(∀b∈fp,H' b=none)/\W i n σ' H') ?_ m0 ⟨0,σB,H1,I,st,fun b hb=>(hf b hb).1,w0⟩;rintro n s3 ⟨i,σ3,H3,I3,uM,Le,w3⟩;show wpAny _ B.A ((compTurn (.ListComp C1 [⟨tg,jA,An,0⟩] scope pos) 0 (.ref it) (.ref D) B.env).onRaise (fun x=>do noteFrame x B.env;theTreesLotGoes x)) _ _ s3;refine wpAny_noted ?_;rw[compTurn_list];have nx:∀ {α:Type} {t:Sem α} {Q:α->Shared->Prop} {E':Value->Shared->Prop} {s:Shared},wpAny (model B.prog B.w) B.A t Q B.xe s->wpAny (model B.prog B.w) B.A t Q E' s:=fun h=>
  ir h (fun _ _ q=>q) fun _ _ z=>by rw[hx] at z;exact z.elim
 obtain⟨hG,Py⟩:=Dr i n σ3 H3 w3;rcases Py with ⟨stop,qn⟩|⟨go,step⟩
 .refine aJ (qo (aJ (cm (T.done B rfl rfl rfl i [] s3 σ3 H3 _ (hc _ hG) I3 (yR Le) uM stop) fun r s4 ⟨hr,I4⟩=>?_)));subst hr;exact wpAny_pure (hR σ3 H3 s4 I4 qn)
 .refine aJ (qo (aJ (cm (T.item B rfl rfl rfl i [] s3 σ3 H3 _ (hc _ hG) I3 (yR Le) uM go) fun r s4 ⟨u,hr,h4⟩=>?_)));subst hr;refine aJ (cm h4 fun _ s5 ⟨x,H5,I5,r5,y5,Ae,Uz⟩=>?_);have UA:=I5.pinned (yR Uz) (T.obj _ _ Ae);refine aJ (nx (cm (hg _ s5 σ3 H5 x u _ UA r5 (step x H5 y5)) fun _ s6 ⟨σ6,H6,I6,q6⟩=>?_));have back:∀ {σ7:St} {H7:Hp} {s7:Shared} {m':Nat},aP B ([]++qy fp s5.heap) σ7 H7 s7->m'<n->W (i+1) m' σ7 H7->∃m,m<n/\∃i σ' H',aP B [] σ' H' s7/\tn i s7.heap/\(∀b∈fp,H' b=none)/\W i m σ' H':=fun {σ7 H7 s7 m'} I7 hm w7=>by
   refine⟨m',hm,i+1,σ7,H7,I7.mC,T.keep _ _ _ Ae fun b hb o e=>(I7.pin (b,o) (iD _ (iD _ (i_ hb e)))).1,fun b hb=>?_,w7⟩;obtain⟨o,e,d⟩:=T.obj _ _ Ae b hb;exact(I7.pin (b,o) (iD _ (iD _ (i_ hb e)))).2.1
  refine aJ (nx (cm (ht _ s6 σ6 H6 _ I6 q6) fun ok s7 ⟨H7,I7,q7⟩=>?_));cases ok with
  |false=>
   rw[ap cz] at q7;obtain⟨m',hm,w7⟩:=q7;exact wpAny_pure ⟨rfl,back I7 hm w7⟩
  |true=>
   rw[ao rfl] at q7;refine aJ (aJ (nx (cm (he _ s7 σ6 H7 _ I7 q7) fun v s8 ⟨y,H8,I8,r8,ys,hD,hl,m',hm,w8⟩=>?_)));refine aJ (nx (cm (cC _ s8 σ6 H8 (.ref D) [y] (.ref D) [v] (fun _ H9=>H9=upd H8 D (.lst (ys++[y]))) I8 rfl (.cons r8 .nil) ⟨D,ys,y,rfl,rfl,hD,hl,rfl⟩) fun _ s9 ⟨_,H9,I9,_,e9⟩=>?_));subst e9;exact wpAny_pure (wpAny_pure ⟨rfl,back I9 hm w8⟩)
theorem u4(hQ:Q { scope:=scope,locals:=s.heap.objs.size,globals:=globals,cells:=cellsFrom (s.heap.objs.size+1) scope.names cl,qual:=qual,func:=none,code:=outer.code,frame:=outer.frame,builtins:=outer.builtins }
   { s with heap:=pushCells (s.heap.push { cls:=.type "dict",data:=.dict #[] }) scope.names }):
  wpAny M A (newFunctionEnv scope globals cl [] qual none .none (some outer)) Q E s:=by
 simp only[newFunctionEnv,Option.isSome_some,i6];refine aJ (wpAny_alloc ?_);refine aJ (wpAny_layCells _ (fun name kind cells=>by cases hkc:kind==NameKind.cell <;> simp[hkc]) _ _ _ _ ?_);rw[show ({ s with heap:=s.heap.push { cls:=.type "dict",data:=.dict #[] } }:Shared).heap.objs.size=s.heap.objs.size+1 from iV ..];refine aJ ?_;rw[List.forIn_nil];exact wpAny_pure (wpAny_pure hQ)
section
variable {X:Cx} {C1 tg jA:Expr} {An:List Expr} {scope:Scope} {pos:Pos} {wi:TI} {g:TG} {tt:TT} {te:TE} {NB:List Str} {src:List (Option Nat)}
def J9(src:List (Option Nat))(wi:TI)(g:TG)(tt:TT)(te:TE):TE:=fun σ H Q=>wi σ H fun J H1=>∀D,H1 D=none->ig J g tt te D (fun H'=>Q (.ref D) H') (J2 src σ) (upd H1 D (.lst []))
theorem qE{ae:List (Addr×Obj)}{σ:St}{H2:Hp}{s2:Shared}{J:It}{fp:List Addr}{it:Addr}{tn:Nat->Heap->Prop}{cl:List (Str×Addr)}{fin:Addr->Hp->Prop}{E':Value->Shared->Prop}{RR:Value->Addr->Result->Shared->Prop}{G:Hp->Prop}(S:gP NB src scope X)(hc:∀H,G H->X.calm=true\/J.SJ X.A H)(c1:∀x c,cl.lookup x=some c->X.env.cells.lookup x=some c)(c2:∀x,(x,NameKind.free)∈scope.names->∃c,cl.lookup x=some c)(hg:∀cl C s₃ H₃ fp,PG (Am X NB scope cl C s₃ H₃ fp) tg g)(ht:∀cl C s₃ H₃ fp,Oo (Am X NB scope cl C s₃ H₃ fp) An tt)(he:∀cl C s₃ H₃ fp,PE (Am X NB scope cl C s₃ H₃ fp) C1 te)(I2:aP X ae σ H2 s2)(T:uK X.prog X.w X.K tg J fp it tn)(iH:tn 0 s2.heap)(f2:∀b∈fp,k9 X ae H2 b)(hw:∀D,H2 D=none->y8 G J g tt te D (fin D) (J2 src σ) (upd H2 D (.lst [])))(hR:∀D C H' s',k9 X ae H' C->aP X ae σ H' s'->(∃m,s'.heap.Ns C m)->fin D H'->RR (.ref D) C (.ok .next) s'):
  wpAny (model X.prog X.w) X.A (newList []) (fun dL s₃=>wpAny (model X.prog X.w) X.A (newFunctionEnv scope X.env.globals cl [] X.env.qual none .none (some X.env)) (fun Pz s₄=>
   codeAny (model X.prog X.w) X.A (.compStart (.ListComp C1 [⟨tg,jA,An,0⟩] scope pos) 0 (.ref it) dL { Pz with scope:=relabel scope X.env }) (RR dL Pz.locals) s₄) E' s₃) E' s2:=by
 refine qg (u4 ?_);have I3:=I2.Pr (ys:=[]) (its:=[]) (t':=s2.toks) .nil (dv _);have hD:H2 s2.heap.objs.size=none:=I2.fresh;have fo:∀b∈fp,b<s2.heap.objs.size:=fun b hb=>by obtain⟨o,e,_⟩:=T.obj _ _ iH b hb;exact a_ e
 have up:∀ {b:Addr},b∈fp->upd H2 s2.heap.objs.size (.lst []) b=H2 b:=fun {b} hb=>ai (aZ (fo b hb));have f3:∀b∈fp,k9 X ae (upd H2 s2.heap.objs.size (.lst [])) b:=fun b hb=>⟨by rw[up hb];exact(f2 b hb).1,(f2 b hb).2⟩
 have hsz:(s2.heap.push { cls:=.type "list",data:=.seq ([]:List Value).toArray }).objs.size=s2.heap.objs.size+1:=by rw[iV]
 generalize hs3:({ s2 with heap:=s2.heap.push { cls:=.type "list",data:=.seq ([]:List Value).toArray } }:Shared)=s3 at I3 |-;have Yp:s3.heap=s2.heap.push { cls:=.type "list",data:=.seq ([]:List Value).toArray }:=by rw[<-hs3]
 have Yq:∀b∈fp,b<s3.heap.objs.size:=fun b hb=>by rw[Yp,hsz];exact fk (fo b hb)
 have PB:(s3.heap.push { cls:=.type "dict",data:=.dict #[] }).objs.size=s3.heap.objs.size+1:=iV ..;have nU:∀x c,(cellsFrom (s3.heap.objs.size+1) scope.names cl).lookup x=some c->cl.lookup x=some c\/(s3.heap.objs.size<c/\(pushCells (s3.heap.push { cls:=.type "dict",data:=.dict #[] }) scope.names).IsCell c none):=fun x c e=>by
  rw[<-PB] at e;rcases nV _ _ _ _ _ e with z|⟨z1,z2⟩
  .exact .inl z
  .exact .inr ⟨by rw[PB] at z1;exact z1,z2⟩
 have PD:=(Heap.Ns.new s3.heap (.type "dict")).keeps (pushCells_keeps scope.names _);have keep:∀b o,s3.heap.get? b=some o->(pushCells (s3.heap.push { cls:=.type "dict",data:=.dict #[] }) scope.names).get? b=some o:=fun b o e=>pushCells_keeps _ _ b o (cD _ e);generalize hh1:pushCells (s3.heap.push { cls:=.type "dict",data:=.dict #[] }) scope.names=h₁ at nU PD keep |-;have IB:aP (Am X NB scope (cellsFrom (s3.heap.objs.size+1) scope.names cl) s3.heap.objs.size s3 (upd H2 s2.heap.objs.size (.lst [])) fp) [] (J2 src σ) (upd H2 s2.heap.objs.size (.lst [])) { s3 with heap:=h₁,toks:=s3.toks }:=
  Ha I3 S c1 c2 f3 Yq PD keep nU
 have Yr:tn 0 h₁:=T.keep 0 s2.heap h₁ iH fun b hb o e=>keep b o (by rw[Yp];exact cD _ e);have fB:∀b∈fp,k9 (Am X NB scope (cellsFrom (s3.heap.objs.size+1) scope.names cl) s3.heap.objs.size s3 (upd H2 s2.heap.objs.size (.lst [])) fp) [] (upd H2 s2.heap.objs.size (.lst [])) b:=fun b hb=>by
  refine⟨(f3 b hb).1,aZ (Yq b hb),fun z=>?_,.inl hb,fun x c e=>(IB.ok.Uf b hb).2 x c e,fun p hp=>absurd (show p∈([]:List (Addr×Obj)) from hp) (by simp)⟩;rcases bP.mp (I3.qt b z) with e|e
  .exact(f3 b hb).2.1 e
  .exact(f3 b hb).2.2.1 e
 have loop:codeAny (model X.prog X.w) X.A (.compLoop (.ListComp C1 [⟨tg,jA,An,0⟩] scope pos) 0 (.ref it) (.ref s2.heap.objs.size) (compEnvC scope (cellsFrom (s3.heap.objs.size+1) scope.names cl) s3.heap.objs.size X.env)) (RR (.ref s2.heap.objs.size) s3.heap.objs.size)
   { s3 with heap:=h₁,toks:=s3.toks }:=by
  refine BS (B:=Am X NB scope (cellsFrom (s3.heap.objs.size+1) scope.names cl) s3.heap.objs.size s3 (upd H2 s2.heap.objs.size (.lst [])) fp) rfl hc T (hg _ _ _ _ _) (ht _ _ _ _ _) (he _ _ _ _ _) IB Yr fB (hw _ hD) fun σ' H' s' J' q=>?_;obtain⟨m,hm,_⟩:=J'.loc;exact hR _ _ H' s' (I3.wo (ba _) J'.free) (I3.Px J' f3) ⟨m,hm⟩ q
 exact codeAny_compStart_list loop (T.self _ 0 _ _ _ Yr loop)
theorem cK(S:gP NB src scope X)(hc:X.calm=true)(hi:PI X tg jA wi)(hg:∀cl C s₃ H₃ fp,PG (Am X NB scope cl C s₃ H₃ fp) tg g)(ht:∀cl C s₃ H₃ fp,Oo (Am X NB scope cl C s₃ H₃ fp) An tt)(he:∀cl C s₃ H₃ fp,PE (Am X NB scope cl C s₃ H₃ fp) C1 te)(hs:∀x,foldedSetIterable jA X.env x=pure x:=by intro _;rfl):PE X (.ListComp C1 [⟨tg,jA,An,0⟩] scope pos) (J9 src wi g tt te):=by
 intro ae s σ H Q I h;obtain⟨cl,J_,c1,c2⟩:=l7 I.ok S;rw[eval_ListComp];refine wpAny_comprehension_free (use:=none) (cl:=cl) rfl hs J_ S.kind S.names (cm (hi ae s σ H _ I h) fun v s1 h1=>cm h1 fun SK s2 h2=>?_);obtain⟨it,fp,tn,J,H2,e,I2,T,iH,f2,hw⟩:=h2;subst e;refine qE (RR:=fun dL C=>compPost (model X.prog X.w) X.A X.xe none (EP X ae σ Q) dL C) S (G:=fun _=>True) (fun _ _=>.inl hc) c1 c2 hg ht he I2 T iH f2 (fun D hD=>(hw D hD).g) fun D C H' s' fC I' hm q=>?_;obtain⟨m,hm⟩:=hm;refine⟨m,hm,fun h' sb=>⟨.ref D,H',?_,rfl,q⟩⟩;obtain⟨g0,g1,_,g3,g4,g5⟩:=fC;exact I'.turned (t':=s'.toks) (fun b o hb e=>(sb.2 b hb).trans e) g0 g1 g3 g4 g5
theorem gQ{i:Nat}{y:Str}{py PF:Pos}(S:gP NB src scope X)(hc:X.calm=true)(hi:PI X tg jA wi)(hg:∀cl C s₃ H₃ fp,PG (Am X NB scope cl C s₃ H₃ fp) tg g)(ht:∀cl C s₃ H₃ fp,Oo (Am X NB scope cl C s₃ H₃ fp) An tt)(he:∀cl C s₃ H₃ fp,PE (Am X NB scope cl C s₃ H₃ fp) C1 te)(hN:X.N.Nodup)(hix:X.N[i]?=some y)(hy:X.env.scope.names.lookup y=some .local)(hsw:swapsWith (.ListComp C1 [⟨tg,jA,An,0⟩] scope pos) (some (.Name y py)) PF.line X.env=pure true)(hs:∀x,foldedSetIterable jA X.env x=pure x:=by intro _;rfl):
  PS X (.Assign [.Name y py] (.ListComp C1 [⟨tg,jA,An,0⟩] scope pos) PF) (Ld (J9 src wi g tt te) (bH i)):=by
 intro ae s σ H D0 I h;obtain⟨cl,J_,c1,c2⟩:=l7 I.ok S;rw[exec_Assign_Name_used _ _ _ _ hsw];refine aJ (qo (aJ ?_));show wpAny _ X.A (do let _ <- comprehension (.ListComp C1 [⟨tg,jA,An,0⟩] scope pos) scope X.env _ (newList []) false (eval jA X.env) (some (assign (.Name y py) X.env))) _ _ s;refine aJ (ir (wpAny_comprehension_free (use:=some (assign (.Name y py) X.env)) (Q:=fun _ s'=>SP X ae D0 .next s') (cl:=cl) rfl hs J_ S.kind S.names
  (cm (hi ae s σ H _ I h) fun v s1 h1=>cm h1 fun SK s2 h2=>?_)) (fun _ s' hq=>wpAny_pure (wpAny_pure hq)) fun _ _ e=>e)
 obtain⟨it,fp,tn,J,H2,e,I2,T,iH,f2,hw⟩:=h2;subst e;refine qE (RR:=fun dL C=>compPost (model X.prog X.w) X.A X.xe (some (assign (.Name y py) X.env)) (fun _ s'=>SP X ae D0 .next s') dL C) S (G:=fun _=>True) (fun _ _=>.inl hc) c1 c2 hg ht he I2 T iH f2 (fun D hD=>(hw D hD).g) fun D C H' s' fC I' hm q=>?_;obtain⟨m,hm⟩:=hm;obtain⟨g0,g1,_,g3,g4,g5⟩:=fC;show wpAny _ X.A (assign (.Name y py) X.env (.ref D)) _ _ _;refine wpAny_assign_Name (sA I' hN hix (.inl hy) (v:=.ref D) rfl (fun Pj I'' sb=>?_) (.inr hy));obtain⟨a,sb,ha⟩:=sb;have jD:C≠a:=by
  rcases ha with z|z
  .rw[z];exact g1
  .exact fun z'=>g4 y a z z'.symm
 refine⟨m,hm.sameBut sb jD,fun h' sb'=>⟨_,H',I''.turned (t':=Pj.toks) (fun b o hb e=>(sb'.2 b hb).trans e) g0 g1 g3 g4 g5,q⟩⟩
end
section
variable {P:Program} {w:World} {K:PySem.W.Frag} {mg:Str->Option Value} {base:Heap} {N:List Str} {qual:Str} {scope:Scope} {f:Addr} {cd:Value} {A:Around} {outer:List Env} {s:Shared} {H:Hp} {E:XK}
end
open PySem PySem.Spec PyProof.Rows PySem.W
abbrev bmV:List Value:=[.type "ValueError",.type "Exception",.type "BaseException",.type "object"]
structure BU(K:PySem.W.Frag)(C:Addr):Prop where
 ex:PySem.W.excIn K C bmV "ValueError.__new__"=true
 kp:PySem.W.keepIn K (.ref C)=true
 ga:PySem.W.findIn K (.ref C) "__getattribute__"=some (some (.builtin "BaseException.__getattribute__"))
 gt:PySem.W.findIn K (.ref C) "__getattr__"=some none
 cl:PySem.W.findIn K (.ref C) "__class__"=some (some (.builtin "object.__class__"))
 mo:PySem.W.mroIn K C (.type "object")=some true
 mb:PySem.W.mroIn K C (.type "BaseException")=some true
 ty:(PySem.W.clsIn K C).isSome=true
def UT(p:Addr)(C:Value)(h:Heap):Prop:=∃o,h.get? p=some o/\o.cls=C/\∃vs,o.data=.fields vs/\vs[2]?=some .none
abbrev UU(p:Addr)(C:Value):HO:=.ext (UT p C)
theorem bS.get(x:bS P w H h a o):∃u,h.get? a=some u:=by
 cases o with
 |lst xs=>obtain⟨_,_,_,_,e⟩:=x;exact⟨_,e⟩
 |tup xs=>obtain⟨_,_,_,ob,e,_⟩:=x;exact⟨_,e⟩
 |dK kvs=>obtain⟨_,_,_,_,o,_,_,e,_⟩:=x;exact⟨_,e⟩
 |dT kvs=>obtain⟨_,_,_,_,o,_,_,e,_⟩:=x;exact⟨_,e⟩
 |set S n=>obtain⟨o,_,_,_,e,_⟩:=x;exact⟨_,e⟩
 |ins C dx fs=>obtain⟨_,_,_,e,_⟩:=x;exact⟨_,e⟩
 |own y=>exact x
 |xd fs=>obtain⟨_,⟨_,_,_,e,_⟩,_⟩:=x;exact⟨_,e⟩
 |GC lo hi=>obtain⟨_,_,_,e⟩:=x;exact⟨_,e⟩
 |iR ob u=>obtain⟨e,_⟩:=x;exact⟨_,e⟩
 |nA ps=>exact⟨_,(show h.get? a=some _ from x)⟩
 |met f y=>exact⟨_,(show h.get? a=some _ from x)⟩
 |ext φ=>exact x.2.1
theorem i7.u5(x:i7 P w H h)(e:h.get? a=none):H a=none:=by
 cases q:H a with
 |none=>rfl
 |some u=>obtain⟨o,z⟩:=(x a u q).get;rw[e] at z;cases z
theorem aP.wH(I:aP X ae σ H s)(k:∀b u,s.heap.get? b=some u->h'.get? b=some u)(hp:s.heap.get? a=none)(new:bS X.prog X.w (upd H a o) h' a o):
  aP X ae σ (upd H a o) { s with heap:=h',toks:=t' }:=by
 have hn:=I.bE.u5 hp;have ne:∀b u,s.heap.get? b=some u->b≠a:=fun b u e z=>by rw[z,hp] at e;cases e
 refine I.un ⟨fun b u e _ _ _=>k b u e,fun b u e _ _ _=>⟨u.slots,k b u e⟩,fun b u e n _=>by rw[ai (ne b u e)];exact n,fun b u e _=>⟨u,k b u e⟩,fun b xs e=>by rw[ai (ak e hn)];exact e,fun b u v e=>by rw[ai (ak e hn)];exact e,fun b ps e=>⟨#[],by rw[ai (ak e hn),e];simp⟩⟩ fun b u e=>?_;by_cases hb:b=a
 .subst hb;rw[af] at e;cases e;exact new
 .rw[ai hb] at e;exact(I.bE b u e).oW (fun c v _ q=>k c v q) (fun c q=>by rw[ai (ak q hn)];exact q) fun c xs q=>by rw[ai (ak q hn)];exact q
section
variable {prog:Program} {w:World} {A:Around} {E:Value->Shared->Prop} {s:Shared} {K:PySem.W.Frag} {x C:Addr} {ox:Obj}
theorem Ao(hx:h.get? x=some ox)(hc:ox.cls=.ref C):PySem.W.Looks M h (typeOf (.ref x)) (.ref C):=hc ▸ (PySem.W.Looks.ld hx).andThen .now
open Builtin Builtin.ObjectAttr Builtin.Getset_descriptor in
theorem y9(X:K.In s.heap)(hx:s.heap.get? x=some ox)(hc:ox.cls=.ref C)(hm:PySem.W.mroIn K C (.type "object")=some true)(h:R (.ok (.ret (.ref C))) s):codeAny (model prog w) A (.call (.builtin "getset_descriptor.__get__") ⟨[.builtin "object.__class__",.ref x,tp],[]⟩) R s:=by
 obtain⟨hh,g,dr,t,os⟩:=s;have L0:=Ao (M:=model prog w) hx hc;have L1:=looks_mroIn (M:=model prog w) X hm;refine yu KF.slot_gs.plain KF.entry_gs (KF.slot_gs.check _ _ _ _ _ _ _ _ KF.type_class (KF.args_gs _ _ _) ?_);unfold Builtin.«getset_descriptor.__get__» descrGet;rw[dga_obj];refine aJ (wpAny_pure ?_);unfold descrGetter descrCheckInstance descrNameAndClass isInstance;simp only[KF.owner_class];repeat lk
 refine⟨Code.quiet_builtin _ (by decide +kernel),lP KF.entry_class ?_⟩;unfold Builtin.«object.__class__» shownTypeOf;repeat lk
 exact h
theorem BV{g d t os}(T:BU K C)(X:K.In h)(hx:h.get? x=some ox)(hc:ox.cls=.ref C)(hq:Q (.done (.ret (.ref C))) ⟨h,g,d,t,os⟩):
  wpAny (model prog w) A (Builtin.«object.__getattribute__» ⟨[.ref x,.str "__class__" tk],[]⟩) Q E ⟨h,g,d,t,os⟩:=by
 have f5:=F.typeOf_bexc_args;have hT5:(⟨h,g,d,t,os⟩:Shared).TypeIs (.builtin "object.__class__") "getset_descriptor":=Da;have f5':=Da;have f6:=F.slot_gs_get.lookup;have f7:=F.slot_gs_set.lookup;have L1:=looks_findIn (M:=model prog w) X T.cl;repeat (any_goals (first|assumption|(with_reducible refine yH hx ?_;rw[hc])|with_reducible refine L1.at ?_|wp_step))
 refine y9 (s:=⟨h,g,d,t,os⟩) X hx hc T.mo ?_;repeat (any_goals (first|assumption|wp_step))
theorem BW{g d t os}(T:BU K C)(X:K.In h)(hx:h.get? x=some ox)(hc:ox.cls=.ref C)(hq:Q () ⟨h,g,d,t,os⟩):
  wpAny M A (checkBuiltinCall "BaseException.__getattribute__" ⟨[.ref x,PJ],[]⟩) Q E ⟨h,g,d,t,os⟩:=by
 have hk:builtinKind "BaseException.__getattribute__"=some .slot:=by decide +kernel
 have LC:splitId "BaseException.__getattribute__"=some ("BaseException","__getattribute__"):=by decide +kernel
 have ha:=F.args_bexc_ga (.ref x) PJ;have L1:=looks_mroIn (M:=M) X T.mb;simp only[checkBuiltinCall,hk,LC];refine aJ ?_
 .unfold isInstance;repeat (first|(with_reducible refine yH hx ?_;rw[hc])|with_reducible refine L1.at ?_|wp_step)
  exact hq
theorem LF{tk:Tok}{fill GN:Bool}{Q:Value->Shared->Prop}{h:Heap}{g d t os}(T:BU K C)(X:K.In h)(hx:h.get? x=some ox)(hc:ox.cls=.ref C)(hq:Q (.ref C) ⟨h,g,d,t,os⟩):
  wpAny (model prog w) A (getAttrBy (.ref x) (.str "__class__" tk) fill GN) Q E ⟨h,g,d,t,os⟩:=by
 have f3:=F.attr_ValueError.ga.bind (.ref x);have hx0:(GN&&onTheHeap (Value.builtin "BaseException.__getattribute__"))=false:=by cases GN <;> rfl
 have Ka:(Value.builtin "BaseException.__getattribute__"==Value.builtin "object.__getattribute__")=false:=by decide +kernel
 have hx1:(onTheHeap (Value.ref C)&&Value.builtin "BaseException.__getattribute__"==Value.builtin "object.__getattribute__")=false:=by rw[Ka];rfl
 have L1:=looks_findIn (M:=model prog w) X T.ga;have L2:=looks_findIn (M:=model prog w) X T.gt;repeat (any_goals (first|assumption|(with_reducible refine yH hx ?_;rw[hc])|with_reducible refine L1.at ?_|with_reducible refine L2.at ?_|wp_step))
 refine yu F.attr_ValueError.ga.plain F.entry_bexc_ga (BW T X hx hc (BV T X hx hc ?_));repeat (any_goals (first|assumption|wp_step))
theorem DO{Q:Option Value->Shared->Prop}{h:Heap}{g d t os}(T:BU K C)(X:K.In h)(hx:h.get? x=some ox)(hc:ox.cls=.ref C)(hq:Q (some (.ref C)) ⟨h,g,d,t+1,os⟩):
  wpAny (model prog w) A (getAttr? (.ref x) "__class__") Q E ⟨h,g,d,t,os⟩:=by
 unfold getAttr?;repeat (any_goals (first|assumption|with_reducible apply LF T X hx hc|wp_step))
theorem DP(T:BU K C):PySem.W.KitX K (.ref x) (.ref C) (UT x (.ref C)) where
 ty:=fun _ _ _ ⟨o,e,c,_⟩=>Ao e c
 it:=fun _ _ X _=>by
  obtain⟨cdD,GS⟩:=pU.mp T.ty;unfold clsIn at GS;split at GS
  .rename_i c' d' cd' Ui ho;intro A' Q' E' s' k q;unfold isType loadHead;exact aJ (wpAny_loadPart (k _ _ (X _ _ ho)) (wpAny_pure q))
  .cases GS
 ne:=fun h tp dd its n sl X htp=>by
  obtain⟨cdD,GS⟩:=pU.mp T.ty;refine uu.mpr fun q=>?_;have e:C=tp:=Value.ref.inj (gu.mp q);subst e;unfold clsIn at GS;split at GS
  .rename_i c' d' cd' Ui ho;have z:=(X _ _ ho).symm.trans htp;cases z
  .cases GS
 ca:=fun {_ _ _ _ _ s} X ⟨o,e,c,_⟩ k=>by
  obtain⟨h,g,d,t,os⟩:=s;exact DO T X e c k
end
section
variable {X:Cx}
inductive PL (K:PySem.W.Frag) (H:Hp):V->Value->Prop where
 |of {v:V} {t:Value} (h:nQ K H v t):PL K H v t
 |exc {p C:Addr} (T:BU K C) (e:H p=some (UU p (.ref C))):PL K H (.ref p) (.ref C)
def LH(K:PySem.W.Frag):List V->Hp->VK->Prop:=fun xs H Q=>∃x c cv t b,xs=[x,c]/\(c=.ty cv/\PySem.W.kitOne K t (.type cv)=some b)/\PL K H x t/\Q (.bl b) H
theorem eV:eU X (.builtin "isinstance") (LH X.K):=by
 intro ae s σ H xs us Q I r h;obtain⟨x,c,cv,t,b,rfl,⟨rfl,e⟩,ty,q⟩:=h;obtain⟨u1,u2,rfl,r1,r2⟩:=r.two;obtain rfl:u2=Value.type cv:=r2;cases ty with
 |of ty=>exact BJ I r1 ty e fun tk=>⟨.bl b,H,I.tok tk,rfl,q⟩
 |@exc p C T ea=>
  obtain rfl:u1=Value.ref p:=r1;have p1:UT p (.ref C) s.heap:=(I.bE p _ ea).1;exact jv (DP T) I.nG p1 e (fun z=>nomatch z) fun tk=>⟨.bl b,H,I.tok tk,rfl,q⟩
end
section
variable {X:Cx} {x:Str} {C:Addr} {np uX pos:Pos} {e:Expr} {es:List Expr} {t:TA}
end
section
variable {X:Cx} {CX:wu} {k:Nat} {f C:Addr} {fd:FuncData} {ps:List Str} {sp:Sp} {rK:List V} {ds:List Value} {E:St->XK} {x m:Str} {p pos uP:Pos} {e o:Expr} {es:List Expr} {ta:TE} {t:TA}
end
section
variable {X:Cx} {CX:wu} {k:Nat} {f:Addr} {fd:FuncData} {ps:List Str} {sp:Sp} {rK:List V} {ds:List Value} {E:XK} {x:Str} {p pos:Pos} {e:Expr} {es:List Expr} {t:TA}
end
section
variable {P:Program} {w:World} {K:PySem.W.Frag} {mg:Str->Option Value} {base:Heap}
end
section
variable {X:Cx} {ae:List (Addr×Obj)} {σ:St} {H:Hp} {s:Shared}
end
section
variable {X:Cx} {CX:wu} {k:Nat} {f:Addr} {fd:FuncData} {ps:List Str} {sp:Sp} {rK:List V} {ds:List Value} {E:XK} {x:Str} {p pos:Pos} {e:Expr} {es:List Expr} {t:TA}
end
section
variable {P:Program} {w:World} {K:PySem.W.Frag} {mg:Str->Option Value} {base:Heap}
end
theorem He{h:Heap}{a:Addr}{m m':Str->Option Value}(x:h.Ns a m)(y:h.Ns a m'):m=m':=by
 obtain⟨o,es,ep,e,d,_,q⟩:=x;obtain⟨o',vT,K8,e',d',_,q'⟩:=y;rw[e] at e';cases e';rw[d] at d';cases d';funext z;rw[<-q z,q' z]
theorem aP.PM{X:Cx}{ae:List (Addr×Obj)}{σ:St}{H:Hp}{s:Shared}{h':Heap}{m:Str->Option Value}{D:Addr}{o:HO}{t':Nat}(I:aP X ae σ H s)(F:Fr X.base X.env.locals s.heap m)(F':Fr X.base X.env.locals h' m)(N':News X.base X.env.locals h' (i8 X.base s.heap X.env.locals))(hD:s.heap.get? D=none)(new:bS X.prog X.w (upd H D o) h' D o):aP X ae σ (upd H D o) { s with heap:=h',toks:=t' }:=by
 have hn:=I.bE.u5 hD;have ne:∀b u,s.heap.get? b=some u->b≠D:=fun b u e z=>by rw[z,hD] at e;cases e
 have keep:∀b u,b≠X.env.locals->s.heap.get? b=some u->h'.get? b=some u:=fun b u hb e=>by
  cases q:X.base.get? b with
  |some v=>
   have:=I.bk b v q;rw[e] at this;cases this;exact F'.keep b _ q
  |none=>exact(N' (b,u) (jT hb q e)).1
 refine I.step (g':=s.gens) (d':=s.drawn) (ch:=[]) (fun _ z=>absurd z (by simp)) (fun b u hb _ _ e _=>keep b u hb e) (fun b u hb _ _ e _=>⟨u.slots,keep b u hb e⟩) (fun b u _ e n=>by rw[ai (ne b u e)];exact n) (fun b u _ e=>?_)
  (fun b xs e=>by rw[ai (ak e hn)];exact e) (fun b u v e=>by rw[ai (ak e hn)];exact e) (fun b ps e=>⟨#[],by rw[ai (ak e hn),e];simp⟩) (fun m1 hm=>by rw[He hm F.ns];exact F'.ns) (fun b u e=>?_) I.bare
 .by_cases hb:b=X.env.locals
  .obtain⟨o',_,_,q,_⟩:=F'.ns;exact⟨o',by rw[hb];exact q⟩
  .exact⟨u,keep b u hb e⟩
 .by_cases hb:b=D
  .subst hb;rw[af] at e;cases e;exact new
  .rw[ai hb] at e;refine(I.bE b u e).oW (fun c v hc q=>keep c v ?_ q) (fun c q=>by rw[ai (ak q hn)];exact q) fun c xs q=>by rw[ai (ak q hn)];exact q
   rintro rfl;rcases hc with z|hc
   .have f:=I.free;rw[z,e] at f;cases f
   .rw[I.free] at hc;cases hc
theorem rZ(I:aP X ae σ H s)(N:News X.base X.env.locals h' ((D,o)::i8 X.base s.heap X.env.locals))(d9:∀q∈i8 X.base s.heap X.env.locals,q.1<D):s.heap.get? D=none:=by
 cases e:s.heap.get? D with
 |none=>rfl
 |some u=>
  obtain⟨_,n1,n2⟩:=N (D,o) cq;exact absurd (d9 (D,u) (jT n1 n2 e)) (jw _)
def DQ(K:PySem.W.Frag)(H:Hp)(a:Addr)(y:Int×Int):Prop:=cR K H a [.int y.1,.int y.2]
section
variable {X:Cx}
theorem y_(I:aP X ae σ H s)(h:DQ X.K H a y):∃o n t u,s.heap.get? a=some o/\o.cls=.type "tuple"/\o.data=.seq #[.int y.1 t,.int y.2 u] n:=by
 obtain⟨its,r,p,_⟩:=I.tuple h;obtain⟨u1,u2,rfl,r1,r2⟩:=r.two;obtain⟨t,rfl⟩:=r1;obtain⟨t',rfl⟩:=r2;obtain⟨o,e,c,n,d⟩:=p;exact⟨o,n,t,t',e,c,d⟩
end
def LI(hs:Array Int)(i:Nat):Int:=(hs[i]?).getD 0
def fU(hs:Array Int)(t:SetTable)(h:Int):Option (Array Int×SetTable):=
 if t.gaveWay then none else
 match t.probe (LI hs) h (t.probeStart h) with
 |some (.empty j none)=>
  let q:=t.put j
  let Kb:=SetTable.insertAt hs q.2 h
  if q.1.fits Kb.size&&decide (Kb.size<=4096) then
   if q.1.tooFull then
    (match q.1.relaid Kb (SetTable.grown (hs.size+1)) with
    |some (t2,jx)=>
     let qx:=jx.filterMap (Kb[·]?)
     if qx.size==Kb.size&&t2.fits qx.size&&decide (SetTable.sizeAbove (SetTable.grown (hs.size+1))<=4096) then some (qx,t2) else none
    |none=>none)
   else some (Kb,q.1)
  else none
 |_=>none
def u6(led:Bool):List Int->Option (Array Int×SetTable):=fun l=>l.foldlM (fun q h=>fU q.1 q.2 h) (#[],SetTable.fresh 0 0 led)
def j5(h:Heap)(S:Addr)(hs:Array Int)(t:SetTable):Prop:=∃o es ep,h.get? S=some o/\o.cls=.type "set"/\(o.dict=none/\o.slots=#[])/\o.data=.set es ep t/\es.map (·.1)=hs/\t.fits es.size=true
section
variable {prog:Program} {w:World} {A:Around} {E:Value->Shared->Prop} {s:Shared} {S:Addr}
theorem LJ(es:Array (Int×Value)):(fun i=>(es[i]?.map (·.1)).getD 0)=LI (es.map (·.1)):=by
 funext i;unfold LI;rw[Array.getElem?_map]
theorem mJ(es:Array (Int×Value))(p:Nat)(x:Int×Value):(SetTable.insertAt es p x).map (·.1)=SetTable.insertAt (es.map (·.1)) p x.1:=by
 unfold SetTable.insertAt;simp
theorem nX(es:Array (Int×Value))(jx:Array Nat):(jx.filterMap (es[·]?)).map (·.1)=jx.filterMap ((es.map (·.1))[·]?):=by
 apply Array.ext';rw[qd,ue,ue,List.map_filterMap];congr 1;funext i;rw[Array.getElem?_map]
theorem zc(hS:j5 s.heap S hs t)(hg:t.gaveWay=false)(hp:t.probe (LI hs) h (t.probeStart h)=some (.empty j none))(q:Q (.free j false) s):
  wpAny (model prog w) A (setSearch S x h true) Q E s:=by
 obtain⟨o,es,ep,ho,hc,Ys,hd,hm,hf⟩:=hS;unfold setSearch setSearchFrom;refine aJ (uw ho hd hf ?_);dsimp only;rw[hg,ap cz];have Gm:t.probe (fun i=>(es[i]?.map (·.1)).getD 0) h (t.probeStart h)=some (.empty j none):=by rw[LJ,hm];exact hp
 refine aJ (wpAny_pure ?_);erw[Gm];exact wpAny_pure q
theorem BX(ho:s.heap.get? a=some o)(hc:o.cls=.type "tuple")(hd:o.data=.seq #[.int x t,.int y u] n)(q:Q true s):
  wpAny (model prog w) A (hashByValue 8 (.ref a)) Q E s:=by
 have hT:s.TypeIs (.ref a) "tuple":=⟨_,ho,hc⟩
 unfold hashByValue;refine aJ (wpAny_specialOf hT PySem.F.slot_tuple_hash.lookup ?_);refine aJ (uE ho hd ?_);refine aJ ?_;show wpAny _ _ (forIn #[Value.int x t,Value.int y u] _ _) _ _ s;rw[<-Array.forIn_toList];refine wpAny_forIn_list _ (fun oY r s'=>r.1=none/\s'=s/\∀v∈oY,∃z k,v=Value.int z k) _ ?_ ?_ _ _ ⟨rfl,rfl,fun v hv=>?_⟩
 .rintro v oY r s' ⟨hr,rfl,rY⟩;obtain⟨z,k,rfl⟩:=rY v cq;refine aJ (wpAny_pure ?_);exact wpAny_pure ⟨rfl,rfl,fun u' wI=>rY u' (cy _ wI)⟩
 .rintro⟨r1,r2⟩ s' ⟨hr,rfl,_⟩;have vU:r1=none:=hr;subst vU;exact wpAny_pure q
 .rcases bP.mp hv with z|z
  .exact⟨_,_,z⟩
  .rcases bP.mp z with z|z
   .exact⟨_,_,z⟩
   .cases z
theorem Ap(hS:j5 s.heap S hs t)(hf:t'.fits vT.size=true)(hz:vT.size<=4096)(q:∀h',Heap.SameBut S s.heap h'->j5 h' S (vT.map (·.1)) t'->Q () { s with heap:=h' }):wpAny (model prog w) A (storeSet S vT t') Q E s:=by
 obtain⟨o,es,ep,ho,hc,Ys,hd,hm,_⟩:=hS;refine wpAny_storeSet_of ho hd (q _ (Heap.SameBut.update s.heap S (Obj.putSet vT t')) ?_) (bj hz (by decide));have g:=uq (Obj.putSet vT t') ho (by rw[putSet_of vT t' hd];rfl);rw[putSet_of vT t' hd] at g;exact⟨_,vT,ep+1,g,hc,Ys,rfl,rfl,hf⟩
theorem Hf(hu:A.units<cLine)(hS:j5 s.heap S hs t)(ho:s.heap.get? a=some o)(hc:o.cls=.type "tuple")(hd:o.data=.seq #[.int x tx,.int y ty] n)(jD:a≠S)(nI:fU hs t (tupleKeyHash (intKind prog w) [x,y])=some (hs',t'))(q:∀h' tk,Heap.SameBut S s.heap h'->j5 h' S hs' t'->Q true { s with heap:=h',toks:=tk }):wpAny (model prog w) A (setAdd S (.ref a)) Q E s:=by
 have hk:IsTupleKey (intKind prog w) s.heap [x,y] a:=⟨o,_,n,ho,hc,hd,.cons (intKind_is _ _ _ _) (.cons (intKind_is _ _ _ _) .nil)⟩
 unfold setAdd;refine jM (aJ (wpAny_pyHash_tuple hu hk ?_));generalize UF:s.toks+([x,y].length+1)=tk;generalize hh:tupleKeyHash (intKind prog w) [x,y]=h at nI |-;have Yt:=hS;obtain⟨ob,es,ep,hb,UV,hbd,Gh,hm,hf⟩:=hS;unfold setAddHashed setAddHashedIn;refine jM (aJ (uw (s:={ s with toks:=tk }) hb Gh hf ?_));dsimp only;have Op:byScan (.ref a) es=false:=by unfold byScan;rfl
 rw[Op,ap cz];unfold fU at nI;cases hg:t.gaveWay with
 |true=>rw[hg,ao rfl] at nI;cases nI
 |false=>
  rw[hg,ap cz] at nI;split at nI
  .rename_i j hp;dsimp only at nI;split at nI
   .rename_i SW;rw[dX,lJ] at SW;refine aJ (zc (s:={ s with toks:=tk }) Yt hg hp ?_);dsimp only;refine aJ (uw (s:={ s with toks:=tk }) hb Gh hf ?_);dsimp only;have byv:∀ {kk:Bool->Sem Bool},wpAny (model prog w) A (kk true) Q E { s with toks:=tk }->wpAny (model prog w) A (if (t.put j).1.plain=true then hashByValue 8 (.ref a) >>= kk else pure true >>= kk) Q E { s with toks:=tk }:=fun {kk} hP=>by
     split
     .exact aJ (BX (s:={ s with toks:=tk }) ho hc hd hP)
     .exact aJ (wpAny_pure hP)
    refine byv ?_;simp only[i6];have hsz:(SetTable.insertAt es (t.put j).2 (h,Value.ref a)).size=(SetTable.insertAt hs (t.put j).2 h).size:=by
     rw[<-hm,<-mJ es (t.put j).2 (h,Value.ref a),iU]
    refine aJ (Ap (s:={ s with toks:=tk }) Yt (by rw[hsz];exact SW.1) (by rw[hsz];exact SW.2) fun h1 Aq S1=>?_);rw[mJ,hm] at S1;split at nI
    .rename_i UW;rw[show (!false&&(t.put j).1.tooFull)=true by rw[UW];rfl,ao rfl];split at nI
     .rename_i t2 jx hr;split at nI
      .rename_i hq;rw[dX,dX,lJ,gu] at hq;obtain⟨⟨Kc,SX⟩,Yu⟩:=hq;cases nI;have hes:es.size=hs.size:=by rw[<-hm,iU]
       refine aJ ?_;unfold setRelay;obtain⟨o1,Hg,ep1,g1,g2,g3,g4,g5,g6⟩:=id S1;refine aJ (uw (s:={ s with heap:=h1,toks:=tk }) g1 g4 g6 ?_);dsimp only;rw[hes];rw[ap (by (have h4:(4096:Nat)<=sizeLine:=by decide);lia)];refine aJ ?_;rw[g5,hr];have ze:(jx.filterMap (Hg[·]?)).size=Hg.size:=by
        have e1:=congrArg Array.size (nX Hg jx);rw[iU,g5] at e1;rw[e1,Kc,<-g5,iU]
       refine wpAny_of_eq (show _=(pure (jx.filterMap (Hg[·]?),t'):Sem (Array (Int×Value)×SetTable)) from ?_) ?_
       .show (do
         let vT:=jx.filterMap (Hg[·]?)
         if vT.size != Hg.size then unsupported "internal:set-table-lost-an-element"
         pure (vT,t'):Sem (Array (Int×Value)×SetTable))=_
        simp[ze]
       dsimp only;have UX:Hg.size<=4096:=by
        have e1:=congrArg Array.size g5;rw[iU] at e1;rw[e1];exact SW.2
       have hfm:(jx.filterMap (Hg[·]?)).size=(jx.filterMap ((SetTable.insertAt hs (t.put j).2 h)[·]?)).size:=by
        have e1:=congrArg Array.size (nX Hg jx);rw[iU,g5] at e1;exact e1
       refine Ap (s:={ s with heap:=h1,toks:=tk }) S1 (by rw[hfm];exact SX) (by rw[ze];exact UX) fun h2 DR S2=>?_;rw[nX,g5] at S2;exact wpAny_pure (q h2 tk (Aq.trans DR) S2)
      .cases nI
     .cases nI
    .rename_i UW;cases nI;have UY:(t.put j).1.tooFull=false:=by simpa using UW
     rw[show (!false&&(t.put j).1.tooFull)=false by rw[UY];rfl,ap cz];exact wpAny_pure (q h1 tk Aq S1)
   .cases nI
  .cases nI
end
section
variable {prog:Program} {w:World} {A:Around} {E:Value->Shared->Prop} {s:Shared} {S Ia l:Addr} {R:Result->Shared->Prop}
def jb(h:Heap)(vs:List Value)(ys:List (Int×Int)):Prop:=vs.length=ys.length/\∀i v,vs[i]?=some v->∃a o n t u,v=.ref a/\h.get? a=some o/\o.cls=.type "tuple"/\o.data=.seq #[.int (ys.getD i (0,0)).1 t,.int (ys.getD i (0,0)).2 u] n
theorem jb.keeps(p:jb h vs ys)(k:∀b o,(∃xs n,o.data=.seq xs n)->h.get? b=some o->h'.get? b=some o):jb h' vs ys:=
 ⟨p.1,fun i v e=>let ⟨a,o,n,t,u,e1,e2,c,d⟩:=p.2 i v e;⟨a,o,n,t,u,e1,k a o ⟨_,_,d⟩ e2,c,d⟩⟩
def fu(prog:Program)(w:World)(y:Int×Int):Int:=tupleKeyHash (intKind prog w) [y.1,y.2]
theorem DS(hh:A.handled=none)(hu:A.units+1<cLine)(hlS:l≠S)(UZ:l≠Ia)(U0:S≠Ia):
  ∀ (k i:Nat) (s:Shared) (hs:Array Int) (t:SetTable),vs.length-i=k->i<=vs.length->s.heap.IsListIter Ia l i->s.heap.IsList l vs.toArray->jb s.heap vs ys->j5 s.heap S hs t->
   ((ys.drop i).map (fu prog w)).foldlM (fun q h=>fU q.1 q.2 h) (hs,t)=some (hsN,tN)->
   (∀h' tk,(∀b o,b≠S->b≠Ia->s.heap.get? b=some o->h'.get? b=some o)->j5 h' S hsN tN->R (.ok (.ret .none)) { s with heap:=h',toks:=tk })->
   codeAny (model prog w) A (.builtin "set.update.loop" ⟨[.ref S,.ref Ia],[]⟩) R s:=by
 intro k;induction k with
 |zero=>
  intro i s hs t hk hi rJ hl hp hS hf hR;have e:i=vs.length:=by lia
  refine lP C6 ?_;rw[p_ xS _];show wpAny _ A.in1 (pyNext (.ref Ia) >>= _) _ _ s;refine aJ (yq (show A.in1.handled=none from hh) rJ hl (by simp;lia) fun h' eb=>?_);show wpAny _ A.in1 (ret Value.none) _ _ _;have hd:ys.drop i=[]:=by rw[List.drop_eq_nil_iff];have:=hp.1;lia
  rw[hd] at hf;cases hf;obtain⟨o,es,ep,q1,q2⟩:=hS;exact wpAny_pure (hR h' s.toks (fun b o hb Hh e=>eb b o Hh e) ⟨o,es,ep,eb S o U0 q1,q2⟩)
 |succ k ih=>
  intro i s hs t hk hi rJ hl hp hS hf hR;have d9:i<vs.length:=by lia
  refine lP C6 ?_;rw[p_ xS _];show wpAny _ A.in1 (pyNext (.ref Ia) >>= _) _ _ s;have hv:vs[i]?=some vs[i]:=bY d9;refine aJ (yi rJ hl (x:=vs[i]) (by simpa using hv) fun h1 LK Aq=>?_);obtain⟨a,o,n,tx,ty,ea,eo,ec,ed⟩:=hp.2 i _ hv;rw[ea];have PN:∀b ob,(∃xs n,ob.data=.seq xs n)->s.heap.get? b=some ob->b≠Ia:=fun b ob ⟨xs,m,z⟩ e z'=>by
   obtain⟨oi,e1,_,d1⟩:=rJ;rw[z',e1] at e;cases e;rw[d1] at z;cases z
  have U1:jb h1 vs ys:=hp.keeps fun b ob hb e=>(Aq.2 b (PN b ob hb e)).trans e;have Yv:j5 h1 S hs t:=by
   obtain⟨oS,es,ep,q1,q2⟩:=hS;exact⟨oS,es,ep,(Aq.2 S U0).trans q1,q2⟩
  have Hi:h1.IsList l vs.toArray:=by
   obtain⟨ol,q1,q2⟩:=hl;exact⟨ol,(Aq.2 l UZ).trans q1,q2⟩
  have PP:h1.get? a=some o:=(Aq.2 a (PN a o ⟨_,_,ed⟩ eo)).trans eo;have Yw:∀b ob,(∃xs n,ob.data=.seq xs n)->h1.get? b=some ob->b≠S:=fun b ob ⟨xs,m,z⟩ e z'=>by
   obtain⟨oS,es,ep,q1,_,_,q4,_⟩:=Yv;rw[z',q1] at e;cases e;rw[q4] at z;cases z
  have BY:i<ys.length:=by have:=hp.1;lia
  have U2:ys.drop i=ys[i]::ys.drop (i+1):=ua BY;have hgy:ys.getD i (0,0)=ys[i]:=by rw[bQ,bY BY];rfl
  rw[U2,cQ,List.foldlM_cons] at hf;cases nI:fU hs t (fu prog w ys[i]) with
  |none=>rw[nI] at hf;cases hf
  |some q=>
   obtain⟨qx,t2⟩:=q;rw[nI] at hf;have Yx:((ys.drop (i+1)).map (fu prog w)).foldlM (fun q h=>fU q.1 q.2 h) (qx,t2)=some (hsN,tN):=hf;show wpAny _ A.in1 (holding [Value.ref a] (setAdd S (.ref a)) >>= _) _ _ _;refine aJ (jM (Hf (s:={ s with heap:=h1 }) (by show A.units+1<cLine;exact hu) Yv PP ec ed (Yw a o ⟨_,_,ed⟩ PP) (hs':=qx) (t':=t2) (by rw[hgy];exact nI) fun h2 tk DR S2=>?_));refine wpAny_pure ⟨plainId_quiet xS _,?_⟩;refine ih (i+1) { s with heap:=h2,toks:=tk } qx t2 (by lia) d9 ?_ ?_ (U1.keeps fun b ob hb e=>(DR.2 b (Yw b ob hb e)).trans e) S2 Yx fun h3 U3 k3 S3=>?_
   .obtain⟨oi,q1,q2⟩:=LK;exact⟨oi,(DR.2 Ia (Ne.symm U0)).trans q1,q2⟩
   .obtain⟨ol,q1,q2⟩:=Hi;exact⟨ol,(DR.2 l hlS).trans q1,q2⟩
   .exact hR h3 U3 (fun b ob hb Hh e=>k3 b ob hb Hh ((DR.2 b hb).trans ((Aq.2 b Hh).trans e))) S3
theorem DT{vs:List Value}{ys:List (Int×Int)}{hsN:Bool->Array Int}{tN:Bool->SetTable}{Q:Value->Shared->Prop}(hh:A.handled=none)(hu:A.units+8<cLine)(hl:s.heap.IsList l vs.toArray)(hp:jb s.heap vs ys)(BZ:∀led,u6 led (ys.map (fu prog w))=some (hsN led,tN led))(h:∀ (led:Bool) (h':Heap) (tk:Nat),j5 h' s.heap.objs.size (hsN led) (tN led)->(∀b o,b<s.heap.objs.size->s.heap.get? b=some o->h'.get? b=some o)->Q (.ref s.heap.objs.size) { s with heap:=h',toks:=tk }):
  wpAny (model prog w) A (call (.type "set") [.ref l]) Q E s:=by
 obtain⟨c,tl,aac⟩:=oG.mro;have c1:=oG.made;have c2:=oG.sub;refine ny (codeAny_of_tree ?_);show wpAny _ _ (callAny (.type "set") _) _ _ _;refine wpAny_pure ⟨Code.quiet_builtin _ (by decide +kernel),lP PySem.F.entry_type_call ?_⟩;rw[Around.under_plain (weight_type_call_type "set" [.ref l] []) rfl];have c3:=oG.notType;have c4:=oG.canCreate;have c5:=PySem.F.typeCall_set_1 (.ref l);repeat (any_goals (first|assumption|wp_step))
 refine lT (code_set_new_1 (.ref l) (E:=E) (Q₁:=fun obj s₁=>∃led:Bool,obj=.ref s.heap.objs.size/\s₁={ s with heap:=s.heap.push { cls:=.type "set",dict:=none,data:=.set #[] 0 (.fresh 0 0 led) } }) fun led=>⟨led,rfl,rfl⟩) fun r s₁ hr=>?_;cases r with
 |error e=>exact hr
 |ok fl=>
  cases fl with
  |next=>exact hr.elim
  |brk=>exact hr.elim
  |cont=>exact hr.elim
  |ret obj=>
   obtain⟨led,rfl,rfl⟩:=hr;generalize U4:s.heap.push { cls:=.type "set",dict:=none,data:=.set #[] 0 (.fresh 0 0 led) }=hS;have hsz:hS.objs.size=s.heap.objs.size+1:=by rw[<-U4,iV]
   have gS:hS.get? s.heap.objs.size=some { cls:=.type "set",dict:=none,data:=.set #[] 0 (.fresh 0 0 led) }:=by rw[<-U4];exact dh _ rfl
   have up:∀b o,s.heap.get? b=some o->hS.get? b=some o:=fun b o e=>by rw[<-U4];exact cD _ e
   have hT:Shared.TypeIs { s with heap:=hS } (.ref s.heap.objs.size) "set":=⟨_,gS,rfl⟩
   have c6:=oG.init.lookup;have c7:=oG.init.bind (.ref s.heap.objs.size);repeat (any_goals (first|assumption|wp_step))
   refine lT (yu (R:=wants (fun r s₂=>r=.none/\∃h' tk,s₂={ s with heap:=h',toks:=tk }/\j5 h' s.heap.objs.size (hsN led) (tN led)/\
     (∀b o,b<s.heap.objs.size->s.heap.get? b=some o->h'.get? b=some o)) E) oG.init.plain PySem.F.entry_set_init (check_set_init_1 hT ?_)) fun r₂ s₂ PQ=>?_
   .obtain⟨ol,Kd,J_,nl,SY⟩:=hl;obtain⟨aad,Yy,Yz,U5⟩:=ol;simp only at J_ SY;subst J_;subst SY;have U6:=up _ _ Kd;have c8:=PySem.F.sub_list_set;have c9:=PySem.F.sub_list_frozenset;have c10:(Value.type "list"==Value.type "dict")=false:=by decide
    have Hi:hS.IsList l vs.toArray:=⟨_,U6,rfl,nl,rfl⟩
    unfold Builtin.«set.__init__» noKeywords Builtin.Frozenset.updateFrom;generalize hPI:pyIter=PI
    wp_walk
    subst hPI;refine qe Hi ?_;refine aJ (wpAny_runValue ?_);have d9:l<s.heap.objs.size:=a_ Kd;refine DS (l:=l) (vs:=vs) (ys:=ys) (hsN:=hsN led) (tN:=tN led) (by simp[hh]) (by simp;lia) (aZ d9) (by rw[hsz];exact aZ (fk d9)) (by rw[hsz];exact aZ (jK _))
     (vs.length-0) 0 _ #[] (.fresh 0 0 led) rfl (dv _) ⟨_,dh _ rfl,rfl,rfl⟩ (Hi.push _) (hp.keeps fun b o _ e=>cD _ (up b o e)) ⟨_,#[],0,cD _ gS,rfl,⟨rfl,rfl⟩,rfl,by simp,rfl⟩ (BZ led) fun h' tk k S'=>?_
    show wpAny _ _ _ _ _ _;refine wpAny_pure ?_;show wpAny _ _ (ret Value.none) _ _ _;refine wpAny_pure ⟨rfl,h',tk,rfl,S',fun b o hb e=>?_⟩;exact k b o (aZ hb) (by rw[hsz];exact aZ (fk hb)) (cD _ (up b o e))
   .cases r₂ with
    |error e=>exact PQ
    |ok fl₂=>
     cases fl₂ with
     |next=>exact PQ.elim
     |brk=>exact PQ.elim
     |cont=>exact PQ.elim
     |ret r=>
      obtain⟨rfl,h',tk,rfl,S',k⟩:=PQ;repeat (any_goals (first|assumption|wp_step))
      exact h led h' tk S' k
end
open PySem
def DU(l:List Nat):Nat:=l.foldl (fun a x=>a ||| (1 <<< x)) 0
theorem B0(l:List Nat)(a j:Nat):(l.foldl (fun a x=>a ||| (1 <<< x)) a).testBit j=(a.testBit j||l.contains j):=by
 induction l generalizing a with
 |nil=>simp
 |cons x xs ih=>
  rw[jO,ih,Nat.testBit_or,List.contains_cons];have:(1 <<< x).testBit j=(j==x):=by
   rw[Nat.one_shiftLeft,Nat.testBit_two_pow];by_cases h:x=j
   .simp[h]
   .have h':¬ j=x:=fun e=>h e.symm;simp[h,h']
  rw[this,Bool.or_assoc]
theorem oJ(h:DU l=2 ^ n-1)(hj:j<n):j∈l:=by
 have e:=B0 l 0 j;have h':l.foldl (fun a x=>a ||| (1 <<< x)) 0=2 ^ n-1:=h;rw[h',Nat.testBit_two_pow_sub_one] at e;simp[hj] at e;exact e
def DV(M:Nat):Nat->Nat->Nat
 |0,i=>i
 |n+1,i=>DV M n ((i*5+1) % M)
theorem pB(M a:Nat):∀b i,DV M (b+a) i=DV M a (DV M b i)
 |0,i=>by rw[qk];rfl
 |b+1,i=>by
  rw[show b+1+a=(b+a)+1 by lia];show DV M (b+a) _=DV M a (DV M b _);exact pB M a b _
def LL(M:Nat):Nat->Nat->List Nat
 |0,_=>[]
 |n+1,i=>i::LL M n ((i*5+1) % M)
theorem qF:∀ {n i},j∈LL M n i->∃k,k<n/\DV M k i=j
 |0,_,h=>by cases h
 |n+1,i,h=>by
  rcases bP.mp h with z|z
  .exact⟨0,by lia,z.symm⟩
  .obtain⟨k,a,b⟩:=qF z;exact⟨k+1,by lia,b⟩
structure sX(M:Nat):Prop where
 all:DU (LL M M 0)=2 ^ M-1
 back:DV M M 0=0
theorem U7:sX 8:=⟨by decide +kernel,by decide +kernel⟩
theorem Ke:sX 32:=⟨by decide +kernel,by decide +kernel⟩
theorem DW:sX 128:=⟨by decide +kernel,by decide +kernel⟩
theorem DX:sX 512:=⟨by decide +kernel,by decide +kernel⟩
theorem sX.cover(R:sX M)(hi:i<M)(hj:j<M):∃n,n<M/\DV M n i=j:=by
 obtain⟨a,ha,ea⟩:=qF (oJ R.all hi);obtain⟨b,hb,eb⟩:=qF (oJ R.all hj);by_cases h:a<=b
 .refine⟨b-a,by lia,?_⟩;rw[<-ea,<-pB,show a+(b-a)=b by lia,eb]
 .refine⟨M+b-a,by lia,?_⟩;rw[<-ea,<-pB,show a+(M+b-a)=M+b by lia,pB,R.back,eb]
def gw(mask:Nat):Nat->Nat×Nat->Nat×Nat
 |0,q=>q
 |n+1,q=>gw mask n (SetTable.leap mask q.1 q.2)
theorem sY(m a:Nat):∀b q,gw m (b+a) q=gw m a (gw m b q)
 |0,q=>by rw[qk];rfl
 |b+1,q=>by
  rw[show b+1+a=(b+a)+1 by lia];exact sY m a b _
theorem wJ:∀ {n:Nat} {q:Nat×Nat},q.1<m+1->(gw m n q).1<m+1
 |0,_,h=>h
 |n+1,q,h=>wJ (n:=n) (Nat.mod_lt _ (ql _))
theorem Ar:∀ {n:Nat} {q:Nat×Nat},(gw m n q).2=q.2 / 32 ^ n
 |0,_=>by simp[gw]
 |n+1,q=>by
  show (gw m n _).2=_;rw[Ar];show q.2 / 32 / 32 ^ n=_;rw[Nat.div_div_eq_div_mul,Nat.pow_succ,Nat.mul_comm]
theorem sZ:∀ {n i:Nat},gw m n (i,0)=(DV (m+1) n i,0)
 |0,_=>rfl
 |n+1,i=>by
  show gw m n (SetTable.leap m i 0)=_;unfold SetTable.leap;simp only[Nat.zero_div,iq];exact sZ
theorem oK(R:sX (m+1))(hi:i<m+1)(hp:p<2 ^ 64)(hj:j<m+1):∃n,n<m+14/\(gw m n (i,p)).1=j:=by
 have h1:=wJ (m:=m) (n:=13) (q:=(i,p)) hi;have h2:(gw m 13 (i,p)).2=0:=by
  rw[Ar];exact Nat.div_eq_of_lt (bV hp (by decide))
 obtain⟨n,hn,e⟩:=R.cover h1 hj;refine⟨13+n,by lia,?_⟩;rw[sY];have:gw m 13 (i,p)=((gw m 13 (i,p)).1,0):=Prod.ext rfl h2;rw[this,sZ];exact e
theorem As(h:Int):SetTable.bits h<2 ^ 64:=by
 unfold SetTable.bits;have a:=iS h (show (2 ^ 64:Int)≠0 by decide);have b:=mw h (show (0:Int)<2 ^ 64 by decide);lia
theorem PR{M:Nat}{l:List Nat}(h:l.length<M):∃j,j<M/\j∉l:=by
 have key:∀ (a b:List Nat),a.Nodup->(∀x∈a,x∈b)->a.length<=b.length:=by
  intro a;induction a with
  |nil=>intro b _ _;exact dv _
  |cons x xs ih=>
   intro b hn hs;obtain⟨h1,h2⟩:=dq.mp hn;have hx:x∈b:=hs x cq;have:=ih (b.erase x) h2 fun y hy=>(yf (fun (e:y=x)=>h1 (e ▸ hy))).mpr (hs y (cy _ hy));rw[xW hx] at this;have:0<b.length:=pW hx;rw[cG];lia
 apply sv;intro LM;have:=key (List.range M) l jN fun x hx=>sv fun s_=>LM ⟨x,bL.mp hx,s_⟩;rw[fq] at this;lia
def zf(mask i p:Nat):SetTable.Probe:={ j:=i,more:=SetTable.runEnd mask i-i,i:=i,perturb:=p,dummy:=none }
theorem LP(mask i:Nat):SetTable.runEnd mask i-i<=9:=by unfold SetTable.runEnd;split <;> lia
theorem u7{t:SetTable}(hd:t.dummies=#[])(j:Nat):t.slot j=.empty\/∃i,t.slot j=.live i/\t.place[i]?=some j:=by
 unfold SetTable.slot;dsimp only;split
 .rename_i h;exact .inr ⟨_,rfl,by simpa using h⟩
 .left;rw[hd];rfl
theorem zg{t:SetTable}(hd:t.dummies=#[]){j:Nat}(h:j∉t.place.toList):t.slot j=.empty:=by
 rcases u7 hd j with e|⟨i,_,e2⟩
 .exact e
 .exact absurd (by rw[<-lm] at e2;exact dW e2) h
section
variable {t:SetTable} {hashAt:Nat->Int} {h:Int}
theorem DY(hd:t.dummies=#[])(hh:∀i,i<t.place.size->hashAt i≠h)(i p:Nat):∀ (r:Nat) (j fY:Nat),
  (∃j',SetTable.probe.go t hashAt h (fY+r+1) { j:=j,more:=r,i:=i,perturb:=p,dummy:=none }=some (.empty j' none))\/
  SetTable.probe.go t hashAt h (fY+r+1) { j:=j,more:=r,i:=i,perturb:=p,dummy:=none }=SetTable.probe.go t hashAt h fY (zf t.mask (SetTable.leap t.mask i p).1 (SetTable.leap t.mask i p).2)
 |0,j,fY=>by
  rcases u7 hd j with e|⟨k,e,e2⟩
  .exact .inl ⟨j,by unfold SetTable.probe.go;rw[e]⟩
  .right;have hk:k<t.place.size:=(Dd.mp e2).1;conv=>lhs;unfold SetTable.probe.go
   rw[e];simp only[gu,hh k hk,fK];rfl
 |r+1,j,fY=>by
  rcases u7 hd j with e|⟨k,e,e2⟩
  .exact .inl ⟨j,by rw[show fY+(r+1)+1=(fY+r+1)+1 by lia];unfold SetTable.probe.go;rw[e]⟩
  .have hk:k<t.place.size:=(Dd.mp e2).1;have st:SetTable.probe.go t hashAt h (fY+(r+1)+1) { j:=j,more:=r+1,i:=i,perturb:=p,dummy:=none }=SetTable.probe.go t hashAt h (fY+r+1) { j:=j+1,more:=r,i:=i,perturb:=p,dummy:=none }:=by
    rw[show fY+(r+1)+1=(fY+r+1)+1 by lia];conv=>lhs;unfold SetTable.probe.go
    rw[e];simp only[gu,hh k hk,fK];rfl
   rw[st];exact DY hd hh i p r (j+1) fY
theorem At(hd:t.dummies=#[])(hh:∀i,i<t.place.size->hashAt i≠h):∀ (m:Nat) (i p fY:Nat),10*(m+1)<=fY->t.slot (gw t.mask m (i,p)).1=.empty->
  ∃j',SetTable.probe.go t hashAt h fY (zf t.mask i p)=some (.empty j' none)
 |0,i,p,fY,hf,e=>by
  obtain⟨f,rfl⟩:∃f,fY=f+1:=⟨fY-1,by lia⟩
  refine⟨i,?_⟩;have e':t.slot i=.empty:=e;unfold SetTable.probe.go zf;dsimp only;rw[e']
 |m+1,i,p,fY,hf,e=>by
  have hr:=LP t.mask i;obtain⟨f,B4⟩:∃f,fY=f+(SetTable.runEnd t.mask i-i)+1:=⟨fY-(SetTable.runEnd t.mask i-i)-1,by lia⟩
  rcases DY (hashAt:=hashAt) (h:=h) hd hh i p (SetTable.runEnd t.mask i-i) i f with z|z
  .rw[B4];exact z
  .rw[B4];show ∃j',SetTable.probe.go t hashAt h _ { j:=i,more:=_,i:=i,perturb:=p,dummy:=none }=_;rw[z];exact At hd hh m _ _ f (by lia) e
theorem zh(R:sX (t.mask+1))(hd:t.dummies=#[])(hs:t.place.size<=t.mask)(hh:∀i,i<t.place.size->hashAt i≠h):∃j,t.probe hashAt h (t.probeStart h)=some (.empty j none):=by
 obtain⟨j,hj,hn⟩:=PR (M:=t.mask+1) (l:=t.place.toList) (by simpa using Nat.lt_succ_of_le hs);obtain⟨m,hm,e⟩:=oK R (Nat.mod_lt (SetTable.bits h) (ql t.mask)) (As h) hj;refine At hd hh m _ _ _ ?_ (by rw[e];exact zg hd hn);unfold SetTable.turns;lia
end
theorem DZ{α β:Type}{f:α->Option β}:∀ {l:List α},(∀q∈l,(f q).isSome=true)->(l.filterMap f).length=l.length
 |[],_=>rfl
 |q::l,h=>by
  have hq:=h q cq;cases e:f q with
  |none=>rw[e] at hq;cases hq
  |some b=>rw[Dh e,cG,cG,DZ fun x hx=>h x (cy _ hx)]
theorem kM:∀ (m fY i p:Nat),m<fY->owner.getD (gw mask m (i,p)).1 (some 0)=none->∃j,SetTable.layClean.free mask owner fY i p=some j/\owner.getD j (some 0)=none
 |m,0,_,_,h,_=>by lia
 |m,fY+1,i,p,h,e=>by
  unfold SetTable.layClean.free;cases hf:(List.range (SetTable.runEnd mask i+1-i)).find? fun k=>(owner.getD (i+k) (some 0)).isNone with
  |some k=>
   refine⟨i+k,rfl,?_⟩;have:=List.find?_some hf;simpa using this
  |none=>
   cases m with
   |zero=>
    have h0:(0:Nat)∈List.range (SetTable.runEnd mask i+1-i):=bL.mpr (by unfold SetTable.runEnd;split <;> lia);have:=List.find?_eq_none.mp hf 0 h0;have e':owner.getD i (some 0)=none:=e;rw[iq,e'] at this;exact absurd rfl this
   |succ m=>
    exact kM m fY _ _ (by lia) e
structure wK(M:Nat)(owner:Array (Option Nat))(k:Nat):Prop where
 size:owner.size=M
 cnt:owner.toList.countP Option.isSome=k
 lt:∀x,some x∈owner.toList->x<k
theorem zi{l:List (Option Nat)}{j:Nat}{x:Nat}(hj:l[j]?=some none):(l.set j (some x)).countP Option.isSome=l.countP Option.isSome+1:=by
 induction l generalizing j with
 |nil=>cases hj
 |cons a l ih=>
  cases j with
  |zero=>
   obtain rfl:a=none:=by simpa using hj
   simp
  |succ j=>
   rw[List.set_cons_succ,m_,m_,ih (by simpa using hj)];lia
theorem wK.one{mask:Nat}{owner:Array (Option Nat)}{k:Nat}(L:wK (mask+1) owner k)(R:sX (mask+1))(hk:k<mask+1)(h:Int):
  ∃j,SetTable.layClean.free mask owner (SetTable.turns mask) (SetTable.bits h % (mask+1)) (SetTable.bits h)=some j/\wK (mask+1) (owner.setIfInBounds j (some k)) (k+1):=by
 have LM:∃j,j<mask+1/\owner.toList[j]?=some none:=by
  apply sv;intro LM;have rY:∀x∈owner.toList,x.isSome=true:=by
   intro x hx;obtain⟨j,hj,e⟩:=m7.mp hx;cases x with
   |some _=>rfl
   |none=>
    refine absurd ⟨j,?_,?_⟩ LM
    .rw[<-L.size];simpa using hj
    .rw[bY hj,e]
  have:=List.countP_eq_length.mpr rY;rw[L.cnt,iE,L.size] at this;lia
 obtain⟨j0,hj0,e0⟩:=LM;obtain⟨m,hm,em⟩:=oK R (Nat.mod_lt (SetTable.bits h) (ql mask)) (As h) hj0;obtain⟨j,ej,en⟩:=kM (mask:=mask) (owner:=owner) m (SetTable.turns mask) (SetTable.bits h % (mask+1)) (SetTable.bits h) (by unfold SetTable.turns;lia)
  (by rw[em,t9,<-lm,e0];rfl)
 refine⟨j,ej,?_⟩;have hjn:owner.toList[j]?=some none:=by
  rw[t9,<-lm] at en;cases hq:owner.toList[j]? with
  |none=>rw[hq] at en;cases en
  |some v=>rw[hq] at en;rw[show v=none from en]
 have Hj:(owner.setIfInBounds j (some k)).toList=owner.toList.set j (some k):=by simp
 refine⟨by simp[L.size],by rw[Hj,zi hjn,L.cnt],fun x hx=>?_⟩;rw[Hj] at hx;rcases List.mem_or_eq_of_mem_set hx with z|z
 .exact fk (L.lt x z)
 .cases z;exact jK _
theorem Au(R:sX (mask+1)):∀ (l:List Int) (owner:Array (Option Nat)) (k:Nat),wK (mask+1) owner k->k+l.length<=mask->
  ∃D4,l.foldl (fun dL h=>do
   let (owner,k) <- dL
   let j <- SetTable.layClean.free mask owner (SetTable.turns mask) (SetTable.bits h % (mask+1)) (SetTable.bits h)
   pure (owner.setIfInBounds j (some k),k+1)) (some (owner,k))=some (D4,k+l.length)/\wK (mask+1) D4 (k+l.length)
 |[],owner,k,L,_=>⟨owner,rfl,L⟩
 |h::l,owner,k,L,hl=>by
  rw[cG] at hl;obtain⟨j,ej,L'⟩:=L.one R (by lia) h;obtain⟨o',e,L2⟩:=Au R l _ _ L' (by lia);refine⟨o',?_,by rw[cG,show k+(l.length+1)=k+1+l.length by lia];exact L2⟩;rw[jO];have:(do
   let (owner,k) <- some (owner,k)
   let j <- SetTable.layClean.free mask owner (SetTable.turns mask) (SetTable.bits h % (mask+1)) (SetTable.bits h)
   pure (owner.setIfInBounds j (some k),k+1):Option (Array (Option Nat)×Nat))=some (owner.setIfInBounds j (some k),k+1):=by
   show (SetTable.layClean.free mask owner (SetTable.turns mask) (SetTable.bits h % (mask+1)) (SetTable.bits h)).bind _=_;rw[ej];rfl
  rw[this,e,cG,show k+(l.length+1)=k+1+l.length by lia]
theorem wL(R:sX (mask+1))(hs:Array Int)(h:hs.size<=mask):∃owner,SetTable.layClean mask hs=some owner/\wK (mask+1) owner hs.size:=by
 have L0:wK (mask+1) (Array.replicate (mask+1) none) 0:=⟨by simp,by simp[List.countP_replicate],fun x hx=>by simp at hx⟩
 obtain⟨o,e,L⟩:=Au R hs.toList _ 0 L0 (by simpa using h);refine⟨o,?_,by simpa using L⟩;unfold SetTable.layClean;rw[<-Array.foldl_toList];have e':=congrArg (Option.map (·.1)) e;exact e'
theorem zj(L:wK M owner n):
  ((List.range M).filterMap fun j=>(owner.getD j none).map (j,·)).length=n/\∀q∈(List.range M).filterMap (fun j=>(owner.getD j none).map (j,·)),q.2<n:=by
 constructor
 .rw[<-L.cnt];have e:owner.toList=(List.range M).map fun j=>owner.getD j none:=by
   apply List.ext_getElem
   .simp[L.size]
   .intro i h1 h2;simp only[yB,List.getElem_range,yh];rw[t9,xV (by simpa using h1)];rfl
  conv=>rhs;rw[e]
  rw[List.countP_map];generalize List.range M=l;induction l with
  |nil=>rfl
  |cons a l ih=>
   rw[m_,<-ih];cases hq:owner.getD a none with
   |none=>rw[List.filterMap_cons_none (by rw[hq];rfl),show (Option.isSome ∘ fun j=>owner.getD j none) a=false by show (owner.getD a none).isSome=false;rw[hq];rfl];simp
   |some x=>rw[Dh (b:=(a,x)) (by rw[hq];rfl),show (Option.isSome ∘ fun j=>owner.getD j none) a=true by show (owner.getD a none).isSome=true;rw[hq];rfl];simp
 .intro q hq;obtain⟨j,_,e⟩:=m9.mp hq;cases hx:owner.getD j none with
  |none=>rw[hx] at e;cases e
  |some x=>
   rw[hx] at e;cases e;refine L.lt x ?_;rw[t9,<-lm] at hx;cases hy:owner.toList[j]? with
   |none=>rw[hy] at hx;cases hx
   |some v=>rw[hy] at hx;obtain rfl:v=some x:=hx;exact dW hy
structure wM(hs:Array Int)(t:SetTable):Prop where
 dm:t.dummies=#[]
 sz:t.place.size=hs.size
 ms:(t.mask=7/\hs.size<=4)\/(t.mask=31/\hs.size<=18)\/(t.mask=127/\hs.size<=76)\/(t.mask=511/\hs.size<=306)
theorem wM.rnd(T:wM hs t):sX (t.mask+1):=by
 rcases T.ms with ⟨e,_⟩|⟨e,_⟩|⟨e,_⟩|⟨e,_⟩ <;> rw[e]
 .exact U7
 .exact Ke
 .exact DW
 .exact DX
theorem lw(xs:Array α)(p:Nat)(x:α):(SetTable.insertAt xs p x).size=xs.size+1:=by
 unfold SetTable.insertAt;simp;lia
theorem mK(h:y∈(SetTable.insertAt xs p x).toList):y=x\/y∈xs.toList:=by
 unfold SetTable.insertAt at h;rw[oF,jt,yg,yg] at h;rcases bg.mp h with z|z
 .rcases bg.mp z with z|z
  .right;rw[List.extract_eq_drop_take] at z;exact uh (oC z)
  .left;simpa using z
 .right;rw[List.extract_eq_drop_take] at z;exact uh (oC z)
theorem zm{hs:Array Int}{t:SetTable}{h:Int}(T:wM hs t)(hn:h∉hs.toList)(hl:hs.size<300):∃hs' t',fU hs t h=some (hs',t')/\wM hs' t'/\hs'.size=hs.size+1/\∀x∈hs'.toList,x=h\/x∈hs.toList:=by
 have UX:t.place.size<=t.mask:=by rw[T.sz];rcases T.ms with ⟨e,z⟩|⟨e,z⟩|⟨e,z⟩|⟨e,z⟩ <;> lia
 have hh:∀i,i<t.place.size->LI hs i≠h:=by
  intro i hi e;rw[T.sz] at hi;unfold LI at e;rw[xV hi] at e;exact hn (by rw[<-e];simp)
 obtain⟨j,hp⟩:=zh (hashAt:=LI hs) (h:=h) T.rnd T.dm UX hh;have hg:t.gaveWay=false:=by
  unfold SetTable.gaveWay;rcases T.ms with ⟨e,_⟩|⟨e,_⟩|⟨e,_⟩|⟨e,_⟩ <;> rw[e] <;> rfl
 have q1:(t.put j).1.place=SetTable.insertAt t.place (SetTable.below t.place j) j:=rfl;have q2:(t.put j).1.dummies=#[]:=by
  show (if SetTable.has t.dummies j=true then _ else t.dummies)=_;rw[T.dm];rfl
 have q3:(t.put j).1.mask=t.mask:=rfl;have s1:(SetTable.insertAt hs (t.put j).2 h).size=hs.size+1:=lw _ _ _;have s2:(t.put j).1.place.size=hs.size+1:=by rw[q1,lw,T.sz]
 have fl:(t.put j).1.fill=hs.size+1:=by unfold SetTable.fill;rw[s2,q2];rfl
 have fit:(t.put j).1.fits (SetTable.insertAt hs (t.put j).2 h).size=true:=by
  unfold SetTable.fits;rw[s1,s2,fl,q3];simp;rcases T.ms with ⟨e,z⟩|⟨e,z⟩|⟨e,z⟩|⟨e,z⟩ <;> lia
 unfold fU;rw[hg,ap cz,hp];dsimp only;rw[ao (by rw[fit,s1];simp;lia)];by_cases hf:(t.put j).1.tooFull=true
 .rw[ao hf];have B4:=hf;unfold SetTable.tooFull at B4;rw[fl,q3] at B4;have Yx:(hs.size+1)*5>=t.mask*3:=by simpa using B4
  have gr:SetTable.grown (hs.size+1)=(hs.size+1)*4:=by unfold SetTable.grown;rw[ap (by lia)]
  obtain⟨m2,YA,U8,R2⟩:∃m2,SetTable.sizeAbove (SetTable.grown (hs.size+1))=m2+1/\((m2=31/\hs.size+1<=18)\/(m2=127/\hs.size+1<=76)\/(m2=511/\hs.size+1<=306))/\sX (m2+1):=by
   rw[gr];rcases T.ms with ⟨e,z⟩|⟨e,z⟩|⟨e,z⟩|⟨e,z⟩
   .have:hs.size=4:=by lia
    exact⟨31,by rw[this];rfl,.inl ⟨rfl,by lia⟩,Ke⟩
   .have:hs.size=18:=by lia
    exact⟨127,by rw[this];rfl,.inr (.inl ⟨rfl,by lia⟩),DW⟩
   .have:hs.size=76:=by lia
    exact⟨511,by rw[this];rfl,.inr (.inr ⟨rfl,by lia⟩),DX⟩
   .lia
  have YB:(SetTable.insertAt hs (t.put j).2 h).size<=m2:=by rw[s1];rcases U8 with ⟨e,z⟩|⟨e,z⟩|⟨e,z⟩ <;> lia
  obtain⟨owner,eo,L⟩:=wL R2 (SetTable.insertAt hs (t.put j).2 h) YB;obtain⟨PU,U9⟩:=zj L;rw[s1] at PU U9;generalize PV:(List.range (m2+1)).filterMap (fun j=>(owner.getD j none).map (j,·))=live at PU U9;have er:(t.put j).1.relaid (SetTable.insertAt hs (t.put j).2 h) (SetTable.grown (hs.size+1))=some ({ mask:=m2,place:=(live.map (·.1)).toArray,dummies:=#[],finger:=(t.put j).1.finger,led:=(t.put j).1.led,moves:=(t.put j).1.movedTo m2,plain:=(t.put j).1.plain },(live.map (·.2)).toArray):=by
   unfold SetTable.relaid SetTable.laid;rw[YA];simp only[Nat.add_sub_cancel];rw[eo];show some _=some _;rw[<-PV]
  rw[er];dsimp only;have ze:((live.map (·.2)).toArray.filterMap ((SetTable.insertAt hs (t.put j).2 h)[·]?)).size=hs.size+1:=by
   rw[<-iE,ue];show ((live.map (·.2)).filterMap _).length=_;rw[<-PU,List.filterMap_map];refine DZ fun q hq=>?_;show ((SetTable.insertAt hs (t.put j).2 h)[q.2]?).isSome=true;rw[xV (by rw[s1];exact U9 q hq)];rfl
  have emf:∀x,({ mask:=m2,place:=(live.map (·.1)).toArray,dummies:=#[],finger:=(t.put j).1.finger,led:=(t.put j).1.led,moves:=(t.put j).1.movedTo m2,plain:=(t.put j).1.plain }:SetTable).fits x=(decide (hs.size+1=x)&&decide (hs.size+1<=m2)):=by
   intro x;unfold SetTable.fits SetTable.fill;simp[PU];rw[iT];simp
  rw[ao (by
   rw[ze,s1,emf,YA];have:hs.size+1<=m2:=by rw[<-s1];exact YB
   simp[this];rcases U8 with ⟨e,z⟩|⟨e,z⟩|⟨e,z⟩ <;> lia)]
  refine⟨_,_,rfl,⟨rfl,?_,?_⟩,ze,fun x hx=>?_⟩
  .rw[ze];simp[PU]
  .rw[ze];exact .inr U8
  .rw[ue] at hx;obtain⟨k,_,ek⟩:=m9.mp hx;refine mK (p:=(t.put j).2) ?_;rw[<-lm] at ek;exact dW ek
 .rw[ap hf];refine⟨_,_,rfl,⟨q2,by rw[s2,s1],?_⟩,s1,fun x hx=>mK hx⟩;have B4:¬ (hs.size+1)*5>=t.mask*3:=by
   intro z;refine hf ?_;unfold SetTable.tooFull;rw[fl,q3];simpa using z
  rw[s1,q3];rcases T.ms with ⟨e,z⟩|⟨e,z⟩|⟨e,z⟩|⟨e,z⟩ <;> lia
theorem oM:∀ (l:List Int) (hs:Array Int) (t:SetTable),wM hs t->(∀x∈l,x∉hs.toList)->l.Nodup->hs.size+l.length<=300->∃hs' t',l.foldlM (fun q h=>fU q.1 q.2 h) (hs,t)=some (hs',t')/\hs'.size=hs.size+l.length
 |[],hs,t,_,_,_,_=>⟨hs,t,rfl,rfl⟩
 |h::l,hs,t,T,hn,nd,hl=>by
  rw[cG] at hl;obtain⟨n1,n2⟩:=dq.mp nd;obtain⟨Kb,t1,e1,T1,z1,m1⟩:=zm T (hn h cq) (by lia);obtain⟨qx,t2,e2,z2⟩:=oM l Kb t1 T1 (fun x hx hy=>by
   rcases m1 x hy with e|e
   .exact n1 (e ▸ hx)
   .exact hn x (cy _ hx) e) n2 (by lia)
  refine⟨qx,t2,?_,by rw[z2,z1,cG];lia⟩;rw[List.foldlM_cons];show (fU hs t h).bind _=_;rw[e1];exact e2
theorem B5(led:Bool)(nd:l.Nodup)(hl:l.length<=300):∃hs t,u6 led l=some (hs,t)/\hs.size=l.length:=by
 obtain⟨hs,t,e,z⟩:=oM l #[] (SetTable.fresh 0 0 led) ⟨rfl,rfl,.inl ⟨rfl,by decide⟩⟩ (fun x _ h=>by simp at h) nd (by simpa using hl);exact⟨hs,t,e,by simpa using z⟩
def Aw:List Nat->Nat->Bool
 |[],_=>true
 |x::xs,dL=>bif Nat.testBit dL x then false else Aw xs (dL ||| (1 <<< x))
theorem wN:∀ (l:List Nat) (dL:Nat),Aw l dL=true->l.Nodup/\∀x∈l,dL.testBit x=false
 |[],_,_=>⟨h_,fun x h=>(nomatch h)⟩
 |x::xs,dL,h=>by
  unfold Aw at h;cases hb:dL.testBit x with
  |true=>rw[hb] at h;cases h
  |false=>
   rw[hb] at h;obtain⟨nd,hx⟩:=wN xs _ h;have YC:∀y∈xs,dL.testBit y=false/\y≠x:=by
    intro y hy;have:=hx y hy;rw[Nat.testBit_or,Nat.one_shiftLeft,Nat.testBit_two_pow] at this;rw[Bool.or_eq_false_iff] at this;exact⟨this.1,fun e=>by have:=this.2;simp[e] at this⟩
   refine⟨dq.mpr ⟨fun hm=>(YC x hm).2 rfl,nd⟩,fun y hy=>?_⟩;rcases bP.mp hy with z|z
   .rw[z];exact hb
   .exact(YC y z).1
def qG:List (Int×Int):=(List.range 32).flatMap fun a=>(List.range 32).map fun b=>(Int.ofNat a,Int.ofNat b)
def Kg(h:Int):Nat:=(h % 6554).toNat
theorem B6(P:Program)(w:World):Aw (qG.map fun y=>Kg (fu P w y)) 0=true:=by kernel_rfl
theorem Ax(h1:0<=y.1/\y.1<32)(h2:0<=y.2/\y.2<32):y∈qG:=by
 unfold qG;refine List.mem_flatMap.mpr ⟨y.1.toNat,bL.mpr (by lia),cf.mpr ⟨y.2.toNat,bL.mpr (by lia),Prod.ext ?_ ?_⟩⟩
 .show ((y.1.toNat:Nat):Int)=y.1;lia
 .show ((y.2.toNat:Nat):Int)=y.2;lia
theorem lx:∀ {l:List α},(l.map f).Nodup->∀x∈l,∀y∈l,f x=f y->x=y
 |[],_,_,h,_,_,_=>by cases h
 |a::l,h,x,hx,y,hy,e=>by
  rw[cQ] at h;obtain⟨h1,h2⟩:=dq.mp h;rcases bP.mp hx with z|z <;> rcases bP.mp hy with z'|z'
  .rw[z,z']
  .exact absurd (cf.mpr ⟨y,z',by rw[<-e,z]⟩) h1
  .exact absurd (cf.mpr ⟨x,z,by rw[e,z']⟩) h1
  .exact lx h2 x z y z' e
theorem u8(hx:(0<=x.1/\x.1<32)/\(0<=x.2/\x.2<32))(hy:(0<=y.1/\y.1<32)/\(0<=y.2/\y.2<32))(e:fu P w x=fu P w y):x=y:=
 lx (wN _ _ (B6 P w)).1 x (Ax hx.1 hx.2) y (Ax hy.1 hy.2) (congrArg Kg e)
theorem nY:∀ {l:List α},l.Nodup->(∀x∈l,∀y∈l,f x=f y->x=y)->(l.map f).Nodup
 |[],_,_=>h_
 |a::l,h,hf=>by
  obtain⟨h1,h2⟩:=dq.mp h;rw[cQ];refine dq.mpr ⟨fun z=>?_,nY h2 fun x hx y hy=>hf x (cy _ hx) y (cy _ hy)⟩;obtain⟨y,hy,e⟩:=cf.mp z;have:=hf y (cy _ hy) a cq e;exact h1 (this ▸ hy)
theorem wO{P:Program}{w:World}(led:Bool){ys:List (Int×Int)}(nd:ys.Nodup)(hr:∀y∈ys,(0<=y.1/\y.1<32)/\(0<=y.2/\y.2<32))(hl:ys.length<=300):
  ∃hs t,u6 led (ys.map (fu P w))=some (hs,t)/\hs.size=ys.length:=by
 obtain⟨hs,t,e,z⟩:=B5 led (nY nd fun x hx y hy e=>u8 (P:=P) (w:=w) (hr x hx) (hr y hy) e) (by rw[aG];exact hl);exact⟨hs,t,e,by rw[z,aG]⟩
theorem u9:∀ {as:List Addr} {its:List Value},aX (as.map V.ref) its->its=as.map Value.ref
 |[],_,r=>by cases r;rfl
 |a::as,_,r=>by
  cases r with
  |cons r rr=>
   obtain rfl:=(show _=Value.ref a from r)
   rw[u9 rr];rfl
def Hk(D:Addr)(n:Nat):HO:=.ext fun h=>∃hs t,j5 h D hs t/\hs.size=n
section
variable {X:Cx}
def PX(K:PySem.W.Frag):List V->Hp->VK->Prop:=fun xs H Q=>∃ (l:Addr) (as:List Addr) (ys:List (Int×Int)),xs=[.ref l]/\aV K H l (as.map V.ref)/\as.length=ys.length/\
 (∀i,i<ys.length->DQ K H (as.getD i 0) (ys.getD i (0,0)))/\ys.Nodup/\(∀y∈ys,(0<=y.1/\y.1<32)/\(0<=y.2/\y.2<32))/\ys.length<=300/\∀D,H D=none->Q (.ref D) (upd H D (Hk D ys.length))
theorem B7(hc:X.calm=true)(hu:X.A.units+8<cLine):eU X (.type "set") (PX X.K):=by
 intro ae s σ H xs us Q I r h;obtain⟨l,as,ys,rfl,hl,eC,hp,nd,rg,h3,q⟩:=h;obtain⟨u1,rfl,r1⟩:=r.one;obtain rfl:u1=Value.ref l:=r1;obtain⟨its,rv,pl,hz⟩:=I.list hl;have e:=u9 rv;subst e;have hpi:jb s.heap (as.map Value.ref) ys:=⟨by rw[aG,eC],fun i v hv=>by
  rw[bq] at hv;cases ea:as[i]? with
  |none=>rw[ea] at hv;cases hv
  |some a=>
   rw[ea] at hv;obtain rfl:Value.ref a=v:=aY hv;have hi:i<as.length:=(cM.mp ea).1;obtain⟨o,n,t,u,e1,c,d⟩:=y_ I (hp i (by lia));have eg:as.getD i 0=a:=by rw[bQ,ea];rfl
   rw[eg] at e1;exact⟨a,o,n,t,u,rfl,e1,c,d⟩⟩
 have BZ:∀led,∃q:Array Int×SetTable,u6 led (ys.map (fu X.prog X.w))=some q/\q.1.size=ys.length:=fun led=>
  let ⟨hs,t,e,z⟩:=wO (P:=X.prog) (w:=X.w) led nd rg h3;⟨(hs,t),e,z⟩
 refine DT (I.ok.hd hc) hu pl.isList hpi (hsN:=fun led=>(BZ led).choose.1) (tN:=fun led=>(BZ led).choose.2) (fun led=>(BZ led).choose_spec.1) fun led h' tk S' k=>?_;refine⟨.ref s.heap.objs.size,_,I.wH (t':=tk) (o:=Hk s.heap.objs.size ys.length) (fun b u e=>k b u (a_ e) e) (lH (ba _)) ⟨⟨_,_,S',(BZ led).choose_spec.2⟩,?_,fun h1 h2 ⟨hs,t,⟨o,es,ep,q1,q2⟩,z⟩ kk=>⟨hs,t,⟨o,es,ep,kk o q1,q2⟩,z⟩⟩,rfl,q _ I.fresh⟩;obtain⟨o,_,_,q1,_⟩:=S';exact⟨o,q1⟩
theorem wP:eU X (.builtin "len") (fun xs H Q=>∃D n,xs=[.ref D]/\H D=some (Hk D n)/\n<=4096/\Q (.int n) H):=by
 intro ae s σ H xs us Q I r h;obtain⟨D,n,rfl,e,hn,q⟩:=h;obtain⟨u1,rfl,r1⟩:=r.one;obtain rfl:u1=Value.ref D:=r1;obtain⟨⟨hs,t,⟨o,es,ep,q1,q2,q3,q4,q5,q6⟩,z⟩,_⟩:=(show bS X.prog X.w H s.heap D (Hk D n) from I.bE D _ e)
 have hsz:es.size=n:=by rw[<-z,<-q5,iU]
 exact call_len_set q1 ⟨q2,q3.1,q3.2⟩ q4 q6 (by rw[hsz];lia) ⟨.int n,H,I.tok _,⟨_,by rw[hsz]⟩,q⟩
theorem wQ:eU X (.type "range") (fun xs H Q=>∃n,xs=[.int n]/\∀p,H p=none->Q (.ref p) (upd H p (.GC 0 n))):=by
 intro ae s σ H xs us Q I r h;obtain⟨n,rfl,q⟩:=h;obtain⟨u1,rfl,t,rfl⟩:=r.one;refine call_range_1 ⟨.ref s.heap.objs.size,_,I.laid (o:=.GC 0 n) (fun b u e=>cD _ e) (ba _) ⟨_,_,_,dh _ rfl⟩,rfl,q _ I.fresh⟩
theorem zn(hc:X.calm=true):eU X (.type "list") (fun xs H Q=>∃ (p:Addr) (n:Nat),xs=[.ref p]/\H p=some (.GC 0 n)/\n<=1000/\∀l,H l=none->Q (.ref l) (upd H l (.lst ((List.range n).map fun (i:Nat)=>V.int i)))):=by
 intro ae s σ H xs us Q I r h;obtain⟨p,n,rfl,e,hn,q⟩:=h;obtain⟨u1,rfl,r1⟩:=r.one;obtain rfl:u1=Value.ref p:=r1;obtain⟨t,u,v,hp⟩:=(show bS X.prog X.w H s.heap p (.GC 0 n) from I.bE p _ e)
 refine call_list_range (n:=n) (I.ok.hd hc) (show IsRange s.heap p 0 n 1 t u v from hp) (small_one (by lia) (by lia) (by lia) (by lia)) (by rw[rangeSize_one];split <;> lia) (by lia) fun h' tk dL c k g it=>?_;obtain⟨i1,i2⟩:=it;refine⟨.ref s.heap.objs.size,_,I.wH (t':=tk) (o:=.lst ((List.range n).map fun (i:Nat)=>V.int i)) (fun b u e=>k b u e) (lH (ba _)) ⟨?_,dL.toList,c,?_,by simpa using g⟩,rfl,q _ I.fresh⟩
 .rw[aG,fq];exact bj hn (by decide)
 .have go:∀ (m:Nat) (l:List Value),l.length=m->(∀ (j:Nat) v,l[j]?=some v->∃t,v=Value.int (0+(j:Int)*1) t)->aX ((List.range m).map fun (i:Nat)=>V.int i) l:=by
   intro m;induction m with
   |zero=>intro l hl _;cases l with
    |nil=>exact .nil
    |cons _ _=>cases hl
   |succ m ih=>
    intro l hl hv;have jD:l≠[]:=by intro z;rw[z] at hl;cases hl
    have el:l=l.dropLast++[l.getLast jD]:=(List.dropLast_concat_getLast jD).symm;rw[mB,cP,el];have SY:l.dropLast.length=m:=by rw[List.length_dropLast,hl];rfl
    refine aX.append (ih _ SY fun j v hj=>hv j v ?_) (.cons ?_ .nil)
    .rw[el];have hj':j<l.dropLast.length:=(cM.mp hj).1;rw[iC hj'];exact hj
    .obtain⟨t,ht⟩:=hv m (l.getLast jD) (by
      rw[List.getLast_eq_getElem,bY (by lia:m<l.length)];simp[hl])
     exact⟨t,by rw[ht];simp⟩
  exact go n dL.toList (by simpa using i1) fun j v hj=>i2 j v (by simpa using hj)
end
def oN(e:V->V->Bool):List V->List V->Bool
 |[],[]=>true
 |x::xs,y::ys=>e x y&&oN e xs ys
 |_,_=>false
theorem oO:∀ {xs ys:List V},xs.length=ys.length->oN e xs ys=(List.range xs.length).all fun i=>e (xs.getD i .bJ) (ys.getD i .bJ)
 |[],[],_=>rfl
 |x::xs,y::ys,h=>by
  have h':xs.length=ys.length:=by simpa using h
  rw[oN,oO h',cG,ud,iW,List.all_map];rfl
 |[],_::_,h=>by simp at h
 |_::_,[],h=>by simp at h
theorem tf:∀ {xs ys:List V},xs.length≠ys.length->oN e xs ys=false
 |[],[],h=>absurd rfl h
 |x::xs,y::ys,h=>by
  have h':xs.length≠ys.length:=fun z=>h (by simp[z]);rw[oN,tf h',uA]
 |[],_::_,_=>rfl
 |_::_,[],_=>rfl
section
variable {X:Cx}
def PY(X:Cx)(H:Hp)(e:V->V->Bool)(x y:V):Prop:=∀ (ae:List (Addr×Obj)) (s:Shared) (σ:St) (A:Around) (u v:Value),aP X ae σ H s->A.units+1<cLine->bi x u->bi y v->SeqAt.EqAt A s u v (e x y)
def U_(X:Cx)(Po:Bool)(e:V->V->Bool):R2:=fun x y H Q=>∃p q xs ys,x=.ref p/\y=.ref q/\aV X.K H p xs/\aV X.K H q ys/\(∀i,i<xs.length->i<ys.length->PY X H e (xs.getD i .bJ) (ys.getD i .bJ))/\Q (.bl (if Po then !oN e xs ys else oN e xs ys)) H
theorem D5(I:aP X ae σ H s)(hu:A.units+1<cLine)(rx:aX xs us)(ry:aX ys vs)(he:∀i,i<xs.length->i<ys.length->PY X H e (xs.getD i .bJ) (ys.getD i .bJ)):∀j (h1:j<us.toArray.size) (h2:j<vs.toArray.size),SeqAt.EqAt A s us.toArray[j] vs.toArray[j] (e (xs.getD j .bJ) (ys.getD j .bJ)):=by
 intro j h1 h2;have j1:j<xs.length:=by rw[rx.length];simpa using h1
 have j2:j<ys.length:=by rw[ry.length];simpa using h2
 have e1:xs[j]?=some (xs.getD j .bJ):=by rw[bQ,bY j1];rfl
 have e2:ys[j]?=some (ys.getD j .bJ):=by rw[bQ,bY j2];rfl
 obtain⟨u,oP,ru⟩:=rx.get e1;obtain⟨v,Va,rv⟩:=ry.get e2;have eu:us.toArray[j]=u:=by
  have:us[j]?=some us.toArray[j]:=by simp at h1 |-
  rw[oP] at this;exact(aY this).symm
 have ev:vs.toArray[j]=v:=by
  have:vs[j]?=some vs.toArray[j]:=by simp at h2 |-
  rw[Va] at this;exact(aY this).symm
 rw[eu,ev];exact he j j1 j2 ae s σ A u v I hu ru rv
theorem zo{e:V->V->Bool}(hu:X.A.units+2<cLine):mD X (compareOp .NotEq) (U_ X true e):=by
 intro ae s σ H x y v u Q I rx ry h;obtain⟨p,q,xs,ys,rfl,rfl,hp,hq,he,k⟩:=h;obtain rfl:v=Value.ref p:=rx;obtain rfl:u=Value.ref q:=ry;obtain⟨us,r1,p1,_⟩:=I.list hp;obtain⟨vs,r2,p2,_⟩:=I.list hq;by_cases hl:xs.length=ys.length
 .refine SeqAt.RcNeAt.lists (e:=fun i=>e (xs.getD i .bJ) (ys.getD i .bJ)) p1.isList p2.isList (by simp only[cE];rw[<-r1.length,<-r2.length];exact hl) (by lia) (D5 I (by show X.A.units+1+1<cLine;lia) r1 r2 he) _ _ _ _ ⟨.bl _,H,I,rfl,?_⟩;rw[show us.toArray.size=xs.length by rw[cE,r1.length],<-oO hl];exact k
 .refine SeqAt.RcNeAt.lists_lengths p1.isList p2.isList (by simp only[cE];rw[<-r1.length,<-r2.length];simpa using hl) (by lia) _ _ _ _ ⟨.bl _,H,I,rfl,?_⟩;have k':=k;rw[tf hl] at k';exact k'
theorem B8(hc:X.calm=true):eU X (.builtin "any") (fun xs H Q=>∃ (p:Addr) (bs:List Bool),xs=[.ref p]/\aV X.K H p (bs.map V.bl)/\Q (.bl (bs.any id)) H):=by
 intro ae s σ H xs us Q I r h;obtain⟨p,bs,rfl,hp,q⟩:=h;obtain⟨u1,rfl,r1⟩:=r.one;obtain rfl:u1=Value.ref p:=r1;obtain⟨its,rv,pl,hz⟩:=I.list hp;have zq:its=bs.map Value.bool:=by
  have go:∀ (bs:List Bool) (its:List Value),aX (bs.map V.bl) its->its=bs.map Value.bool:=by
   intro bs;induction bs with
   |nil=>intro its r;cases r;rfl
   |cons b bs ih=>
    intro its r;cases r with
    |cons r rr=>
     obtain rfl:=(show _=Value.bool b from r)
     rw[ih _ rr];rfl
  exact go bs its rv
 subst zq;obtain⟨ob,Vb,_⟩:=id pl.isList;have d9:p<s.heap.objs.size:=a_ Vb;refine call_any_walk (qe pl.isList ⟨s.heap.objs.size,_,_,_,_,_,fun i=>bs.getD i false,rfl,Walks.list (show X.A.in1.handled=none from I.ok.hd hc) _ p (aZ d9) _,⟨⟨_,dh _ rfl,rfl,rfl⟩,pl.isList.push _⟩,fun i v s1 Q' E' hv hq=>?_,fun h' tk k=>?_⟩)
 .have yU:(bs.map Value.bool)[i]?=some v:=by simpa using hv
  rw[bq] at yU;cases eb:bs[i]? with
  |none=>rw[eb] at yU;cases yU
  |some b=>
   rw[eb] at yU;obtain rfl:Value.bool b=v:=aY yU;have:bs.getD i false=b:=by rw[bQ,eb];rfl
   have GW:Q' b s1:=by rw[<-this];exact hq
   exact wpAny_pure GW
 .have keep:∀b o,s.heap.get? b=some o->h'.get? b=some o:=fun b o e=>k b o (by simpa using aZ (a_ e)) (cD _ e);refine⟨.bl (bs.any id),H,I.kept (t':=tk) keep,?_,q⟩;show Value.bool _=Value.bool _;congr 1;have go:∀ (bs:List Bool),((List.range bs.length).any fun i=>bs.getD i false)=bs.any id:=by
   intro bs;induction bs with
   |nil=>rfl
   |cons b bs ih=>
    rw[cG,ud,jP,List.any_map,jP,<-ih];rfl
  rw[<-go bs];simp
end
def oQ(c:Addr)(qual:Str):HO:=.ext fun h=>h.CodeRec (.ref c) qual
theorem D8(x:h.CodeRec (.ref c) qual):bS P w H h c (oQ c qual):=by
 refine⟨x,?_,?_⟩
 .obtain⟨c',o,vs,t,e,ho,_⟩:=x;cases e;exact⟨o,ho⟩
 .rintro h1 h2 ⟨c',o,vs,t,e,ho,r⟩ k;cases e;exact⟨c,o,vs,t,rfl,k o ho,r⟩
def Kh(f:Addr)(qual:Str)(params:Arguments)(body:Expr)(scope:Scope)(cells:List (Str×Addr))(c:Addr)(h:Heap):Prop:=
 ∃ (dA:List (Str×Addr)) (pm u_:Value),(∀x a,dA.lookup x=some a->cells.lookup x=some a)/\(∀x,(x,NameKind.free)∈scope.names->∃a,dA.lookup x=some a)/\
  h.get? f=some (PySem.W.kla_obj "<lambda>" qual params body scope dA pm c u_)
def qH(f:Addr)(qual:Str)(params:Arguments)(body:Expr)(scope:Scope)(cells:List (Str×Addr))(c:Addr):HO:=.ext (Kh f qual params body scope cells c)
theorem Ay(x:Kh f qual params body scope cells c h):
  bS P w H h f (qH f qual params body scope cells c):=by
 refine⟨x,?_,?_⟩
 .obtain⟨_,_,_,_,_,e⟩:=x;exact⟨_,e⟩
 .rintro h1 h2 ⟨dA,pm,u_,a,b,e⟩ k;exact⟨dA,pm,u_,a,b,k _ e⟩
def j6(lp:Pos)(qual:Str)(P:Addr)(H:Hp):Prop:=H P=some (.nA #[])\/∃c,H P=some (.nA #[rawInt lp.line,rawInt lp.col,.ref c])/\H c=some (oQ c qual)
structure Hl(X:Cx)(c P:Addr):Prop where
 code:X.env.code=.ref c
 hd:PySem.W.CodeHd X.base c P
 bm:∃bm o,X.mg "__builtins__"=some (.ref bm)/\bm≠builtinsNs/\bm≠mainGlobals/\X.base.get? bm=some o/\o.cls=.type "module"/\o.dict=some builtinsNs/\o.data=.plain
def Vc(lp:Pos)(qual:Str)(P:Addr)(params:Arguments)(body:Expr)(scope:Scope)(cells:List (Str×Addr)):TE:=fun _ H Q=>j6 lp qual P H/\
 ∀ (f c:Addr) (H2:Hp),j6 lp qual P H2->(∀b o,H b=some o->b≠P->H2 b=some o)->H2 c=some (oQ c qual)->H2 f=some (qH f qual params body scope cells c)->Q (.ref f) H2
theorem wR{lp:Pos}{c:Addr}:TriplesOk (#[rawInt lp.line,rawInt lp.col,.ref c]:Array Value).toList:=trivial
theorem B9:codeAmong lp (#[rawInt lp.line,rawInt lp.col,.ref c]:Array Value).toList=some (.ref c):=by
 show (if ((lp.line:Int)==(lp.line:Int)&&(lp.col:Int)==(lp.col:Int))=true then some (Value.ref c) else _)=_;simp
section
variable {X:Cx} {c P:Addr} {params:Arguments} {body:Expr} {scope:Scope} {lp:Pos} {NB:List Str} {src:List (Option Nat)}
theorem Hl.at(C:Hl X c P)(I:aP X ae σ H s)(hP:H P=some (.nA ps)):s.heap.BuiltinsAt X.mg P:=by
 obtain⟨bm,o,b1,b2,b3,b4,b5,b6,b7⟩:=C.bm;refine⟨bm,o,b1,b2,b3,fun z=>?_,I.bk _ _ b4,b5,b6,b7⟩;have:=(I.bs _ _ b4).2;rw[z,hP] at this;cases this
theorem aP.Ki(I:aP X ae σ H s):s.heap.Ns mainGlobals X.mg:=I.mod.glob.keeps I.bk
theorem D9(C:Hl X c P)(S:gP NB src scope X)(Vd:defaultsOf params X.env=([],[]):=by rfl):PE X (.Lambda params body scope lp) (Vc lp (X.env.qual++"<lambda>") P params body scope X.env.cells):=by
 intro ae s σ H Q I h;obtain⟨tab,h⟩:=h;obtain⟨dA,YD,c1,c2⟩:=l7 I.ok S;refine PySem.W.kla_eval Vd ?_;have hsz:∀b o,s.heap.get? b=some o->b<s.heap.objs.size:=fun b o e=>a_ e;rcases tab with hP|⟨c',hP,Dn⟩
 .-- the first time
  have PZ:s.heap.get? P=some (PySem.W.tabObj #[]):=I.bE P _ hP;have hPL:X.env.locals≠P:=fun z=>by have f:=I.free;rw[z,hP] at f;cases f
  have hPg:mainGlobals≠P:=fun z=>by
   obtain⟨o,es,ep,e,d,_⟩:=I.mod.glob;have:=(I.bs _ _ e).2;rw[z,hP] at this;cases this
  refine PySem.W.kla_makeFunction (mg:=X.mg) YD I.ok.glob I.Ki C.code (C.hd.keeps I.bk) PZ (by trivial) rfl hPg (C.at I hP) fun c' u_ h' tk hx Hm d9 Ve YE=>?_;have Hn:∀b o,b≠P->s.heap.get? b=some o->(h'.push (PySem.W.kla_obj "<lambda>" (X.env.qual++"<lambda>") params body scope dA ((X.mg "__name__").getD .none) c' u_)).get? b=some o:=fun b o hb e=>cD _ (hx b o hb e);have hcP:c'≠P:=jR (bV (hsz _ _ PZ) Hm);have hfP:h'.objs.size≠P:=jR (bV (hsz _ _ PZ) (bj Hm (d_ d9)));have hfc:h'.objs.size≠c':=jR d9;have nf:H h'.objs.size=none:=I.bE.fresh (by lia);have nc:H c'=none:=I.bE.fresh Hm
  let H2:Hp:=upd (upd (upd H P (.nA #[rawInt lp.line,rawInt lp.col,.ref c'])) c' (oQ c' (X.env.qual++"<lambda>"))) h'.objs.size (qH h'.objs.size (X.env.qual++"<lambda>") params body scope X.env.cells c')
  have eP:H2 P=some (.nA #[rawInt lp.line,rawInt lp.col,.ref c']):=by
   show upd _ _ _ _=_;rw[ai hfP.symm,ai hcP.symm,af]
  have ec:H2 c'=some (oQ c' (X.env.qual++"<lambda>")):=by
   show upd _ _ _ _=_;rw[ai hfc.symm,af]
  have ef:H2 h'.objs.size=some (qH h'.objs.size (X.env.qual++"<lambda>") params body scope X.env.cells c'):=af;have eo:∀b,b≠P->b≠c'->b≠h'.objs.size->H2 b=H b:=fun b h1 h2 h3=>by
   show upd _ _ _ _=_;rw[ai h3,ai h2,ai h1]
  have old:∀b o,H b=some o->b≠P->H2 b=some o:=fun b o e hb=>by
   rw[eo b hb (ak e nc) (ak e nf)];exact e
  have I2:aP X ae σ H2 { s with heap:=h'.push (PySem.W.kla_obj "<lambda>" (X.env.qual++"<lambda>") params body scope dA ((X.mg "__name__").getD .none) c' u_),toks:=tk }:=by
   refine I.step (g':=s.gens) (d':=s.drawn) (ch:=[]) (fun _ z=>absurd z (by simp)) (fun b o _ _ _ e n=>Hn b o (fun z=>by rw[z,hP] at n;cases n) e) (fun b o _ _ _ e n=>⟨o.slots,Hn b o (fun z=>by rw[z,hP] at n;cases n) e⟩)
    (fun b o _ e n=>?_) (fun b o _ e=>?_) (fun b xs e=>old b _ e fun z=>by rw[z,hP] at e;cases e) (fun b o u e=>old b _ e fun z=>by rw[z,hP] at e;cases e) (fun b ps e=>?_) (fun m hm=>?_) (fun b o e=>?_) I.bare
   .rw[eo b (fun z=>by rw[z,hP] at n;cases n) (aZ (bV (hsz b o e) Hm)) (aZ (bV (hsz b o e) (bj Hm (d_ d9))))];exact n
   .by_cases hb:b=P
    .exact⟨_,by rw[hb];exact cD _ YE⟩
    .exact⟨o,Hn b o hb e⟩
   .by_cases hb:b=P
    .rw[hb] at e |-;rw[hP] at e;cases e;exact⟨#[rawInt lp.line,rawInt lp.col,.ref c'],by rw[eP];simp⟩
    .exact⟨#[],by rw[old b _ e hb];simp⟩
   .exact(hm.extBut hx hPL).push _
   .by_cases YF:b=h'.objs.size
    .subst YF;rw[ef] at e;cases e;exact Ay ⟨dA,_,u_,c1,c2,dh _ rfl⟩
    .by_cases UV:b=c'
     .subst UV;rw[ec] at e;cases e;refine D8 ?_;obtain⟨c₂,oc,vs,t,e2,SF,r⟩:=Ve;exact⟨c₂,oc,vs,t,e2,cD _ SF,r⟩
     .by_cases Vf:b=P
      .subst Vf;rw[eP] at e;cases e;exact cD _ YE
      .rw[eo b Vf UV YF] at e;refine(I.bE b o e).oW (fun d u hd q=>Hn d u ?_ q) (fun d q=>old d _ q fun z=>by rw[z,hP] at q;cases q) fun d xs q=>old d _ q fun z=>by rw[z,hP] at q;cases q
       rintro rfl;rcases hd with z|z
       .exact Vf z.symm
       .rw[hP] at z;cases z
  exact⟨.ref h'.objs.size,H2,I2,rfl,h _ c' H2 (.inr ⟨c',eP,ec⟩) old ec ef⟩
 .-- again
  have PZ:s.heap.get? P=some (PySem.W.tabObj #[rawInt lp.line,rawInt lp.col,.ref c']):=I.bE P _ hP;refine PySem.W.kla_makeFunctionHit (mg:=X.mg) YD I.ok.glob I.Ki C.code (C.hd.keeps I.bk) PZ wR B9 (C.at I hP) fun u_ h' tk hk Hm=>?_;have nf:H h'.objs.size=none:=I.bE.fresh Hm
  let H2:Hp:=upd H h'.objs.size (qH h'.objs.size (X.env.qual++"<lambda>") params body scope X.env.cells c')
  have ef:H2 h'.objs.size=some (qH h'.objs.size (X.env.qual++"<lambda>") params body scope X.env.cells c'):=af;have old:∀b o,H b=some o->H2 b=some o:=fun b o e=>by
   show upd _ _ _ _=_;rw[ai (ak e nf)];exact e
  have Hn:∀b o,s.heap.get? b=some o->(h'.push (PySem.W.kla_obj "<lambda>" (X.env.qual++"<lambda>") params body scope dA ((X.mg "__name__").getD .none) c' u_)).get? b=some o:=fun b o e=>cD _ (hk b o e);have I2:aP X ae σ H2 { s with heap:=h'.push (PySem.W.kla_obj "<lambda>" (X.env.qual++"<lambda>") params body scope dA ((X.mg "__name__").getD .none) c' u_),toks:=tk }:=by
   refine I.step (g':=s.gens) (d':=s.drawn) (ch:=[]) (fun _ z=>absurd z (by simp)) (fun b o _ _ _ e n=>Hn b o e) (fun b o _ _ _ e n=>⟨o.slots,Hn b o e⟩)
    (fun b o _ e n=>?_) (fun b o _ e=>⟨o,Hn b o e⟩) (fun b xs e=>old b _ e) (fun b o u e=>old b _ e) (fun b ps e=>⟨#[],by rw[old b _ e];simp⟩) (fun m hm=>(hm.keeps hk).push _) (I.bE.laid Hn Hm (Ay ⟨dA,_,u_,c1,c2,dh _ rfl⟩)) I.bare
   .show upd _ _ _ _=_;rw[ai (aZ (bV (hsz b o e) Hm))];exact n
  exact⟨.ref h'.objs.size,H2,I2,rfl,h _ c' H2 (.inr ⟨c',old _ _ hP,old _ _ Dn⟩) (fun b o e _=>old b o e) (old _ _ Dn) ef⟩
end
def D_(X:Cx)(id:String)(ks:List Str)(r:St->List V->List V->Hp->VK->Prop):Prop:=
 ∀ (ae:List (Addr×Obj)) (s:Shared) (σ:St) (H:Hp) (vs zs:List V) (us ws:List Value) (Q:VK),aP X ae σ H s->aX vs us->aX zs ws->r σ vs zs H Q->
  wpAny (model X.prog X.w) X.A (call (.builtin id) us (ks.zip ws)) (EP X ae σ Q) X.xe s
def Vg(r:St->List V->List V->Hp->VK->Prop)(t tk:TA):TE:=fun σ H Q=>t σ H fun vs H1=>tk σ H1 fun zs H2=>r σ vs zs H2 Q
section
variable {X:Cx} {x:Str} {p pos:Pos} {e:Expr} {es:List Expr} {DG:List Keyword} {t tk:TA} {id:String} {ks:List Str} {r:St->List V->List V->Hp->VK->Prop}
theorem B_(hc:D_ X id ks r)(hg:Gl X x)(hm:X.mg x=none)(hv:bootBuiltins x=some (.builtin id))(ha:PA X (e::es) t)(hkw:PK X DG tk)(hn:x≠"__name__":=by decide)(BK:(x==("__debug__":Str))=false:=by decide)(hks:(backToKw pos (keywordEach DG X.env)).filterMap (·.1)=ks:=by rfl)(he:backTo pos (starEach (e::es) X.env)=(false,eval e X.env)::backTo pos (starEach es X.env):=by rfl)(y7:(backTo pos (starEach (e::es) X.env)).any (·.1)=false:=by rfl)(rY:(backToKw pos (keywordEach DG X.env)).all (·.1.isSome)=true:=by rfl)(LM:(backToKw pos (keywordEach DG X.env)).any (·.1.isNone)=false:=by rfl):PE X (.Call (.Name x p) (e::es) DG pos) (Vg r t tk):=by
 intro ae s σ H Q I h;refine lI (jV I hg hm hv ?_ hn BK);refine PyProof.Rows.callWith_kw (cm (ha pos ae s σ H _ I h) fun us s1 ⟨vs,H1,I1,r1,q1⟩=>?_) he y7 rY LM;refine cm (hkw pos ae s1 σ H1 _ I1 q1) fun ws s2 ⟨zs,H2,I2,rz,q2⟩=>?_;rw[hks];exact hc ae s2 σ H2 vs zs us ws Q I2 r1 rz q2
end
def LQ(za zb:Int)(ns out:List Int):Prop:=∃ps:List (Int×Int),ps.Perm (ns.map fun z=>((z-za) % zb,z))/\out=ps.map (·.2)/\ps.Pairwise fun p q=>p.1<=q.1
def LU(X:Cx)(qual:Str)(params:Arguments)(body:Expr)(scope:Scope)(ia ib:Nat):St->List V->List V->Hp->VK->Prop:=fun σ vs zs H Q=>
 ∃ (l f c:Addr) (ns:List Int) (za zb:Int),vs=[.ref l]/\zs=[.ref f]/\aV X.K H l (ns.map V.int)/\ns.length<64/\H f=some (qH f qual params body scope X.env.cells c)/\H c=some (oQ c qual)/\
  σ[ia]?=some (some (.int za))/\σ[ib]?=some (some (.int zb))/\0<zb/\∀ (r:Addr) (out:List Int),H r=none->LQ za zb ns out->Q (.ref r) (upd H r (.lst (out.map V.int)))
theorem tm:∀ {ns:List Int} {vs:List Value},aX (ns.map V.int) vs->IntsAre vs ns
 |[],_,.nil=>.nil
 |_::_,_,.cons ⟨t,e⟩ r=>by subst e;exact .cons _ t (tm r)
structure P0(X:Cx)(qual:Str)(params:Arguments)(body:Expr)(scope:Scope)(y a b:Str)(ia ib:Nat):Prop where
 bd:∃p1 p2 p3 p4 p5,body=.BinOp (.BinOp (.Name y p1) .Sub (.Name a p2) p3) .Mod (.Name b p4) p5
 bind:∀dA pm c u_ v,bindArgs (PySem.W.kla_fn "<lambda>" qual params body scope dA pm (.ref c) u_) ⟨[v],[]⟩=pure [(y,v)]
 na:X.N[ia]?=some a
 nb:X.N[ib]?=some b
 ca:X.env.scope.names.lookup a=some .cell
 cb:X.env.scope.names.lookup b=some .cell
 ly:scope.names.lookup y=some .local
 fa:scope.names.lookup a=some .free
 fb:scope.names.lookup b=some .free
 ma:(a,NameKind.free)∈scope.names
 mb:(b,NameKind.free)∈scope.names
 va:∀z∈scope.names,z.2≠.cell
 kind:scope.kind=.function
 co:scope.isCoroutine=false
 gen:scope.isGenerator=false
 dy:(y==("__debug__":Str))=false
 da:(a==("__debug__":Str))=false/\(a==("__classdict__":Str))=false
 db:(b==("__debug__":Str))=false/\(b==("__classdict__":Str))=false
theorem zu(S:P0 X qual params body scope y a b ia ib)(hr:b_ k X.A):
  D_ X "sorted" ["key"] (LU X qual params body scope ia ib):=by
 intro ae s σ H vs zs us ws Q I r rz h;obtain⟨l,f,c,ns,za,zb,rfl,rfl,hl,Vh,hf,hc,sa,sb,hb0,q⟩:=h;obtain⟨u1,rfl,r1⟩:=r.one;obtain rfl:u1=Value.ref l:=r1;obtain⟨w1,rfl,rw1⟩:=rz.one;obtain rfl:w1=Value.ref f:=rw1;obtain⟨its,rv,pl,hz⟩:=I.list hl;have hI:=tm rv;obtain⟨m,F⟩:=I.fr;obtain⟨p1,p2,p3,p4,p5,rfl⟩:=S.bd;obtain⟨dA,pm,u_,c1,c2,Lz⟩:=(I.bE f _ hf).1;have Vi:s.heap.CodeRec (.ref c) qual:=(I.bE c _ hc).1;obtain⟨m',Ye,YG⟩:=I.loc;have P1:∃ca ta,dA.lookup a=some ca/\s.heap.IsCell ca (some (.int za ta)):=by
  obtain⟨u,⟨ta,rfl⟩,lk⟩:=YG ia a (.int za) S.na sa (.inr (.inl S.ca));obtain⟨ca,e1⟩:=c2 a S.ma;rcases lk with ⟨z,_⟩|⟨_,ca',e2,e3⟩
  .have z':X.env.scope.names.lookup a=some .local:=z;rw[S.ca] at z';cases z'
  .have e4:=c1 a ca e1;rw[e2] at e4;cases e4;exact⟨ca,ta,e1,e3⟩
 have P2:∃cb tb,dA.lookup b=some cb/\s.heap.IsCell cb (some (.int zb tb)):=by
  obtain⟨u,⟨tb,rfl⟩,lk⟩:=YG ib b (.int zb) S.nb sb (.inr (.inl S.cb));obtain⟨cb,e1⟩:=c2 b S.mb;rcases lk with ⟨z,_⟩|⟨_,cb',e2,e3⟩
  .have z':X.env.scope.names.lookup b=some .local:=z;rw[S.cb] at z';cases z'
  .have e4:=c1 b cb e1;rw[e2] at e4;cases e4;exact⟨cb,tb,e1,e3⟩
 obtain⟨ca,ta,ea,ha⟩:=P1;obtain⟨cb,tb,eb,hb⟩:=P2;have SZ:∀b' (o:Obj),s.heap.get? b'=some o->(∀es ep,o.data≠.dict es ep)->b'≠X.env.locals:=fun b' o e d z=>by
  obtain⟨o',es,ep,e',d',_⟩:=F.ns;rw[z,e'] at e;cases e;exact d _ _ d'
 have len:(ns.map fun z=>(z-za) % zb).length=its.length:=by rw[aG,hI.length]
 refine ksk_sorted (b:=false) (f:=.ref f) (kz:=ns.map fun z=>(z-za) % zb) F Dk pl.isList len (by rw[hI.length];exact Vh) (ksk_s1 _ _) (fun x=>ksk_l1 _ _) (fun x=>ksk_t1 _ _) ?_ ?_
 .-- one key
  intro i v k hv hk h tk own F' N';have at_:∀b' u,b'≠X.env.locals->s.heap.get? b'=some u->h.get? b'=some u:=fun b' u jD e=>by
   cases z:X.base.get? b' with
   |some o=>
    have:=I.bk b' o z;rw[e] at this;cases this;exact F'.keep b' _ z
   |none=>exact(N' (b',u) (hW _ (jT jD z e))).1
  have Vj:=at_ f _ (SZ f _ Lz (by intro es ep z;cases z)) Lz;have Vk:h.CodeRec (.ref c) qual:=by
   obtain⟨c0,o,YH,t0,e0,ho,hd,hv0⟩:=Vi;refine⟨c0,o,YH,t0,e0,at_ _ _ (SZ _ _ ho (by rw[hd];intro es ep z;cases z)) ho,hd,hv0⟩
  have UP:h.IsCell ca (some (.int za ta)):=by
   obtain⟨o,ho,hd⟩:=ha;exact⟨o,at_ _ _ (SZ _ _ ho (by rw[hd];intro es ep z;cases z)) ho,hd⟩
  have o6:h.IsCell cb (some (.int zb tb)):=by
   obtain⟨o,ho,hd⟩:=hb;exact⟨o,at_ _ _ (SZ _ _ ho (by rw[hd];intro es ep z;cases z)) ho,hd⟩
  obtain⟨z,tz,rfl,rfl⟩:∃z tz,v=.int z tz/\k=(z-za) % zb:=by
   obtain⟨n,t,e⟩:=hI.all v (dW hv);refine⟨n,t,e,?_⟩;rw[bq] at hk;have hn:=hI.nums;have e1:(its.map numOf)[i]?=some n:=by rw[bq,hv,e];rfl
   rw[hn] at e1;rw[e1] at hk;exact(aY hk).symm
  have Ea:X.A.in1.in1.depth<recursionLimit:=by
   have:=hr.dp;show X.A.depth<_;lia
  refine ny (PySem.W.kla_callFunE Ea Vj rfl S.co S.gen rfl Vk ?_);rw[S.bind];refine wpAny_pure (wpAny_newFunctionEnv S.va (fun x hx=>by rw[bK.mp hx];exact S.ly) (fun h₁ LV P3=>⟨((I.ok.mod.nolimit).keeps F'.keep).fresh _ P3,?_⟩) S.kind);have LW:∀b o,h.get? b=some o->h₁.get? b=some o:=fun b o e=>P3.extBut b o (aZ (a_ e)) (cD _ e);have ha₁:=UP.keeps LW;have hb₁:=o6.keeps LW;refine PySem.W.kla_codeExpr ?_;refine wpAny_BinOp (wpAny_BinOp ?_);refine nz (yt S.kind S.ly LV (v:=.int z tz) (by simp) ?_) S.dy;refine nz (yz S.kind S.fa ea ha₁ ?_ S.da.2) S.da.1;refine sub_int ?_;refine nz (yz S.kind S.fb eb hb₁ ?_ S.db.2) S.db.1;refine mod_int' (by lia) ?_;rw[Dc _ (by lia)];refine KskEnd.intro (news':=i8 X.base s.heap X.env.locals++own) ⟨F'.ns.keeps LW,fun b o e=>LW b o (F'.keep b o e),F'.above⟩ (fun p hp=>⟨LW _ _ (N' p hp).1,(N' p hp).2⟩) fun p hp=>hp
 .-- the list
  intro D h' tk out cc F' N' d9 Vl;have hD:=rZ I N' d9;obtain⟨ps,hp,ho,hs⟩:=Vl;have Hb:∀p∈ps,∃n t,p.2=.int n t:=fun p Gm=>by
   have:=hp.mem_iff.mp Gm;exact hI.all _ (nq this).2
  have Vm:((ns.map fun z=>(z-za) % zb).zip its).map (fun p=>(p.1,numOf p.2))=ns.map fun z=>((z-za) % zb,z):=by
   have hn:=hI.nums;rw[<-hn];have go:∀ (l:List Value),((((l.map numOf).map fun z=>(z-za) % zb).zip l).map fun p=>(p.1,numOf p.2))=(l.map numOf).map fun z=>((z-za) % zb,z):=by
    intro l;induction l with
    |nil=>rfl
    |cons x l ih=>simp only[cQ,List.zip_cons_cons,ih]
   exact go its
  have DM:aX ((ps.map fun p=>(p.1,numOf p.2)).map (fun p=>V.int p.2)) (ps.map Prod.snd):=by
   have go:∀ (l:List (Int×Value)),(∀p∈l,∃n t,p.2=.int n t)->aX ((l.map fun p=>(p.1,numOf p.2)).map (fun p=>V.int p.2)) (l.map Prod.snd):=by
    intro l;induction l with
    |nil=>intro _;exact .nil
    |cons x l ih=>
     intro hx;refine .cons ?_ (ih fun p hp=>hx p (cy _ hp));obtain⟨n,t,e⟩:=hx x cq;show ∃t,x.2=Value.int (numOf x.2) t;rw[e];exact⟨t,rfl⟩
   exact go ps Hb
  have Cb:LQ za zb ns ((ps.map fun p=>(p.1,numOf p.2)).map (·.2)):=by
   refine⟨ps.map fun p=>(p.1,numOf p.2),?_,rfl,?_⟩
   .rw[<-Vm];exact hp.map _
   .refine jq.mpr (hs.imp fun {p q} z=>?_);simpa using z
  have hDo:h'.get? D=some (seqObj "list" out cc):=(N' _ cq).1;have I2:aP X ae σ (upd H D (.lst (((ps.map fun p=>(p.1,numOf p.2)).map (·.2)).map V.int))) { s with heap:=h',toks:=tk }:=by
   refine I.PM F F' (fun p hp=>N' p (cy _ hp)) hD ⟨?_,ps.map Prod.snd,cc,?_,?_⟩
   .have h1:=hp.length_eq;rw[List.length_zip,len,Nat.min_self] at h1;simp only[aG];rw[h1,hI.length];exact bj (d_ Vh) (by decide)
   .have ev:=DM;simp only[ic] at ev |-;exact ev
   .rw[hDo,<-ho]
  exact⟨.ref D,_,I2,rfl,q D _ (I.bE.u5 hD) Cb⟩
def r9(mg:Str->Option Value)(base:Heap):Prop:=∃bm o,mg "__builtins__"=some (.ref bm)/\bm≠builtinsNs/\bm≠mainGlobals/\base.get? bm=some o/\o.cls=.type "module"/\o.dict=some builtinsNs/\o.data=.plain
def Az(ts:List Addr)(H:Hp):Prop:=(∀P∈ts,H P=some (.nA #[]))/\∀b,H b=none\/(b∈ts/\H b=some (.nA #[]))\/∃o xs,H b=some (.iR o (.lst xs))
theorem Cc{P:Program}{w:World}{K:PySem.W.Frag}{mg mb:Str->Option Value}{CX:wu}{k:Nat}{fa a:Addr}{fd:FuncData}{x:Str}{sp:Sp}{s₁:Shared}{vs:List Value}{ns:List Int}{ts:List Addr}(KX:K.In s₁.heap)(LV:s₁.heap.Ns mainGlobals mg)(hb:s₁.heap.Ns builtinsNs mb)(hbb:∀x:Str,x≠"__name__"->mb x=bootBuiltins x)(Vn:s₁.heap.NoLimit)(hg:s₁.gens=#[])(hbm:r9 mg s₁.heap)(qI:∀P∈ts,s₁.heap.get? P=some (PySem.W.tabObj #[]))(sB:∀P∈ts,∃c,PySem.W.codeHdIn K c P=true)(Vo:∀P∈ts,K.lookup P=none)(ha:s₁.heap.get? a=some { cls:=.type "list",data:=.seq vs.toArray })(hi:IntsAre vs ns)(hl:ns.length<=sizeLine)(hr:b_ k callerA)(F:∀base:Heap,K.In base->base.Ns mainGlobals mg->r9 mg base->bz P w K mg base CX k fa fd [x] sp)(P4:∀ (s:Shared) (u:Value),BindsTo s fd ⟨[u],[]⟩ [(x,u)])(Gk:∀H:Hp,Az ts H->aV K H a (ns.map V.int)->sp [.ref a] H (fun v _=>v=.bl true) fun _ _ _=>False)(Vp:∀H e s',CX [] H s₁ (fun _ _ _=>False) e s'->False):
  codeAny (model P w) callerA (.call (.ref fa) ⟨[.ref a],[]⟩) (fun r s'=>r=.ok (.ret (.bool true))/\OldK s₁.heap s'.heap/\s'.os=s₁.os/\AllBare s'.gens) s₁:=by
 have rv:=sV hi;have Vq:=hi.length;have YI:a∉ts:=fun z=>by
  have:=qI a z;rw[ha] at this;cases this
 have P5:∀H:Hp,Az ts H->aV K H a (ns.map V.int)->i7 P w H s₁.heap->(∀b,H b≠none->b=a\/b∈ts)->(H a≠none->K.lookup a=none)->
   codeAny (model P w) callerA (.call (.ref fa) ⟨[.ref a],[]⟩) (fun r s'=>r=.ok (.ret (.bool true))/\OldK s₁.heap s'.heap/\s'.os=s₁.os/\AllBare s'.gens) s₁:=by
  intro H hO hS bE hA hK;have vc:∀ {b:Addr} {o:Obj},s₁.heap.get? b=some o->H b=none->(rT s₁.heap H).get? b=some o:=fun e n=>Dj e n;have On:∀ {b:Addr} {o:Obj},s₁.heap.get? b=some o->(∀v n,o.data≠.seq v n)->(∀v,o.data≠.fields v)->H b=none:=fun {b o} e d1 d2=>by
   cases q:H b with
   |none=>rfl
   |some u=>
    rcases hA b (by rw[q];simp) with e'|e'
    .subst e';rw[ha] at e;cases e;exact absurd rfl (d1 _ _)
    .rw[qI b e'] at e;cases e;exact absurd rfl (d2 _)
  have S0:∀ {b:Addr} {m:Str->Option Value},s₁.heap.Ns b m->(rT s₁.heap H).Ns b m:=fun {b m} ⟨o,es,ep,e,d,r⟩=>⟨o,es,ep,vc e (On e (by rw[d];intro v n z;cases z) (by rw[d];intro v z;cases z)),d,r⟩
  have YJ:K.In (rT s₁.heap H):=fun b o e=>vc (KX b o e) (by
   cases q:H b with
   |none=>rfl
   |some u=>
    rcases hA b (by rw[q];simp) with e'|e'
    .subst e';rw[hK (by rw[q];simp)] at e;cases e
    .rw[Vo b e'] at e;cases e)
  have hB:r9 mg (rT s₁.heap H):=by
   obtain⟨bm,o,b1,b2,b3,b4,b5,b6,b7⟩:=hbm;exact⟨bm,o,b1,b2,b3,vc b4 (On b4 (by rw[b7];intro v n z;cases z) (by rw[b7];intro v z;cases z)),b5,b6,b7⟩
  have hM:Mod K mg (rT s₁.heap H):=⟨YJ,S0 LV,⟨mb,S0 hb,hbb⟩,let ⟨mc,h1,h2⟩:=Vn;⟨mc,S0 h1,h2⟩⟩
  have e0:ww P w K mg (rT s₁.heap H) callerA [] s₁ H:=⟨rfl,hM,fun b o e=>GD e,uF (Bz _ _),trivial,fun b hb=>absurd (show b∈([]:List Addr) from hb) (by simp),bE,.of_eq hg⟩
  refine lT ((F _ YJ (S0 LV) hB).run callerA [] s₁ H ⟨[.ref a],[]⟩ [.ref a] [.ref a] _ _ hr e0 (P4 s₁ (.ref a)) (.cons rfl .nil) (Gk H hO hS)) fun r s' h=>?_;cases r with
  |error e=>exact(Vp H e s' h).elim
  |ok fl=>
   cases fl with
   |next=>exact False.elim h
   |brk=>exact False.elim h
   |cont=>exact False.elim h
   |ret u=>
    obtain⟨v,H',os,bare,un,P6,r',q⟩:=h;have q':v=.bl true:=q;subst q';obtain rfl:u=Value.bool true:=r';refine⟨rfl,⟨fun b o e=>?_,fun b o e=>un.there b o e (by simp)⟩,os,bare⟩;cases q:H b with
    |none=>exact .inl (un.keep b o e q (by intro z;exact absurd (show b∈([]:List Addr) from z) (by simp)) (by simp))
    |some u=>
     rcases hO.2 b with z|⟨zt,z⟩|⟨ob,xs,z⟩
     .rw[q] at z;cases z
     .obtain⟨more,z2⟩:=un.nE b _ z;have e1:=qI b zt;rw[e] at e1;cases e1;have e2:s'.heap.get? b=some { cls:=.none,data:=.fields (#[]++more) }:=P6 b _ z2;obtain⟨c,hc⟩:=sB b zt;obtain⟨oc,vsc,_,_,_,_,_,_,_,g1,g2,g3,g4,_⟩:=PySem.W.codeHd_of_K KX hc;exact .inr (.inl ⟨⟨c,oc,vsc,g1,g2,g3,g4⟩,rfl,#[],more,rfl,e2⟩)
     .have z2:=un.nC b ob _ z;obtain⟨e1,_⟩:=bE b _ z;obtain⟨e2,_⟩:=P6 b _ z2;rw[e] at e1;cases e1;exact .inl e2
 have YK:∀ (H:Hp),(∀P∈ts,H P=some (.nA #[]))->True:=fun _ _=>trivial
 classical
 cases hk:K.lookup a with
 |some o=>
  have e:=KX a o hk;rw[ha] at e;cases e;refine P5 (fun b=>if b∈ts then some (.nA #[]) else none) ⟨fun P hP=>ao hP,fun b=>?_⟩ (.inr ⟨_,vs.toArray,_,hk,rfl,rfl,rfl,by rw[cE,Vq];exact hl,by simpa using rv⟩) (fun b u z=>?_) (fun b z=>?_) fun z=>absurd (ap YI) z
  .by_cases hb:b∈ts
   .exact .inr (.inl ⟨hb,ao hb⟩)
   .exact .inl (ap hb)
  .by_cases hb:b∈ts
   .have z':=(ao hb).symm.trans z;cases z';exact qI b hb
   .have z':=(ap hb).symm.trans z;cases z'
  .by_cases hb:b∈ts
   .exact .inr hb
   .exact absurd (ap hb) z
 |none=>
  refine P5 (fun b=>if b=a then some (.iR { cls:=.type "list",data:=.seq vs.toArray } (.lst (ns.map V.int))) else if b∈ts then some (.nA #[]) else none) ⟨fun P hP=>?_,fun b=>?_⟩ (.inl (.inr ⟨{ cls:=.type "list",data:=.seq vs.toArray },ao rfl⟩)) (fun b u z=>?_) (fun b z=>?_) fun _=>hk
  .have:P≠a:=fun z=>YI (z ▸ hP);show (if P=a then _ else if P∈ts then _ else _)=_;rw[ap this,ao hP]
  .by_cases hb:b=a
   .exact .inr (.inr ⟨_,_,ao hb⟩)
   .by_cases ht:b∈ts
    .exact .inr (.inl ⟨ht,by show (if b=a then _ else if b∈ts then _ else _)=_;rw[ap hb,ao ht]⟩)
    .exact .inl (by show (if b=a then _ else if b∈ts then _ else _)=_;rw[ap hb,ap ht])
  .by_cases hb:b=a
   .have z':=(ao hb).symm.trans z;cases z';subst hb;exact⟨ha,by rw[aG];exact hl,vs,_,rv,ha⟩
   .have z1:(if b∈ts then some (HO.nA #[]) else none)=some u:=(ap hb).symm.trans z;by_cases ht:b∈ts
    .rw[ao ht] at z1;cases z1;exact qI b ht
    .rw[ap ht] at z1;cases z1
  .by_cases hb:b=a
   .exact .inl hb
   .by_cases ht:b∈ts
    .exact .inr ht
    .exact absurd (by show (if b=a then _ else if b∈ts then _ else _)=_;rw[ap hb,ap ht]) z
theorem Eb{l:PySem.W.OpenLaw}{n k:Nat}{q:Program}{sU:List Str}{XP:(Str->Option Value)->Heap->Prop}{YP:World->Heap->Prop}{d:DefRec}{K:Params->PySem.W.Frag}{CX:World->wu}{sp:World->Sp}{x:Str}{ts:List Addr}(hn:l.most=some n)(SO:n<=sizeLine)(Ps:d.params.defaults=[])(hr:b_ k callerA)(hY:∀ (w:World) (h:Heap),YP w h->(K w.params).In h)(hT:∀ (w:World) (h:Heap),YP w h->∀P∈ts,h.get? P=some (PySem.W.tabObj #[]))(sB:∀ (w:World),∀P∈ts,∃c,PySem.W.codeHdIn (K w.params) c P=true)(Vo:∀ (w:World),∀P∈ts,(K w.params).lookup P=none)(F:∀ (w:World) (mg:Str->Option Value) (fa:Addr) (h:Heap),(K w.params).In h->h.Ns mainGlobals mg->mg d.name=some (.ref fa)->
   ∃fd:FuncData,(∀ (s:Shared) (u:Value),BindsTo s fd ⟨[u],[]⟩ [(x,u)])/\
    ∀base:Heap,(K w.params).In base->base.Ns mainGlobals mg->r9 mg base->bz l.prog w (K w.params) mg base (CX w) k fa fd [x] (sp w))(Gk:∀ (w:World) (H:Hp) (a:Addr) (ns:List Int),ns.length<=n->Az ts H->aV (K w.params) H a (ns.map V.int)->sp w [.ref a] H (fun v _=>v=.bl true) fun _ _ _=>False)(Vp:∀ (w:World) (H:Hp) (s:Shared) (e:Value) (s':Shared),CX w [] H s (fun _ _ _=>False) e s'->False):
  PySem.W.WalkO q sU XP YP l.row.toRowW d [] (fun f vs=>PySem.call f vs):=by
 refine Yo.wE hn Ps fun w s₀ s₁ mg mb fa o pm cd mH a vs ns G Y ho hd aae Pu Ly DN eC hg=>?_;have KX:=hY w _ Y;obtain⟨fd,hb,hF⟩:=F w mg fa _ KX G.T.g Pu;have hB:r9 mg s₁.heap:=by
  obtain⟨bm,ob,b1,b2,b3,b4,b5,b6⟩:=G.T.bmain;refine⟨bm,ob,b1,b2,fun z=>?_,b3,b4,b5,b6⟩;obtain⟨o',es,ep,e,K7,_⟩:=G.T.g;rw[z,e] at b3;cases b3;rw[K7] at b6;cases b6
 exact Cc KX G.T.g G.T.b G.T.builtins G.T.nolimit hg hB (hT w _ Y) (sB w) (Vo w) Ly DN (bj eC SO) hr hF hb (fun H hO hS=>Gk w H a ns eC hO hS) fun H e s'=>Vp w H s₁ e s'
structure wS(K:PySem.W.Frag)(x qual:Str)(st:Stmt)(f:Addr)(fd:FuncData)(c:Addr):Prop where
 ex:∃ (oc:Value) (od:Option Addr) (kV mH pm:Value) (an:Option Addr) (ct:Value) (xP:Array (Option Value)),
  fd=PySem.W.fnOf x qual (cY st) (bZ st) (am st) .none kV mH pm an (.ref c) ct/\K.lookup f=some ⟨oc,od,.func fd,xP⟩/\PySem.W.codeIn K (.ref c) qual=true
 kp:PySem.W.keepIn K (.ref f)=true
theorem wS.fun{K:PySem.W.Frag}{x qual:Str}{st:Stmt}{f:Addr}{fd:FuncData}{c:Addr}(F:wS K x qual st f fd c):fX K x qual st f fd:=by
 obtain⟨oc,od,kV,mH,pm,an,ct,xP,e,lk,sB⟩:=F.ex;exact⟨⟨oc,od,kV,mH,pm,an,_,ct,xP,e,lk,sB⟩,F.kp⟩
section
variable {P:Program} {w:World} {K:PySem.W.Frag} {mg:Str->Option Value} {base:Heap}
theorem wS.ok{x qual:Str}{st:Stmt}{f:Addr}{fd:FuncData}{c:Addr}{N ps:List Str}{k:Nat}{sp:Sp}(F:wS K x qual st f fd c)(S:aI N ps (am st))(len:∀vs H Q E,sp vs H Q E->vs.length=ps.length)(wy:∀ (A:Around) (outer:List Env) (s:Shared) (H:Hp) (vs:List V) (Q:VK) (E:XK),b_ k (A.deeper (envOfC qual (am st) s.heap.objs.size f (.ref c)))->sp vs H Q E->
   ∃t,yM (uQ be P w K mg base N qual (am st) f (.ref c) A outer s H E).JW (bZ st) t/\t { nx:=fun _ H'=>Q .bJ H',rt:=Q } (start N vs) H):bz P w K mg base be (k+1) f fd ps sp:=by
 obtain⟨oc,od,kV,mH,pm,an,ct,xP,rfl,lk,sB⟩:=F.ex;refine J1 lk sB S len fun A outer s H vs Q E hr Gk=>?_;obtain⟨t,h,q⟩:=wy A outer s H vs Q E hr Gk;exact⟨t,h.JW,q⟩
theorem Ho{x qual:Str}{st:Stmt}{f c:Addr}{oc:Value}{od an:Option Addr}{xP:Array (Option Value)}{kV mH pm ct:Value}(l:K.lookup f=some ⟨oc,od,.func (PySem.W.fnOf x qual (cY st) (bZ st) (am st) .none kV mH pm an (.ref c) ct),xP⟩)(sB:PySem.W.codeIn K (.ref c) qual=true)(kp:PySem.W.keepIn K (.ref f)=true):wS K x qual st f (PySem.W.fnOf x qual (cY st) (bZ st) (am st) .none kV mH pm an (.ref c) ct) c:=⟨⟨oc,od,kV,mH,pm,an,ct,xP,rfl,l,sB⟩,kp⟩
theorem AA(kb:K.In base)(hb:r9 mg base)(hc:PySem.W.codeHdIn K c P'=true):
  Hl (uQ CX P w K mg base N qual scope f (.ref c) A outer s H E).JW c P':=⟨rfl,PySem.W.codeHd_of_K kb hc,hb⟩
end
def pC(sc Vr:Scope)(y:Str×NameKind):Bool:=match y.2 with
 |.cell=>(match sc.names.lookup y.1 with|some .cell=>true|_=>false)
 |.local=>(match sc.names.lookup y.1 with|some .local=>true|_=>false)
 |.free=>(match Vr.names.lookup y.1 with|some .cell=>true|some .free=>true|_=>false)
 |_=>true
def Ec(NB:List Str)(src:List (Option Nat))(sc:Scope)(N:List Str)(i:Nat):Bool:=match NB[i]?,src[i]? with
 |some x,some (some j)=>(N[j]?==some x)&&(match sc.names.lookup x with|some .free=>true|_=>false)
 |_,_=>true
def AB(sc:Scope):Bool:=match sc.kind with|.function=>true|_=>false
def Ed(NB:List Str)(src:List (Option Nat))(sc Vr:Scope)(N:List Str):Bool:=
 AB sc&&decide NB.Nodup&&(src.length==NB.length)&&(sc.names.all (pC sc Vr))&&(List.range NB.length).all (Ec NB src sc N)
theorem cj(h:Ed NB src sc X.env.scope X.N=true):gP NB src sc X:=by
 unfold Ed at h;simp only[dX,lJ,gu,lL] at h;obtain⟨⟨⟨⟨h1,h2⟩,h3⟩,h4⟩,h5⟩:=h;refine⟨?_,h2,h3,fun y hy z=>?_,fun y hy z=>?_,fun y hy z=>?_,fun i x j e1 e2=>?_⟩
 .unfold AB at h1;split at h1
  .assumption
  .cases h1
 .have:=h4 y hy;obtain⟨n,k⟩:=y;obtain rfl:k=.cell:=z;dsimp only[pC] at this |-;split at this
  .assumption
  .cases this
 .have:=h4 y hy;obtain⟨n,k⟩:=y;obtain rfl:k=.local:=z;dsimp only[pC] at this |-;split at this
  .assumption
  .cases this
 .have:=h4 y hy;obtain⟨n,k⟩:=y;obtain rfl:k=.free:=z;dsimp only[pC] at this |-;split at this
  .exact .inl (by assumption)
  .exact .inr (by assumption)
  .cases this
 .have hi:i<NB.length:=(cM.mp e1).1;have:=h5 i (bL.mpr hi);unfold Ec at this;rw[e1,e2] at this;simp only[dX,gu] at this;refine⟨this.1,?_⟩;have t2:=this.2;split at t2
  .assumption
  .cases t2
theorem ff{K:PySem.W.Frag}{a D:Addr}{xs:List V}{g:TG}{tt:TT}{te:TE}{fin:Hp->Prop}{σB:St}{H0:Hp}(Pv:Nat->List V->St->Hp->Prop)(h0:Pv 0 [] σB H0)(hl:∀i ys σ H,i<=xs.length->Pv i ys σ H->aV K H a xs)(hs:∀i x ys σ H (Kt:V->St->Hp->Prop) (Kf:St->Hp->Prop),xs[i]?=some x->Pv i ys σ H->
   (∀v σ2 H4,H4 D=some (.lst ys)->ys.length<sizeLine->Pv (i+1) (ys++[v]) σ2 (upd H4 D (.lst (ys++[v])))->Kt v σ2 H4)->(∀σ2 H3,Pv (i+1) ys σ2 H3->Kf σ2 H3)->
   g x σ H fun σ2 H2=>tt σ2 H2 fun b H3=>if b=true then te σ2 H3 fun v H4=>Kt v σ2 H4 else Kf σ2 H3)(hd:∀ys σ H,Pv xs.length ys σ H->fin H):ig (Ds K a) g tt te D fin σB H0:=by
 refine⟨fun i m σ H=>m=xs.length-i/\i<=xs.length/\∃ys,Pv i ys σ H,⟨xs.length,by simp,dv _,[],h0⟩,?_⟩;rintro i m σ H ⟨rfl,hi,ys,p⟩;have q:=hl i ys σ H hi p;by_cases d9:i<xs.length
 .refine .inr ⟨⟨xs,xs[i],q,by simp[d9]⟩,?_⟩;rintro x H' ⟨rfl,y⟩;exact hs i x ys σ _ (fun v σ2 H4=>∃ys,H4 D=some (.lst ys)/\ys.length<sizeLine/\∃m',m'<xs.length-i/\m'=xs.length-(i+1)/\i+1<=xs.length/\∃o7,Pv (i+1) o7 σ2 (upd H4 D (.lst (ys++[v]))))
   (fun σ2 H3=>∃m',m'<xs.length-i/\m'=xs.length-(i+1)/\i+1<=xs.length/\∃o7,Pv (i+1) o7 σ2 H3) (y xs q) p
   (fun v σ2 H4 z1 z2 z3=>⟨ys,z1,z2,_,by lia,rfl,d9,_,z3⟩) (fun σ2 H3 z=>⟨_,by lia,rfl,d9,_,z⟩)
 .have e:i=xs.length:=by lia
  subst e;exact .inl ⟨⟨xs,q,ba _⟩,hd ys σ H p⟩
theorem jc{lo:Int}{n:Nat}{D:Addr}{g:TG}{tt:TT}{te:TE}{fin:Hp->Prop}{σB:St}{H0:Hp}(Pv:Nat->List V->St->Hp->Prop)(h0:Pv 0 [] σB H0)(hs:∀i ys σ H (Kt:V->St->Hp->Prop) (Kf:St->Hp->Prop),i<n->Pv i ys σ H->
   (∀v σ2 H4,H4 D=some (.lst ys)->ys.length<sizeLine->Pv (i+1) (ys++[v]) σ2 (upd H4 D (.lst (ys++[v])))->Kt v σ2 H4)->(∀σ2 H3,Pv (i+1) ys σ2 H3->Kf σ2 H3)->
   g (.int (lo+i)) σ H fun σ2 H2=>tt σ2 H2 fun b H3=>if b=true then te σ2 H3 fun v H4=>Kt v σ2 H4 else Kf σ2 H3)(hd:∀ys σ H,Pv n ys σ H->fin H):ig (JY lo n) g tt te D fin σB H0:=by
 refine⟨fun i m σ H=>m=n-i/\i<=n/\∃ys,Pv i ys σ H,⟨n,by simp,dv _,[],h0⟩,?_⟩;rintro i m σ H ⟨rfl,hi,ys,p⟩;by_cases d9:i<n
 .refine .inr ⟨d9,?_⟩;rintro x H' ⟨rfl,rfl⟩;exact hs i ys σ _ (fun v σ2 H4=>∃ys,H4 D=some (.lst ys)/\ys.length<sizeLine/\∃m',m'<n-i/\m'=n-(i+1)/\i+1<=n/\∃o7,Pv (i+1) o7 σ2 (upd H4 D (.lst (ys++[v]))))
   (fun σ2 H3=>∃m',m'<n-i/\m'=n-(i+1)/\i+1<=n/\∃o7,Pv (i+1) o7 σ2 H3) d9 p
   (fun v σ2 H4 z1 z2 z3=>⟨ys,z1,z2,_,by lia,rfl,d9,_,z3⟩) (fun σ2 H3 z=>⟨_,by lia,rfl,d9,_,z⟩)
 .have e:i=n:=by lia
  subst e;exact .inl ⟨ba _,hd ys σ H p⟩
section
variable {κ:Type} [DecidableEq κ]
def iL(kvs:List (κ×V))(k:κ):Option V:=(kvs.find? fun kv=>decide (kv.1=k)).map (·.2)
def fZ(kvs:List (κ×V))(k:κ)(v:V):List (κ×V):=
 if (kvs.any fun kv=>decide (kv.1=k))=true then kvs.map (fun kv=>if kv.1=k then (kv.1,v) else kv) else kvs++[(k,v)]
theorem j7{p:κ×V}{r:List (κ×V)}{k:κ}(e:p.1=k):iL (p::r) k=some p.2:=by simp[iL,lN,e]
theorem j8{p:κ×V}{r:List (κ×V)}{k:κ}(e:¬ p.1=k):iL (p::r) k=iL r k:=by simp[iL,lN,e]
theorem qJ(k:κ):∀kvs:List (κ×V),(kvs.any fun kv=>decide (kv.1=k))=(iL kvs k).isSome
 |[]=>rfl
 |p::r=>by
  rw[jP];by_cases e:p.1=k
  .simp only[j7 e,bB e,Bool.true_or,Option.isSome_some]
  .rw[j8 e,cH e,Bool.false_or];exact qJ k r
theorem ii(kvs:List (κ×V))(k:κ)(v:V):(fZ kvs k v).length<=kvs.length+1:=by
 unfold fZ;split
 .rw[aG];lia
 .rw[cr,cG,qh];lia
theorem mL{kvs:List (κ×V)}{k:κ}(v:V)(h:iL kvs k=none):fZ kvs k v=kvs++[(k,v)]:=by
 unfold fZ;rw[qJ,h];exact ap (by decide)
theorem k8.nZ(r:k8 o u):o.isSome=u.isSome:=by
 cases o with
 |none=>cases u with
  |none=>rfl
  |some _=>exact(show False from r).elim
 |some _=>cases u with
  |none=>exact(show False from r).elim
  |some _=>rfl
theorem KV.val{kvs:List (κ×V)}{vs:List (κ×Value)}(r:KV kvs vs)(k:κ):k8 (iL kvs k) (valueAt vs k):=by
 unfold KV at r;induction r with
 |nil=>exact True.intro
 |@cons p q ps qs h t ih=>
  obtain⟨h1,h2⟩:=h;by_cases e:p.1=k
  .have e':q.1=k:=h1.symm.trans e;have b:valueAt (q::qs) k=some q.2:=by simp[valueAt,lN,e']
   rw[j7 e,b];exact h2
  .have e':¬ q.1=k:=fun z=>e (h1.trans z);have b:valueAt (q::qs) k=valueAt qs k:=by simp[valueAt,lN,e']
   rw[j8 e,b];exact ih
theorem KV.any{kvs:List (κ×V)}{vs:List (κ×Value)}(r:KV kvs vs)(k:κ):(kvs.any fun kv=>decide (kv.1=k))=vs.any fun kv=>decide (kv.1=k):=by
 unfold KV at r;induction r with
 |nil=>rfl
 |cons h t ih=>rw[jP,jP,ih,h.1]
theorem KV.LX{kvs:List (κ×V)}{vs:List (κ×Value)}(r:KV kvs vs)(k:κ){y:V}{u:Value}(ry:bi y u):
  KV (kvs.map fun kv=>if kv.1=k then (kv.1,y) else kv) (vs.map fun kv=>if kv.1=k then (kv.1,u) else kv):=by
 unfold KV at r |-;induction r with
 |nil=>exact .nil
 |@cons p q ps qs h t ih=>
  rw[cQ,cQ];refine .cons ?_ ih;obtain⟨h1,h2⟩:=h;by_cases e:p.1=k
  .rw[ao e,ao (h1.symm.trans e)];exact⟨h1,ry⟩
  .rw[ap e,ap (fun z=>e (h1.trans z))];exact⟨h1,h2⟩
theorem KV.put{kvs:List (κ×V)}{vs:List (κ×Value)}(r:KV kvs vs)(k:κ){y:V}{u:Value}(ry:bi y u):KV (fZ kvs k y) (stored vs k u):=by
 unfold fZ stored;rw[r.any k];by_cases e:(vs.any fun kv=>decide (kv.1=k))=true
 .rw[ao e,ao e];exact r.LX k ry
 .rw[ap e,ap e];exact Paired.snoc r ⟨rfl,ry⟩
theorem KV.keys{kvs:List (κ×V)}{vs:List (κ×Value)}(r:KV kvs vs):kvs.map (·.1)=vs.map (·.1):=by
 unfold KV at r;induction r with
 |nil=>rfl
 |cons h t ih=>rw[cQ,cQ,ih,h.1]
theorem KV.length{kvs:List (κ×V)}{vs:List (κ×Value)}(r:KV kvs vs):kvs.length=vs.length:=Paired.length r
end
theorem tq(r:bi (kV k) u):(bv P w).is k u=true:=by
 cases k with
 |inl i=>obtain⟨t,e⟩:=(show ∃t,u=Value.int i t from r);subst e;exact vY P w i t
 |inr x=>obtain⟨t,e⟩:=(show ∃t,u=Value.str x t from r);subst e;exact vZ P w x t
theorem tu:∀ {ks:List dz} {us:List Value},aX (ks.map kV) us->ItemsAre (bv P w) ks us
 |[],_,r=>by rw[lS] at r;cases r;exact .nil
 |k::ks,_,r=>by
  rw[cQ] at r;cases r with
  |cons h t=>exact .cons (tq h) (tu t)
abbrev KT(H:Hp):List (List dz×V)->List (List dz×Addr×Value)->Prop:=Paired fun p q=>p.1=q.1/\H q.2.1=some (.tup (p.1.map kV))/\bi p.2 q.2.2
theorem KT.val{H:Hp}{kvs:List (List dz×V)}{xs:List (List dz×Addr×Value)}(r:KT H kvs xs)(k:List dz):k8 (iL kvs k) ((atKey xs k).map (·.2)):=by
 induction r with
 |nil=>exact True.intro
 |@cons p q ps qs h t ih=>
  obtain⟨h1,_,h2⟩:=h;by_cases e:p.1=k
  .have e':q.1=k:=h1.symm.trans e;have b:atKey (q::qs) k=some q.2:=by simp[atKey,lN,e']
   rw[j7 e,b];exact h2
  .have e':¬ q.1=k:=fun z=>e (h1.trans z);have b:atKey (q::qs) k=atKey qs k:=by simp[atKey,lN,e']
   rw[j8 e,b];exact ih
theorem KT.LX(r:KT H kvs xs)(k:List dz)(ry:bi y u):
  KT H (kvs.map fun kv=>if kv.1=k then (kv.1,y) else kv) (xs.map (putAt k u)):=by
 induction r with
 |nil=>exact .nil
 |@cons p q ps qs h t ih=>
  rw[cQ,cQ];refine .cons ?_ ih;obtain⟨h1,h2,h3⟩:=h;unfold putAt;by_cases e:p.1=k
  .rw[ao e,ao (h1.symm.trans e)];exact⟨h1,h2,ry⟩
  .rw[ap e,ap (fun z=>e (h1.trans z))];exact⟨h1,h2,h3⟩
theorem KT.put(r:KT H kvs xs)(k:List dz)(hb:H b=some (.tup (k.map kV)))(ry:bi y u):
  KT H (fZ kvs k y) (storedH xs k b u):=by
 have e:(kvs.any fun kv=>decide (kv.1=k))=(atKey xs k).isSome:=by
  rw[qJ,(r.val k).nZ,Option.isSome_map]
 unfold fZ storedH;rw[e];by_cases q:(atKey xs k).isSome=true
 .rw[ao q,ao q];exact r.LX k ry
 .rw[ap q,ap q];exact Paired.snoc r ⟨rfl,hb,ry⟩
theorem KT.keeps(r:KT H kvs xs)(ht:∀b ys,H b=some (.tup ys)->H' b=some (.tup ys)):KT H' kvs xs:=
 Paired.K5 r fun _ _ z=>⟨z.1,ht _ _ z.2.1,z.2.2⟩
section
variable {P:Program} {w:World} {H:Hp} {h:Heap} {a:Addr}
theorem Kj(ok:i7 P w H h)(e:Rd H a u):bS P w H h a u:=e.ok ok
theorem wT(ok:i7 P w H h)(e:Rd H a (.dK kvs)):kvs.length<=sizeLine/\(a==sysModules)=false/\∃vs,KV kvs vs/\h.DictOf (bv P w) a vs:=
 show bS P w H h a (.dK kvs) from Kj ok e
theorem Ee{kvs:List (dz×V)}(ok:i7 P w H h)(e:H a=some (.dK kvs)):kvs.length<=sizeLine/\(a==sysModules)=false/\∃vs,KV kvs vs/\h.DictOf (bv P w) a vs:=wT ok (.inl e)
theorem l9(ok:i7 P w H h)(e:H a=some (.tup (ks.map kV))):(tupleKind (bv P w)).is h ks a:=by
 obtain⟨_,its,r,o,h1,h2,n,h3,_⟩:=(show bS P w H h a (.tup (ks.map kV)) from ok a _ e)
 exact⟨o,its.toArray,n,h1,h2,h3,by simpa using tu r⟩
theorem AC(ok:i7 P w H h)(e:Rd H a (.dT kvs)):kvs.length<=sizeLine/\(a==sysModules)=false/\
  ∃xs,KT H kvs xs/\h.DictOfH (tupleKind (bv P w)) a xs:=by
 obtain⟨z,y,xs,r,o,es,ep,h1,h2,h3,h4,h5⟩:=(show bS P w H h a (.dT kvs) from Kj ok e)
 refine⟨z,y,xs,r,o,es,ep,h1,h2,h3,h4,fun x hx=>?_,h5⟩;have all:∀ {l:List (List dz×V)} {m:List (List dz×Addr×Value)},KT H l m->∀x∈m,(tupleKind (bv P w)).is h x.1 x.2.1:=by
  intro l m q;induction q with
  |nil=>intro x hx;exact nomatch hx
  |@cons p q ps qs hq t ih=>
   intro x hx;rcases bP.mp hx with e|hx
   .subst e;exact l9 ok (by rw[<-hq.1];exact hq.2.1)
   .exact ih x hx
 exact all r x hx
theorem P7{kvs:List (List dz×V)}(ok:i7 P w H h)(e:H a=some (.dT kvs)):kvs.length<=sizeLine/\(a==sysModules)=false/\
  ∃xs,KT H kvs xs/\h.DictOfH (tupleKind (bv P w)) a xs:=AC ok (.inl e)
end
def iy(H:Hp)(a:Addr)(y:V)(r:Option V):Prop:=
 (∃kvs k,Rd H a (.dK kvs)/\y=kV k/\r=iL kvs k)\/∃kvs k b,Rd H a (.dT kvs)/\y=.ref b/\H b=some (.tup (k.map kV))/\r=iL kvs k
def r_(H:Hp)(a:Addr)(y v:V)(H':Hp):Prop:=
 (∃kvs k,H a=some (.dK kvs)/\y=kV k/\kvs.length<sizeLine/\H'=upd H a (.dK (fZ kvs k v)))\/
 ∃kvs k b,H a=some (.dT kvs)/\y=.ref b/\H b=some (.tup (k.map kV))/\kvs.length<sizeLine/\H'=upd H a (.dT (fZ kvs k v))
theorem iy.k{H:Hp}{a:Addr}{kvs:List (dz×V)}{k:dz}(e:H a=some (.dK kvs)):iy H a (kV k) (iL kvs k):=.inl ⟨kvs,k,.inl e,rfl,rfl⟩
theorem iy.t{H:Hp}{a b:Addr}{kvs:List (List dz×V)}{k:List dz}(e:H a=some (.dT kvs))(eb:H b=some (.tup (k.map kV))):iy H a (.ref b) (iL kvs k):=.inr ⟨kvs,k,b,.inl e,rfl,eb,rfl⟩
theorem r_.k{H:Hp}{a:Addr}{kvs:List (dz×V)}{k:dz}{v:V}(e:H a=some (.dK kvs))(hl:kvs.length<sizeLine):r_ H a (kV k) v (upd H a (.dK (fZ kvs k v))):=.inl ⟨kvs,k,e,rfl,hl,rfl⟩
theorem r_.t{H:Hp}{a b:Addr}{kvs:List (List dz×V)}{k:List dz}{v:V}(e:H a=some (.dT kvs))(eb:H b=some (.tup (k.map kV)))(hl:kvs.length<sizeLine):
  r_ H a (.ref b) v (upd H a (.dT (fZ kvs k v))):=.inr ⟨kvs,k,b,e,rfl,eb,hl,rfl⟩
section
variable {X:Cx} {ae:List (Addr×Obj)} {σ:St} {H:Hp} {s:Shared} {a:Addr} {y v:V} {u r:Value} {o:Option V} {A:Around} {E:Value->Shared->Prop}
theorem aP.big(I:aP X ae σ H s):sysModules<s.heap.objs.size:=by
 have h:mainGlobals<s.heap.objs.size:=(I.mod.glob.keeps I.bk).lt;exact qm (by decide) h
theorem Cd{Q:Value->Shared->Prop}(hu:A.units+1<cLine)(I:aP X ae σ H s)(g:iy H a y (some v))(ry:bi y u)(h:∀w' s',aP X ae σ H s'->bi v w'->Q w' s'):
  wpAny (model X.prog X.w) A (getItem (.ref a) u) Q E s:=by
 rcases g with ⟨kvs,k,e,ey,l⟩|⟨kvs,k,b,e,ey,eb,l⟩
 .subst ey;obtain⟨z,hd,vs,rM,dd⟩:=wT I.bE e;obtain⟨w',hw,G0⟩:=k8.some_of (v:=v) (o:=valueAt vs k) (by rw[l];exact rM.val k);exact wpAny_getItem_of (tq ry) dd.mapOf hw (h w' _ (I.tok _) G0)
 .subst ey;cases (show u=Value.ref b from ry);obtain⟨z,hd,xs,rM,dd⟩:=AC I.bE e;obtain⟨w',hw,G0⟩:=k8.some_of (v:=v) (o:=(atKey xs k).map (·.2)) (by rw[l];exact rM.val k);obtain⟨p,hp,Vs⟩:=oA.mp hw;refine wpAny_getItem_heap (yE hu) (l9 I.bE eb) dd hp ?_;rw[Vs];exact h w' _ (I.tok _) G0
theorem Hq{Q:Value->Shared->Prop}(hu:A.units+1<cLine)(I:aP X ae σ H s)(g:iy H a y o)(ry:bi y u)(h:∀s',aP X ae σ H s'->Q (.bool (!o.isSome)) s'):
  wpAny (model X.prog X.w) A (compareOp .NotIn u (.ref a)) Q E s:=by
 rcases g with ⟨kvs,k,e,ey,l⟩|⟨kvs,k,b,e,ey,eb,l⟩
 .subst ey;obtain⟨z,hd,vs,rM,dd⟩:=wT I.bE e;refine wpAny_notIn_of (tq ry) hd dd.mapOf ?_;rw[<-(rM.val k).nZ,<-l];exact h _ (I.tok _)
 .subst ey;cases (show u=Value.ref b from ry);obtain⟨z,hd,xs,rM,dd⟩:=AC I.bE e;refine wpAny_notIn_heap (yE hu) (l9 I.bE eb) hd dd ?_;have q:=(rM.val k).nZ;rw[Option.isSome_map] at q;rw[<-q,<-l];exact h _ (I.tok _)
theorem vd{h':Heap}{t':Nat}{ob:HO}(I:aP X ae σ H s)(mu:OT (H a))(hs:Heap.SameBut a s.heap h')(he:∃q,h'.get? a=some q)(new:bS X.prog X.w (upd H a ob) h' a ob):
  aP X ae σ (upd H a ob) { s with heap:=h',toks:=t' }:=
 I.write (x:=a) (e:=a) mu (.inl rfl) (fun b q hb z=>(hs.2 b hb).trans z) he new
theorem Ef{P:Program}{w:World}{H':Hp}{h':Heap}{kvs:List (dz×V)}{vs:List (dz×Value)}(z:kvs.length<=sizeLine)(hd:(a==sysModules)=false)(rM:KV kvs vs)(dd:h'.DictOf (bv P w) a vs):
  bS P w H' h' a (.dK kvs):=⟨z,hd,vs,rM,dd⟩
theorem Ce{H':Hp}{Q:Unit->Shared->Prop}(hu:A.units+1<cLine)(I:aP X ae σ H s)(g:r_ H a y v H')(ry:bi y u)(rv:bi v r)(h:∀s',aP X ae σ H' s'->Q () s'):
  wpAny (model X.prog X.w) A (setItem (.ref a) u r) Q E s:=by
 rcases g with ⟨kvs,k,e,ey,l,eH⟩|⟨kvs,k,b,e,ey,eb,l,eH⟩
 .subst ey eH;obtain⟨z,hd,vs,rM,dd⟩:=Ee I.bE e;have hz:vs.length<=sizeLine:=by rw[<-rM.length];exact z
  have hl:(fZ kvs k v).length<=sizeLine:=by have:=ii kvs k v;lia
  refine wpAny_setItem_pairs (hsz:=hz) (tq ry) dd fun h' LY hs=>h _ ?_;have he:∃q,h'.get? a=some q:=let ⟨q,_,_,hq,_⟩:=LY;⟨q,hq⟩;exact vd I (by rw[e];exact True.intro) hs he (Ef hl hd (rM.put k rv) LY)
 .subst ey eH;cases (show u=Value.ref b from ry);obtain⟨z,hd,xs,rM,dd⟩:=P7 I.bE e;have hz:xs.length<=sizeLine:=by rw[<-Paired.length rM];exact z
  have hl:(fZ kvs k v).length<=sizeLine:=by have:=ii kvs k v;lia
  refine wpAny_setItem_heap (hsz:=hz) (yE hu) (l9 I.bE eb) dd fun h' LY hs=>h _ ?_;obtain⟨q,es,ep,hq,h2,h3,h4,_,h5⟩:=LY;refine vd I (by rw[e];exact True.intro) hs ⟨q,hq⟩ ⟨hl,hd,_,(rM.put k eb rv).keeps fun c ys ec=>?_,q,es,ep,hq,h2,h3,h4,h5⟩;rw[ai (cA ec e (fun z=>nomatch z))];exact ec
end
section
variable {X:Cx} {ae:List (Addr×Obj)} {σ:St} {H:Hp} {s:Shared} {a:Addr} {kvs:List (dz×V)} {k:dz} {u:Value} {A:Around} {E:Value->Shared->Prop}
theorem Kk{Q:Value->Shared->Prop}(I:aP X ae σ H s)(e:Rd H a (.dK kvs))(h:∀t s',aP X ae σ H s'->Q (.int kvs.length t) s'):wpAny (model X.prog X.w) A (call (.builtin "len") [.ref a]) Q E s:=by
 obtain⟨z,hd,vs,rM,dd⟩:=wT I.bE e;refine call_len_dict hd dd (by rw[<-rM.length];rw[iY] at z;lia) ?_;rw[<-rM.length];exact h _ _ (I.tok _)
end
def P8(i:Expr):Prop:=∀ov iv,subscripted i false ov iv=operate [ov,iv] (getItem ov iv)
theorem Hr{prog:Program}{w:World}{A:Around}{E:Value->Shared->Prop}{s:Shared}{env:Env}{value slice:Expr}{pos:Pos}{T id:String}{Q:Value->Shared->Prop}(hl:typeLookup (.type T) "__getitem__"=pure (some (.builtin id)))(hs:P8 slice)(h:wpAny (model prog w) A (eval value env) (fun o s₁=>wpAny (model prog w) A (eval slice env) (fun i s₂=>s₂.TypeIs o T/\wpAny (model prog w) A (getItem o i) Q E s₂) E s₁) E s):
  wpAny (model prog w) A (eval (.Subscript value slice pos) env) Q E s:=by
 refine Subscript_ (ir h (fun o s₁ h₁=>ir h₁ (fun i s₂ h₂=>?_) fun _ _ x=>x) fun _ _ x=>x);obtain⟨hT,h₂⟩:=h₂;unfold subscriptTail;refine aJ ?_;rw[getitemInPython_of_ne hT.not_modules];refine aJ (wpAny_specialOf hT hl ?_);have fin:wpAny (model prog w) A (subscripted slice false o i) (fun r s₃=>wpAny (model prog w) A (letTemporaryGo value o r >>= fun _=>pure r) Q E s₃) E s₂:=by
  rw[hs o i];exact wpAny_operating (ir h₂ (fun r s₃ h₃=>aJ (wpAny_letTemporaryGo (wpAny_pure h₃))) fun _ _ x=>x)
 first
  |exact wpAny_pure (aJ fin)
  |exact aJ (wpAny_pure (aJ fin))
  |exact aJ fin
theorem wU{X:Cx}{ae:List (Addr×Obj)}{σ:St}{H:Hp}{s:Shared}{a:Addr}{y:V}{o:Option V}(I:aP X ae σ H s)(g:iy H a y o):s.TypeIs (.ref a) "dict":=by
 rcases g with ⟨kvs,k,e,_,_⟩|⟨kvs,k,b,e,_,_,_⟩
 .obtain⟨_,_,vs,_,dd⟩:=wT I.bE e;exact dd.typeIs
 .obtain⟨_,_,xs,_,dd⟩:=AC I.bE e;exact dd.typeIs
def qK(td ty:TE):TE:=fun σ H Q=>td σ H fun x H1=>ty σ H1 fun y H2=>∃a v,x=.ref a/\iy H2 a y (some v)/\Q v H2
def ve(ty td:TE):TE:=fun σ H Q=>ty σ H fun y H1=>td σ H1 fun x H2=>∃a o,x=.ref a/\iy H2 a y o/\Q (.bl (!o.isSome)) H2
def P9(td ty tv:TE):TS:=fun D σ H=>tv σ H fun v H1=>td σ H1 fun x H2=>ty σ H2 fun y H3=>∃a H4,x=.ref a/\r_ H3 a y v H4/\D.nx σ H4
section
variable {X:Cx} {o i e value:Expr} {pos oX Lm:Pos} {td ty tv:TE}
theorem cx(hu:X.A.units+1<cLine)(ho:PE X o td)(hi:PE X i ty)(hs:P8 i):PE X (.Subscript o i pos) (qK td ty):=by
 intro ae s σ H Q I h;refine Hr PySem.F.slot_dict_getitem.lookup hs (cm (ho ae s σ H _ I h) fun u s1 ⟨x,H1,I1,rx,q1⟩=>cm (hi ae s1 σ H1 _ I1 q1) fun iv s2 ⟨y,H2,I2,ry,a,v,ex,g,q2⟩=>?_);subst ex;obtain rfl:u=Value.ref a:=rx;exact⟨wU I2 g,Cd hu I2 g ry fun w' s3 I3 G0=>⟨v,H2,I3,G0,q2⟩⟩
theorem n5(hu:X.A.units+1<cLine)(hi:PE X i ty)(ho:PE X o td):PC X .NotIn i o (ve ty td):=by
 intro ae s σ H Q I h;refine cm (hi ae s σ H _ I h) fun iv s1 ⟨y,H1,I1,ry,q1⟩=>cm (ho ae s1 σ H1 _ I1 q1) fun u s2 ⟨x,H2,I2,rx,a,ov,ex,g,q2⟩=>?_;subst ex;obtain rfl:u=Value.ref a:=rx;exact Hq hu I2 g ry fun s3 I3=>⟨.bl (!ov.isSome),H2,I3,rfl,q2⟩
theorem pD(hu:X.A.units+1<cLine)(ho:PE X o td)(hi:PE X i ty)(hv:PE X value tv)(hs:swapsWith value (some (.Subscript o i oX)) pos.line X.env=pure false):
  PS X (.Assign [.Subscript o i oX] value pos) (P9 td ty tv):=by
 intro ae s σ H D I h;refine wpAny_Assign_Subscript (cm (hv ae s σ H _ I h) fun r s1 ⟨v,H1,I1,rv,q1⟩=>cm (ho ae s1 σ H1 _ I1 q1) fun u s2 ⟨x,H2,I2,rx,q2⟩=>cm (hi ae s2 σ H2 _ I2 q2) fun iv s3 ⟨y,H3,I3,ry,a,H4,ex,g,q3⟩=>?_) hs;subst ex;obtain rfl:u=Value.ref a:=rx;exact Ce hu I3 g ry rv fun s4 I4=>⟨σ,H4,I4,q3⟩
end
theorem wV{P:Program}{w:World}{H:Hp}(h:Heap)(hb:sysModules<h.objs.size):bS P w H (h.push { cls:=.type "dict",data:=.dict #[] }) h.objs.size (.dK []):=
 ⟨dv _,lq.mpr (Ne.symm (aZ hb)),[],.nil,Heap.DictOf.new h⟩
theorem Eg{P:Program}{w:World}{H:Hp}(h:Heap)(hb:sysModules<h.objs.size):bS P w H (h.push { cls:=.type "dict",data:=.dict #[] }) h.objs.size (.dT []):=
 ⟨dv _,lq.mpr (Ne.symm (aZ hb)),[],.nil,_,#[],0,dh _ rfl,⟨rfl,rfl,rfl⟩,rfl,rfl,h_⟩
def LZ:TE:=fun _ H Q=>∀p,H p=none->Q (.ref p) (upd H p (.dK []))
def L3:TE:=fun _ H Q=>∀p,H p=none->Q (.ref p) (upd H p (.dT []))
section
variable {X:Cx} {pos:Pos}
theorem Eh:PE X (.Dict [] [] pos) LZ:=fun ae s σ H Q I h=>
 wpAny_Dict_empty ⟨.ref s.heap.objs.size,_,I.laid (a:=s.heap.objs.size) (o:=.dK []) (t':=s.toks) (fun _ _ q=>cD _ q) (ba _) (wV s.heap I.big),rfl,h _ (I.bE.fresh (ba _))⟩
theorem Ei:PE X (.Dict [] [] pos) L3:=fun ae s σ H Q I h=>
 wpAny_Dict_empty ⟨.ref s.heap.objs.size,_,I.laid (a:=s.heap.objs.size) (o:=.dT []) (t':=s.toks) (fun _ _ q=>cD _ q) (ba _) (Eg s.heap I.big),rfl,h _ (I.bE.fresh (ba _))⟩
end
def zw:List (TE×TE)->St->Hp->(List (V×V)->Hp->Prop)->Prop
 |[],_,H,Q=>Q [] H
 |(tk,tv)::r,σ,H,Q=>tk σ H fun x H1=>tv σ H1 fun y H2=>zw r σ H2 fun ps H3=>Q ((x,y)::ps) H3
abbrev VV:List (V×V)->List (Value×Value)->Prop:=Paired fun p q=>bi p.1 q.1/\bi p.2 q.2
def S4(X:Cx)(pos:Pos)(keys:List (Option Expr))(qL:List Expr)(Hs:List (TE×TE)):Prop:=
 ∀ (ae:List (Addr×Obj)) (s:Shared) (σ:St) (H:Hp) (Q:List (V×V)->Hp->Prop),aP X ae σ H s->zw Hs σ H Q->
  wpAny (model X.prog X.w) X.A (evalPairs (pairTrees keys qL X.env pos)) (fun vs s'=>∃ps H',aP X ae σ H' s'/\VV ps vs/\Q ps H') X.xe s
theorem Ht{X:Cx}{pos:Pos}:S4 X pos [] [] []:=fun ae s σ H Q I h=>pairTrees_nil_walk ⟨[],H,I,.nil,h⟩
theorem Ej{X:Cx}{pos:Pos}{k v:Expr}{ks:List (Option Expr)}{vs:List Expr}{tk tv:TE}{Hs:List (TE×TE)}(hk:PE X k tk)(hv:PE X v tv)(hr:S4 X pos ks vs Hs):
  S4 X pos (some k::ks) (v::vs) ((tk,tv)::Hs):=fun ae s σ H Q I h=>
 pairTrees_cons_walk (cm (hk ae s σ H _ I h) fun u s1 ⟨x,H1,I1,rx,q1⟩=>cm (hv ae s1 σ H1 _ I1 q1) fun w2 s2 ⟨y,H2,I2,ry,q2⟩=>
  cm (hr ae s2 σ H2 _ I2 q2) fun ws s3 ⟨ps,H3,I3,rM,q3⟩=>⟨(x,y)::ps,H3,I3,.cons ⟨rx,ry⟩ rM,q3⟩)
def n6(kvs more:List (dz×V)):List (dz×V):=more.foldl (fun dL kv=>fZ dL kv.1 kv.2) kvs
theorem KV.merge:∀ {more:List (dz×V)} {rs:List (dz×Value)} {kvs:List (dz×V)} {vs:List (dz×Value)},KV more rs->KV kvs vs->KV (n6 kvs more) (merged vs rs):=by
 intro more rs kvs vs r;unfold KV at r;induction r generalizing kvs vs with
 |nil=>intro q;exact q
 |@cons p q ps qs h t ih=>
  intro r0;have e:KV (fZ kvs p.1 p.2) (stored vs q.1 q.2):=by
   have:=r0.put p.1 h.2;rw[<-h.1];exact this
  exact ih e
theorem lA:∀ (more kvs:List (dz×V)),(n6 kvs more).length<=kvs.length+more.length
 |[],kvs=>by show kvs.length<=kvs.length+0;lia
 |p::r,kvs=>by
  have h1:=lA r (fZ kvs p.1 p.2);have h2:=ii kvs p.1 p.2;show (n6 (fZ kvs p.1 p.2) r).length<=_;rw[cG];lia
theorem qM{P:Program}{w:World}:∀ {kvs:List (dz×V)} {ws:List (Value×Value)},VV (kvs.map fun kv=>(kV kv.1,kv.2)) ws->∃rs,Carries (bv P w) ws rs/\KV kvs rs
 |[],_,r=>by rw[lS] at r;cases r;exact⟨[],True.intro,.nil⟩
 |p::kvs,_,r=>by
  rw[cQ] at r;cases r with
  |@cons a b as bs h t=>
   obtain⟨rs,c,q⟩:=qM (P:=P) (w:=w) t;obtain⟨b1,b2⟩:=b;exact⟨(p.1,b2)::rs,⟨tq h.1,rfl,c⟩,.cons ⟨rfl,h.2⟩ q⟩
def P_(Hs:List (TE×TE)):TE:=fun σ H Q=>∀p,H p=none->zw Hs σ (upd H p (.dK [])) fun ps H2=>H2 p=some (.dK [])/\∃kvs:List (dz×V),ps=kvs.map (fun kv=>(kV kv.1,kv.2))/\kvs.length<=15/\Q (.ref p) (upd H2 p (.dK (n6 [] kvs)))
theorem Hu{X:Cx}{pos:Pos}{keys:List (Option Expr)}{qL:List Expr}{Hs:List (TE×TE)}(h:S4 X pos keys qL Hs)(rY:keys.all (·.isSome)=true)(hl:keys.length=qL.length)(h0:keys≠[])(h15:keys.length<=15):PE X (.Dict keys qL pos) (P_ Hs):=by
 intro ae s σ H Q I q;have hn:=I.bE.fresh (ba s.heap.objs.size);have I1:=I.laid (a:=s.heap.objs.size) (o:=.dK []) (h':=s.heap.push { cls:=.type "dict",data:=.dict #[] }) (t':=s.toks) (fun _ _ q=>cD _ q) (ba _) (wV s.heap I.big);refine wpAny_Dict_walk (knd:=bv X.prog X.w) rY hl h0 h15 (cm (h ae _ σ _ _ I1 (q _ hn)) fun ws s2 ⟨ps,H2,I2,rM,e,kvs,ep,lk,q2⟩=>?_);subst ep;obtain⟨rs,c,rk⟩:=qM (P:=X.prog) (w:=X.w) rM;obtain⟨z,hd,YH,r0,dd⟩:=Ee I2.bE e;cases r0;refine⟨rs,c,dd,fun h' LY hs=>⟨.ref s.heap.objs.size,_,?_,rfl,q2⟩⟩;have hz:(n6 [] kvs).length<=sizeLine:=by
  have h1:=lA kvs [];rw[qh] at h1;rw[iY];lia
 have he:∃q,h'.get? s.heap.objs.size=some q:=let ⟨q,_,_,hq,_⟩:=LY;⟨q,hq⟩;exact vd I2 (by rw[e];exact True.intro) hs he (Ef hz hd (rk.merge .nil) LY)
section
variable {X:Cx} {ae:List (Addr×Obj)} {σ:St} {H:Hp} {s:Shared} {a:Addr} {y d:V} {u r:Value} {o:Option V} {A:Around} {E:Value->Shared->Prop}
end
section
variable {X:Cx} {o e f:Expr} {uP uX:Pos} {td ty tx:TE}
end
section
variable {X:Cx} {ae:List (Addr×Obj)} {σ:St} {H:Hp} {s:Shared} {a:Addr} {kvs:List (dz×V)} {A:Around} {E:Value->Shared->Prop}
end
section
variable {X:Cx} {ae:List (Addr×Obj)} {σ:St} {H:Hp} {s:Shared} {a:Addr} {y:V} {u:Value} {A:Around} {E:Value->Shared->Prop}
end
section
variable {X:Cx}
theorem Cf:eU X (.builtin "len") (fun xs H Q=>∃a kvs,xs=[V.ref a]/\H a=some (.dK kvs)/\Q (.int kvs.length) H):=by
 intro ae s σ H xs us Q I r h;obtain⟨a,kvs,rfl,ha,q⟩:=h;obtain⟨u,rfl,ru⟩:=qA r;cases ru;exact Kk I (.inl ha) fun t s' I'=>⟨.int kvs.length,H,I',⟨t,rfl⟩,q⟩
end
section
variable {κ:Type} [DecidableEq κ]
end
section
variable {X:Cx}
def Hv:V->List V->Hp->VK->Prop:=fun x vs H Q=>∃ (l:Addr) (xs:List V) (j:Int) (i:Nat) (y:V),x=.ref l/\vs=[.int j,y]/\j=i/\H l=some (.lst xs)/\i<=xs.length/\xs.length<4096/\Q .bJ (upd H l (.lst (xs.take i++[y]++xs.drop i)))
theorem Cg:SU X "list.insert" Hv:=by
 intro ae s σ H x vs v us Q I rx rv h;obtain⟨l,xs,j,i,y,rfl,rfl,hj,hH,h1,h2,q⟩:=h;cases rx;obtain⟨u1,u2,rfl,r1,r2⟩:=rv.two;obtain⟨t,rfl⟩:=r1;obtain⟨z,its,n,r,hl,e⟩:=I.wC hH;have hs:its.length<4096:=by lia
 have a0:0<=j:=by lia
 have a1:-(2 ^ 63:Int)<=j:=Int.le_trans (by decide) a0;have a2:j<2 ^ 63:=Int.lt_of_le_of_lt (show j<=4096 by lia) (by decide);have a3:its.toArray.size<=sizeLine:=by rw[cE];exact bj (d_ hs) (by decide)
 have a4:¬ (!Builtin.List.listFitsIndex j)=true:=by rw[fitsIndex_both a1 a2];decide
 have M:=AutoSeq1.list_insert_list_int_val_1 l its.toArray n j t u2 a4 a3;refine lW F.slot_list_insert ⟨_,e,rfl⟩ F.entry_list_insert (F.args_list_insert_3 _ _ _) M ⟨e,?_⟩;refine⟨.bJ,_,I.Lw (its':=its.take i++[u2]++its.drop i) hH e ?_ (((r.take i).append (.cons r2 .nil)).append (r.drop i)) ?_,rfl,q⟩
 .have hk:(if j<0 then (j+((its.toArray.size:Nat):Int)).toNat else min j.toNat its.toArray.size)=i:=by
   rw[ap (by lia),cE];lia
  show (its.toArray.extract 0 _).push u2++its.toArray.extract _=_;rw[hk];simp;exact uc (by rw[yA];lia)
 .simp only[cr,iG,yA,cG,qh];have:xs.length+1<=sizeLine:=bj (by lia:xs.length+1<=4096) (by decide);lia
theorem qN:∀ {xs:List V} {its:List Value},aX xs its->xs.all gv=true->its.countP (uV x)=xs.countP (fun z=>sQ z x)
 |[],_,.nil,_=>rfl
 |y::xs,_,.cons (b:=u) r rr,f=>by
  have fy:gv y=true:=by rw[iW,dX] at f;exact f.1
  have fx:xs.all gv=true:=by rw[iW,dX] at f;exact f.2
  have h1:[u].any (uV x)=[y].any (fun z=>sQ z x):=kJ (.cons r .nil) (by simp[fy]);have h2:uV x u=sQ y x:=by simpa using h1
  rw[m_,m_,qN rr fx,h2]
def L4:V->List V->Hp->VK->Prop:=fun x vs H Q=>∃ (l:Addr) (xs:List V) (y:V),x=.ref l/\vs=[y]/\H l=some (.lst xs)/\gv y=true/\xs.all gv=true/\Q (.int (xs.countP fun z=>sQ z y)) H
theorem Ek:SU X "list.count" L4:=by
 intro ae s σ H x vs v us Q I rx rv h;obtain⟨l,xs,y,rfl,rfl,hH,fy,fs,q⟩:=h;cases rx;obtain⟨u,rfl,ru⟩:=rv.one;obtain⟨z,its,n,r,hl,e⟩:=I.wC hH;refine lW F.slot_list_count ⟨_,e,rfl⟩ F.entry_list_count (F.args_list_count_2 _ _) (SeqAt.list_countAt l its.toArray n none #[] u (uV y)) ⟨e,fun w hw=>iK ru fy r fs w (by simpa using hw),?_⟩;refine⟨.int _,H,I.tok _,⟨s.toks,?_⟩,q⟩;rw[show its.toArray.toList=its by simp,qN r fs]
end
def Qa(K:PySem.W.Frag)(a:Addr):It:=
 ⟨fun i H=>∃xs x,aV K H a xs/\xs[i]?=some x,fun i H x H'=>∃p v,x=.ref p/\H p=none/\H'=upd H p (.tup [.int i,v])/\∀xs,aV K H a xs->xs[i]?=some v,fun i H=>∃xs,aV K H a xs/\xs.length<=i,fun _ _=>False⟩
theorem aP.AD(I:aP X ae σ H s)(fe:k9 X ae H e)(fi:k9 X ae H it)(k:∀b o,b≠e->b≠it->s.heap.get? b=some o->h'.get? b=some o)(ke:∃o,h'.get? e=some o)(ki:∃o,h'.get? it=some o)(hp:s.heap.objs.size<=p)(hl:xs.length<=sizeLine)(r:aX xs its)(ht:h'.get? p=some { cls:=.type "tuple",data:=.seq its.toArray }):aP X ae σ (upd H p (.tup xs)) { s with heap:=h',toks:=t' }:=by
 have hn:=I.bE.fresh hp;obtain⟨e0,e1,e2,e3,e4,e5⟩:=fe;obtain⟨i0,i1,i2,i3,i4,i5⟩:=fi;have ne:∀b o,s.heap.get? b=some o->b≠p:=fun b o q=>aZ (bV (a_ q) hp);have AE:∀b o,H b=some o->b≠e/\b≠it:=fun b o q=>⟨(fun z=>by rw[z,e0] at q;cases q),(fun z=>by rw[z,i0] at q;cases q)⟩
 refine I.step (g':=s.gens) (d':=s.drawn) (ch:=[e,it]) (fun b hb=>?_) (fun b o _ _ hb q _=>?_) (fun b o _ _ hb q _=>⟨o.slots,?_⟩) (fun b o hb q n=>by rw[ai (ne b o q)];exact n) (fun b o hb q=>⟨o,?_⟩)
  (fun b ys q=>by rw[ai (ak q hn)];exact q) (fun b o u q=>by rw[ai (ak q hn)];exact q) (fun b ps q=>⟨#[],by rw[ai (ak q hn),q];simp⟩) (fun m hm=>?_) (fun b o q=>?_) I.bare
 .rcases bP.mp hb with rfl|hb
  .exact⟨e3,e1,e4,e5⟩
  .rw[bK.mp hb];exact⟨i3,i1,i4,i5⟩
 .exact k b o (fun z=>hb (z ▸ cq)) (fun z=>hb (z ▸ cy _ cq)) q
 .exact k b o (fun z=>hb (z ▸ cq)) (fun z=>hb (z ▸ cy _ cq)) q
 .exact k b o (fun z=>hb (z ▸ cq)) (fun z=>hb (z ▸ cy _ cq)) q
 .obtain⟨o,es,ep,q,d,r'⟩:=hm;exact⟨o,es,ep,k _ _ e1.symm i1.symm q,d,r'⟩
 .by_cases hb:b=p
  .subst hb;rw[af] at q;cases q;exact⟨hl,its,r,_,ht,rfl,_,rfl,rfl⟩
  .rw[ai hb] at q;refine(I.bE b o q).oW (fun c u hc z=>k c u ?_ ?_ z) (fun c z=>by rw[ai (ak z hn)];exact z) fun c ys z=>by rw[ai (ak z hn)];exact z
   .rcases hc with rfl|hc
    .exact(AE _ _ q).1
    .exact(AE _ _ hc).1
   .rcases hc with rfl|hc
    .exact(AE _ _ q).2
    .exact(AE _ _ hc).2
theorem Ci{P:Program}{w:World}{K:PySem.W.Frag}{es:List Expr}{x1:Nat}{pos:Pos}(a e it:Addr)(jD:e≠it):
  uK P w K (.Tuple es x1 pos) (Qa K a) [e,it] e (fun i h=>(∃old,IsEnum h e it (i:Int) old)/\h.IsListIter it a i) where
 mem:=by simp
 obj:=fun i h st b hb=>by
  obtain⟨⟨old,he⟩,⟨o,q,c,d⟩⟩:=st;rcases bP.mp hb with rfl|hb
  .exact⟨_,he,fun v z=>by
    have z':Data.fields _=Data.cell v:=z;cases z'⟩
  .rw[bK.mp hb];exact⟨o,q,fun v z=>by rw[d] at z;cases z⟩
 keep:=fun i h h' st k=>by
  obtain⟨⟨old,he⟩,hi⟩:=st;exact⟨⟨old,k e (by simp) _ he⟩,hi.at fun o q=>k it (by simp) o q⟩
 item:=by
  intro X hP hw hK i ae s σ H E uL I hf st hg;subst hP hw hK;have hc:X.calm=true:=uL.elim id fun z=>(show False from z).elim;obtain⟨xs,x,hq,hx⟩:=hg;obtain⟨its,rv,p,hz⟩:=I.list hq;obtain⟨u,hu,ru⟩:=rv.get hx;obtain⟨⟨old,he⟩,hi⟩:=st;refine wpAny_pyNext_enum_item he hi p.isList (x:=u) (by simpa using hu) jD fun h' ho mn ht hsz k=>?_;refine⟨_,rfl,wpAny_letOwnedTupleGo_enum ho fun h2 Qb qx=>?_⟩;have Qc:s.heap.objs.size≠e:=jR (a_ he);have BY:h2.IsListIter it a (i+1):=mn.extBut qx.extBut jD.symm;have fe:=hf e (by simp);have fi:=hf it (by simp);have I2:aP X ae σ (upd H s.heap.objs.size (.tup [.int i,x])) { s with heap:=h2,toks:=s.toks+1 }:=by
   refine I.AD (its:=[.int i s.toks,u]) fe fi (fun b o h1 h3 q=>(qx.2 b h1).trans (k b o h1 h3 q)) ⟨_,Qb⟩ ?_ (ba _) (by show 2<=sizeLine;decide) (.cons ⟨_,rfl⟩ (.cons ru .nil)) ((qx.2 _ Qc).trans ht);obtain⟨o,q,_⟩:=BY;exact⟨o,q⟩
  refine⟨.ref s.heap.objs.size,_,I2,rfl,⟨_,x,rfl,I.bE.fresh (ba _),rfl,fun ys hy=>by rw[I.we hy hq];exact hx⟩,⟨⟨u,Qb⟩,BY⟩,fun b hb=>?_⟩;have f0:=(hf b hb).1;rw[ai]
  .exact f0
  .rcases bP.mp hb with rfl|hb
   .exact Qc.symm
   .rw[bK.mp hb];obtain⟨o,q,_⟩:=hi;exact aZ (a_ q)
 done:=by
  intro X hP hw hK i ae s σ H E uL I hf st hg;subst hP hw hK;have hc:X.calm=true:=uL.elim id fun z=>(show False from z).elim;obtain⟨xs,hq,hx⟩:=hg;obtain⟨its,rv,p,hz⟩:=I.list hq;obtain⟨f0,f1,f2,f3,f4,f5⟩:=hf it (by simp);obtain⟨⟨old,he⟩,hi⟩:=st;have hl:=rv.length;exact wpAny_pyNext_enum_end (I.ok.hd hc) he hi p.isList (by simp;lia) fun h' eb=>⟨rfl,I.turned (t':=s.toks) (fun b o hb e=>eb b o hb e) f0 f1 f3 f4 f5⟩
 self:=fun _ _ _ _ _ st h=>by
  obtain⟨⟨old,he⟩,_⟩:=st;exact ux he h
section
variable {X:Cx}
def Qd(K:PySem.W.Frag)(ta:TA):TI:=fun σ H R=>ta σ H fun vs H1=>∃a xs,vs=[.ref a]/\H1 a=some (.lst xs)/\R (Qa K a) H1
theorem Hw(hg:Gl X "enumerate")(hm:X.mg "enumerate"=none)(ha:PA X [a] ta)(hs:starEach [a] X.env=[(false,eval a X.env)]:=by rfl):
  PI X (.Tuple es x1 Lm) (.Call (.Name "enumerate" p) [a] [] pos) (Qd X.K ta):=by
 intro ae s σ H R I h;refine Call_ (jV I hg hm (by decide +kernel:bootBuiltins "enumerate"=some (.type "enumerate")) (pS (cm (ha pos ae s σ H _ I h) fun us s1 ⟨vs,H1,I1,r1,q1⟩=>?_) hs rfl));obtain⟨l,xs,rfl,hl,q⟩:=q1;obtain⟨u1,rfl,Vt⟩:=r1.one;obtain rfl:u1=Value.ref l:=Vt;obtain⟨z,its,n,r,_,e⟩:=I1.wC hl;refine call_enumerate_1 e fun h' he hi hsz k=>?_;have jD:s1.heap.objs.size+1≠s1.heap.objs.size:=Nat.succ_ne_self _;refine ux he ?_;have I2:aP X ae σ H1 { s1 with heap:=h' }:=I1.kept (t':=s1.toks) k;refine⟨s1.heap.objs.size+1,[s1.heap.objs.size+1,s1.heap.objs.size],_,_,H1,rfl,I2,Ci l _ _ jD,⟨⟨_,he⟩,hi⟩,fun b hb=>?_,q⟩;have o6:s1.heap.objs.size<=b:=by
  rcases bP.mp hb with rfl|hb
  .exact Nat.le_succ _
  .rw[bK.mp hb];exact ba _
 exact I1.wo o6 (I1.bE.fresh o6)
theorem El{K:PySem.W.Frag}{a:Addr}{xs:List V}{g:TG}{tb:TS}{D:wa}{σ:St}{H:Hp}(Pv:Nat->St->Hp->Prop)(h0:Pv 0 σ H)(hl:∀i σ H,i<=xs.length->Pv i σ H->aV K H a xs)(hs:∀i x p σ H,xs[i]?=some x->Pv i σ H->H p=none->g (.ref p) σ (upd H p (.tup [.int i,x])) fun σ2 H2=>tb { D with nx:=Pv (i+1),ct:=Pv (i+1),bk:=D.nx } σ2 H2)(hd:∀σ H,Pv xs.length σ H->D.nx σ H):
  ∃W:Nat->Nat->St->Hp->Prop,(∃m,W 0 m σ H)/\∀i m σ H,W i m σ H->
   ((Qa K a).stop i H/\D.nx σ H)\/((Qa K a).go i H/\∃N:St->Hp->Prop,(∀σ' H',N σ' H'->∃m',m'<m/\W (i+1) m' σ' H')/\∀x H',(Qa K a).JX i H x H'->g x σ H' fun σ2 H2=>tb { D with nx:=N,ct:=N,bk:=D.nx } σ2 H2):=by
 refine⟨fun i m σ H=>m=xs.length-i/\i<=xs.length/\Pv i σ H,⟨xs.length,by simp,dv _,h0⟩,?_⟩;rintro i m σ H ⟨rfl,hi,p⟩;have q:=hl i σ H hi p;by_cases d9:i<xs.length
 .refine .inr ⟨⟨xs,xs[i],q,by simp[d9]⟩,Pv (i+1),fun σ' H' p'=>⟨xs.length-(i+1),by lia,rfl,d9,p'⟩,fun x H' y=>?_⟩;obtain⟨pp,v,rfl,hn,rfl,hv⟩:=y;exact hs i v pp σ _ (hv xs q) p hn
 .have e:i=xs.length:=by lia
  subst e;exact .inl ⟨⟨xs,q,ba _⟩,hd σ H p⟩
end
section
variable {prog:Program} {w:World} {A:Around} {E:Value->Shared->Prop} {s:Shared}
theorem zx(rJ:s.heap.IsTupleIter it t i)(ht:s.heap.IsTuple t xs)(hx:xs[i]?=some x)(q:∀h',h'.IsTupleIter it t (i+1)->Heap.SameBut it s.heap h'->Q x { s with heap:=h' }):wpAny (model prog w) A (Builtin.SmallTypes.nextOf (.ref it)) Q E s:=by
 obtain⟨o,h1,h2,h3⟩:=id rJ;obtain⟨p,k1,_,n,k3⟩:=ht;unfold Builtin.SmallTypes.nextOf;refine aJ (uf (name:=Str.ofString "__next__") rJ.typeIs F.slot_tuple_iterator_next (qj F.slot_tuple_iterator_next rJ.typeIs F.entry_tuple_iterator_next ?_ (F.args_tuple_iterator_next_1 _)));change wpAny _ _ (field (.ref it) 0 >>= _) _ _ s;refine aJ (iX h1 h3 (x:=.ref t) rfl ?_);change wpAny _ _ (if (Value.ref t==Value.none)=true then _ else _) _ _ s;rw[ap (by exact cz)];change wpAny _ _ (field (.ref it) 1 >>= _) _ _ s;refine aJ (iX h1 h3 (x:=.int i 0) rfl ?_);change wpAny _ _ (seqItems? (.ref t) >>= _) _ _ s;refine aJ (uE k1 k3 ?_);simp only[cN,hx];refine aJ (wpAny_setField h1 h3 (by simp) (wpAny_pure ⟨x,rfl,wpAny_pure (q _ ?_ (Heap.SameBut.update ..))⟩));refine⟨_,uq _ h1 (Obj.isFreed_of_fields (yF h3 _)),(Obj.cls_mapFields ..).trans h2,?_⟩;rw[yF h3];simp[rawInt]
theorem tw (hh : A.handled = none) (rJ : s.heap.IsTupleIter it t i) (ht : s.heap.IsTuple t xs) (hx : xs[i]? = none)
  (q : ∀ h' e,Heap.ExtBut it s.heap h'->(∃ o,h'.get? e = some o/\o.cls = .type "StopIteration")->E (.ref e) { s with heap:=h' }) : wpAny (model prog w) A (Builtin.SmallTypes.nextOf (.ref it)) Q E s:=by
 obtain ⟨o,h1,h2,h3⟩:=id rJ;obtain ⟨p,k1,_,n,k3⟩:=ht;unfold Builtin.SmallTypes.nextOf;refine aJ (uf (name:=Str.ofString "__next__") rJ.typeIs F.slot_tuple_iterator_next (qj F.slot_tuple_iterator_next rJ.typeIs F.entry_tuple_iterator_next ?_ (F.args_tuple_iterator_next_1 _)));change wpAny _ _ (field (.ref it) 0 >>= _) _ _ s;refine aJ (iX h1 h3 (x:=.ref t) rfl ?_);change wpAny _ _ (if (Value.ref t == Value.none) = true then _ else _) _ _ s;rw [ap (by exact cz)];change wpAny _ _ (field (.ref it) 1 >>= _) _ _ s;refine aJ (iX h1 h3 (x:=.int i 0) rfl ?_);change wpAny _ _ (seqItems? (.ref t) >>= _) _ _ s;refine aJ (uE k1 k3 ?_);simp only [cN,hx];refine aJ (iZ (aJ (wpAny_setField h1 h3 (by simp) ?stop)));case stop =>
  change wpAny _ _ (newExc (.type "StopIteration") [] >>= _) _ _ _;refine aJ ?_;simp only [newExc,newTuple];refine aJ (qg (aJ (m:=firstArgMember _ _) (wpAny_of_eq (a:=Value.none) (by simp only [firstArgMember]; rfl) (qg ?_ (by size_fits)))) (by size_fits));simp only [raiseNew];refine aJ (wpAny_handled ?_);rw [show A.in1.handled = none from hh];exact aJ (wpAny_pure (wpAny_throw (q _ _ (fun b u hb z=>cD _ (cD _ ((uj _ _ (Ne.symm hb)).trans z))) ⟨_,dh _ rfl,rfl⟩)))
theorem wW(hh:A.handled=none)(it t:Addr)(jD:t≠it)(xs:Array Value):Draws prog w A it [it,t] xs.size (fun i v=>xs[i]?=some v) (fun i h=>h.IsTupleIter it t i/\h.IsTuple t xs) where
 live:=fun _ _ st=>let ⟨o,ho,_⟩:=st.1;⟨o,ho⟩
 frame:=fun _ _ _ st hk=>⟨st.1.at fun o e=>hk it (by simp) o e,let ⟨o,e,r⟩:=st.2;⟨o,hk t (by simp) o e,r⟩⟩
 item:=fun i s Q E hi st q=>by
  refine zx st.1 st.2 (x:=xs[i]) (by simp[hi]) fun h' a b=>?_;obtain⟨o,e,r⟩:=st.2;exact q _ h' s.toks (by simp[hi]) ⟨a,o,(b.2 t jD).trans e,r⟩ b
 done:=fun s Q E st q=>tw hh st.1 st.2 (by simp) q
end
theorem Cj(t:Addr)(xs:Array Value):
  Meets (Builtin.«enumerate.__new__» ⟨[.type "enumerate",.ref t],[]⟩) (fun _ R s=>s.heap.IsTuple t xs/\
   R (.ok (.ret (.ref (s.heap.push { cls:=.type "tuple_iterator",data:=.fields #[.ref t,.int 0 0] }).objs.size)))
    { s with heap:=(s.heap.push { cls:=.type "tuple_iterator",data:=.fields #[.ref t,.int 0 0] }).push { cls:=.type "enumerate",data:=.fields #[.none,.bool false,.ref s.heap.objs.size,rawInt 0,.none,.none] } }):=
 .of_wp fun prog w A R s h=>by
  obtain⟨hp,g,d,tk,os⟩:=s;obtain⟨hT,h⟩:=h;have hs:=sub_enumerate
  wp_walk
  refine wpAny_stack_any fun st=>wpAny_pure ?_;split
  .rename_i c _ _ _ _ _;cases (c==Value.type "enumerate") <;> (wp_walk using yD hT;exact⟨_,rfl,h⟩)
  .wp_walk using yD hT
   exact⟨_,rfl,h⟩
theorem zy(ht:s.heap.IsTuple t xs)(h:∀h',IsEnum h' (s.heap.objs.size+1) s.heap.objs.size 0 .none->h'.IsTupleIter s.heap.objs.size t 0->(∀b o,s.heap.get? b=some o->h'.get? b=some o)->Q (.ref (s.heap.objs.size+1)) { s with heap:=h' }):
  wpAny (model prog w) A (call (.type "enumerate") [.ref t]) Q E s:=by
 refine callType_new F.called_enumerate (by decide) (F.typeCall_enumerate_1 _) (F.newCall_enumerate_1 _) (fun obj=>F.args_object_init_2 obj _) F.entry_enumerate_new (Cj t xs) ⟨ht,?_⟩;have hz:(s.heap.push { cls:=.type "tuple_iterator",data:=.fields #[.ref t,.int 0 0] }).objs.size=s.heap.objs.size+1:=iV ..;have he:IsEnum ((s.heap.push { cls:=.type "tuple_iterator",data:=.fields #[.ref t,.int 0 0] }).push
   { cls:=.type "enumerate",data:=.fields #[.none,.bool false,.ref s.heap.objs.size,rawInt 0,.none,.none] }) (s.heap.objs.size+1) s.heap.objs.size 0 .none:=by
  have q:=dh (s.heap.push { cls:=.type "tuple_iterator",data:=.fields #[.ref t,.int 0 0] }) (o:={ cls:=.type "enumerate",data:=.fields #[.none,.bool false,.ref s.heap.objs.size,rawInt 0,.none,.none] }) rfl;rw[hz] at q;exact q
 show _/\_;rw[hz];exact⟨⟨_,he,rfl⟩,h _ he ⟨_,cD _ (dh _ rfl),rfl,rfl⟩ fun b o x=>cD _ (cD _ x)⟩
def Hz(K:PySem.W.Frag)(a:Addr):It:=
 ⟨fun i H=>∃xs x,cR K H a xs/\xs[i]?=some x,fun i H x H'=>∃p v,x=.ref p/\H p=none/\H'=upd H p (.tup [.int i,v])/\∀xs,cR K H a xs->xs[i]?=some v,fun i H=>∃xs,cR K H a xs/\xs.length<=i,fun _ _=>False⟩
theorem zz{P:Program}{w:World}{K:PySem.W.Frag}{es:List Expr}{x1:Nat}{pos:Pos}(a e it:Addr)(jD:e≠it)(hae:a≠e)(hai:a≠it):
  uK P w K (.Tuple es x1 pos) (Hz K a) [e,it] e (fun i h=>(∃old,IsEnum h e it (i:Int) old)/\h.IsTupleIter it a i) where
 mem:=by simp
 obj:=fun i h st b hb=>by
  obtain⟨⟨old,he⟩,⟨o,q,c,d⟩⟩:=st;rcases bP.mp hb with rfl|hb
  .exact⟨_,he,fun v z=>by
    have z':Data.fields _=Data.cell v:=z;cases z'⟩
  .rw[bK.mp hb];exact⟨o,q,fun v z=>by rw[d] at z;cases z⟩
 keep:=fun i h h' st k=>by
  obtain⟨⟨old,he⟩,hi⟩:=st;exact⟨⟨old,k e (by simp) _ he⟩,hi.at fun o q=>k it (by simp) o q⟩
 item:=by
  intro X hP hw hK i ae s σ H E uL I hf st hg;subst hP hw hK;have hc:X.calm=true:=uL.elim id fun z=>(show False from z).elim;obtain⟨xs,x,hq,hx⟩:=hg;obtain⟨its,rv,p,hz⟩:=I.tuple hq;obtain⟨u,hu,ru⟩:=rv.get hx;obtain⟨⟨old,he⟩,hi⟩:=st;have d9:i<its.toArray.size:=by
   have:=(cM.mp hu).1;simpa using this
  have D:=wW (prog:=X.prog) (w:=X.w) (A:=X.A.in1) (I.ok.hd hc) it a hai its.toArray;refine wpAny_pyNext_enum_itemD D he ⟨hi,p⟩ d9 jD (by simp[jD,hae.symm]) fun u' h' tk wI ho nI ht hsz k=>?_;have eu:u'=u:=by
   have h1:its.toArray[i]?=some u:=by simpa using hu
   rw[h1] at wI;exact(aY wI).symm
  subst eu;refine⟨_,rfl,wpAny_letOwnedTupleGo_enum ho fun h2 Qb qx=>?_⟩;have Qc:s.heap.objs.size≠e:=jR (a_ he);have BY:h2.IsTupleIter it a (i+1):=nI.1.at fun o q=>(qx.2 it jD.symm).trans q;have fe:=hf e (by simp);have fi:=hf it (by simp);have I2:aP X ae σ (upd H s.heap.objs.size (.tup [.int i,x])) { s with heap:=h2,toks:=tk+1 }:=by
   refine I.AD (its:=[.int i tk,u']) fe fi (fun b o h1 h3 q=>(qx.2 b h1).trans (k b o h1 h3 q)) ⟨_,Qb⟩ ?_ (ba _) (by show 2<=sizeLine;decide) (.cons ⟨_,rfl⟩ (.cons ru .nil)) ((qx.2 _ Qc).trans ht);obtain⟨o,q,_⟩:=BY;exact⟨o,q⟩
  refine⟨.ref s.heap.objs.size,_,I2,rfl,⟨_,x,rfl,I.bE.fresh (ba _),rfl,fun ys hy=>by rw[I.sC hy hq];exact hx⟩,⟨⟨u',Qb⟩,BY⟩,fun b hb=>?_⟩;have f0:=(hf b hb).1;rw[ai]
  .exact f0
  .rcases bP.mp hb with rfl|hb
   .exact Qc.symm
   .rw[bK.mp hb];obtain⟨o,q,_⟩:=hi;exact aZ (a_ q)
 done:=by
  intro X hP hw hK i ae s σ H E uL I hf st hg;subst hP hw hK;have hc:X.calm=true:=uL.elim id fun z=>(show False from z).elim;obtain⟨xs,hq,hx⟩:=hg;obtain⟨its,rv,p,hz⟩:=I.tuple hq;obtain⟨f0,f1,f2,f3,f4,f5⟩:=hf it (by simp);obtain⟨⟨old,he⟩,hi⟩:=st;have hl:=rv.length;unfold pyNext;have hT:s.TypeIs (.ref e) "enumerate":=⟨_,he,rfl⟩
  refine aJ (uG (uf (name:=Str.ofString "__next__") hT F.slot_enumerate_next (qj F.slot_enumerate_next hT F.entry_enumerate_next ?_ (F.args_enumerate_next_1 _))));change wpAny _ _ (field (.ref e) 2 >>= _) _ _ _;refine aJ (iX he rfl (x:=.ref it) rfl (aJ (tw (I.ok.hd hc) hi p (by simp;lia) fun h' x eb s_=>?_)));obtain⟨o,ho,J_⟩:=s_;exact aJ (wpAny_isInstance (T:="StopIteration") (b:=true) ⟨o,ho,J_⟩ isSubtype_stop (wpAny_pure ⟨rfl,I.turned (t':=s.toks) (fun b o hb e=>eb b o hb e) f0 f1 f3 f4 f5⟩))
 self:=fun _ _ _ _ _ st h=>by
  obtain⟨⟨old,he⟩,_⟩:=st;exact ux he h
section
variable {X:Cx}
def L7(K:PySem.W.Frag)(ta:TA):TI:=fun σ H R=>ta σ H fun vs H1=>∃a xs,vs=[.ref a]/\cR K H1 a xs/\R (Hz K a) H1
theorem qO(hg:Gl X "enumerate")(hm:X.mg "enumerate"=none)(ha:PA X [a] ta)(hs:starEach [a] X.env=[(false,eval a X.env)]:=by rfl):
  PI X (.Tuple es x1 Lm) (.Call (.Name "enumerate" p) [a] [] pos) (L7 X.K ta):=by
 intro ae s σ H R I h;refine Call_ (jV I hg hm (by decide +kernel:bootBuiltins "enumerate"=some (.type "enumerate")) (pS (cm (ha pos ae s σ H _ I h) fun us s1 ⟨vs,H1,I1,r1,q1⟩=>?_) hs rfl));obtain⟨l,xs,rfl,hl,q⟩:=q1;obtain⟨u1,rfl,Vt⟩:=r1.one;obtain rfl:u1=Value.ref l:=Vt;obtain⟨its,rv,pt,hz⟩:=I1.tuple hl;have d9:l<s1.heap.objs.size:=by obtain⟨o,e,_⟩:=pt;exact a_ e
 refine zy (show s1.heap.IsTuple l its.toArray from pt) fun h' he hi k=>?_;have jD:s1.heap.objs.size+1≠s1.heap.objs.size:=Nat.succ_ne_self _;refine ux he ?_;have I2:aP X ae σ H1 { s1 with heap:=h' }:=I1.kept (t':=s1.toks) k;refine⟨s1.heap.objs.size+1,[s1.heap.objs.size+1,s1.heap.objs.size],_,_,H1,rfl,I2,zz l _ _ jD (aZ (fk d9)) (aZ d9),⟨⟨_,he⟩,hi⟩,fun b hb=>?_,q⟩;have o6:s1.heap.objs.size<=b:=by
  rcases bP.mp hb with rfl|hb
  .exact Nat.le_succ _
  .rw[bK.mp hb];exact ba _
 exact I1.wo o6 (I1.bE.fresh o6)
theorem qP{K:PySem.W.Frag}{a D:Addr}{xs:List V}{g:TG}{tt:TT}{te:TE}{fin:Hp->Prop}{σB:St}{H0:Hp}(Pv:Nat->List V->St->Hp->Prop)(h0:Pv 0 [] σB H0)(hl:∀i ys σ H,i<=xs.length->Pv i ys σ H->cR K H a xs)(hs:∀i x p ys σ H (Kt:V->St->Hp->Prop) (Kf:St->Hp->Prop),xs[i]?=some x->Pv i ys σ H->H p=none->
   (∀v σ2 H4,H4 D=some (.lst ys)->ys.length<sizeLine->Pv (i+1) (ys++[v]) σ2 (upd H4 D (.lst (ys++[v])))->Kt v σ2 H4)->(∀σ2 H3,Pv (i+1) ys σ2 H3->Kf σ2 H3)->
   g (.ref p) σ (upd H p (.tup [.int i,x])) fun σ2 H2=>tt σ2 H2 fun b H3=>if b=true then te σ2 H3 fun v H4=>Kt v σ2 H4 else Kf σ2 H3)(hd:∀ys σ H,Pv xs.length ys σ H->fin H):ig (Hz K a) g tt te D fin σB H0:=by
 refine⟨fun i m σ H=>m=xs.length-i/\i<=xs.length/\∃ys,Pv i ys σ H,⟨xs.length,by simp,dv _,[],h0⟩,?_⟩;rintro i m σ H ⟨rfl,hi,ys,p⟩;have q:=hl i ys σ H hi p;by_cases d9:i<xs.length
 .refine .inr ⟨⟨xs,xs[i],q,by simp[d9]⟩,?_⟩;rintro x H' ⟨pp,v,rfl,hn,rfl,hv⟩;exact hs i v pp ys σ _ (fun v σ2 H4=>∃ys,H4 D=some (.lst ys)/\ys.length<sizeLine/\∃m',m'<xs.length-i/\m'=xs.length-(i+1)/\i+1<=xs.length/\∃o7,Pv (i+1) o7 σ2 (upd H4 D (.lst (ys++[v]))))
   (fun σ2 H3=>∃m',m'<xs.length-i/\m'=xs.length-(i+1)/\i+1<=xs.length/\∃o7,Pv (i+1) o7 σ2 H3) (hv xs q) p hn
   (fun v σ2 H4 z1 z2 z3=>⟨ys,z1,z2,_,by lia,rfl,d9,_,z3⟩) (fun σ2 H3 z=>⟨_,by lia,rfl,d9,_,z⟩)
 .have e:i=xs.length:=by lia
  subst e;exact .inl ⟨⟨xs,q,ba _⟩,hd ys σ H p⟩
end
theorem aP.freeze{X:Cx}{ae:List (Addr×Obj)}{σ:St}{H:Hp}{s:Shared}{d:Addr}{u:HO}{o:Obj}(I:aP X ae σ H s)(hd:H d=some u)(ho:s.heap.get? d=some o)(hu:(∀xs,u≠.tup xs)/\(∀o v,u≠.iR o v)/\(∀ps,u≠.nA ps)/\(∀x,u≠.own x)):
  aP X ae σ (upd H d (.iR o u)) s:=by
 have ok:i7 X.prog X.w (upd H d (.iR o u)) s.heap:=fun b v e=>by
  have st:∀ {b v},bS X.prog X.w H s.heap b v->bS X.prog X.w (upd H d (.iR o u)) s.heap b v:=fun {b v} x=>
   x.oW (fun _ _ _ q=>q) (fun c q=>by rw[ai (fun z=>by rw[z,hd] at q;exact hu.2.2.2 _ (aY q))];exact q) fun c xs q=>by rw[ai (fun z=>by rw[z,hd] at q;exact hu.1 _ (aY q))];exact q
  by_cases hb:b=d
  .subst hb;rw[af] at e;cases e;exact⟨ho,st (I.bE b u hd)⟩
  .rw[ai hb] at e;exact st (I.bE b v e)
 have r:=I.step (h':=s.heap) (H':=upd H d (.iR o u)) (g':=s.gens) (t':=s.toks) (d':=s.drawn) (ch:=[]) (fun _ z=>absurd z (by simp)) (fun b o' _ _ _ q _=>q) (fun b o' _ _ _ q _=>⟨o'.slots,q⟩)
  (fun b o' _ q n=>by rw[ai (fun z=>by rw[z,hd] at n;cases n)];exact n) (fun b o' _ q=>⟨o',q⟩)
  (fun b xs q=>by rw[ai (fun z=>by rw[z,hd] at q;exact hu.1 _ (aY q))];exact q) (fun b o' v q=>by rw[ai (fun z=>by rw[z,hd] at q;exact hu.2.1 _ _ (aY q))];exact q)
  (fun b ps q=>⟨#[],by rw[ai (fun z=>by rw[z,hd] at q;exact hu.2.2.1 _ (aY q)),q];simp⟩) (fun m hm=>hm) ok I.bare
 exact r
def L8(d:Addr)(o:Obj)(kvs:List (dz×V)):It:=
 ⟨fun i H=>H d=some (.iR o (.dK kvs))/\i<kvs.length,fun i H x H'=>H'=H/\∃k v,kvs[i]?=some (k,v)/\x=kV k,fun i H=>H d=some (.iR o (.dK kvs))/\kvs.length<=i,fun _ _=>False⟩
theorem HA{P:Program}{w:World}{k:dz}{u:Value}(h:(bv P w).is k u=true):bi (kV k) u:=by
 cases k with
 |inl i=>
  have h':Value.isInt i u=true:=h;cases u <;> simp[Value.isInt] at h' <;> try exact h'.elim
  all_goals first|(subst h';exact⟨_,rfl⟩)|(rw[<-h'];exact⟨_,rfl⟩)|(rw[h'];exact⟨_,rfl⟩)
 |inr x=>
  have h':Value.isStrOf x u=true:=h;cases u <;> simp[Value.isStrOf] at h' <;> try exact h'.elim
  all_goals first|(subst h';exact⟨_,rfl⟩)|(rw[<-h'];exact⟨_,rfl⟩)|(rw[h'];exact⟨_,rfl⟩)
theorem tD{P:Program}{w:World}{K:PySem.W.Frag}{tg:Expr}(d it:Addr)(o:Obj)(kvs:List (dz×V))(es:Array DictEntry)(ep:Nat)(HB:o.data=.dict es ep):
  uK P w K tg (L8 d o kvs) [it] it (fun i h=>h.IsKeyIter it d i kvs.length ep) where
 mem:=by simp
 obj:=fun i h st b hb=>by
  have e:b=it:=by simpa using hb
  subst e;obtain⟨o,e,c,d⟩:=st;exact⟨o,e,fun v z=>by rw[d] at z;cases z⟩
 keep:=fun i h h' st k=>st.at fun o e=>k it (by simp) o e
 item:=by
  intro X hP hw hK i ae s σ H E uL I hf st hg;subst hP hw hK;have hc:X.calm=true:=uL.elim id fun z=>(show False from z).elim;obtain⟨hd,hi⟩:=hg;obtain⟨ho,z,hS,vs,kv,ob,vT,K8,g1,g2,g3,g4,g5,g6⟩:=I.bE d _ hd;rw[ho] at g1;cases g1;rw[HB] at g3;cases g3;have hm:s.heap.DictAt (bv X.prog X.w) d vs ep:=⟨o,es,ho,g2,HB,g4,g5,g6⟩
  have eC:=kv.length;obtain⟨f0,f1,f2,f3,f4,f5⟩:=hf it (by simp);have mn:i<vs.length:=by lia
  obtain⟨⟨k,v⟩,hv⟩:∃p,vs[i]?=some p:=⟨_,bY mn⟩
  refine wpAny_pyNext_dict_item (by rw[<-eC];exact st) hm hv fun key h' hk aU sb=>?_;have I1:aP X ae σ H { s with heap:=h' }:=I.turned (t':=s.toks) (fun b o hb e=>(sb.2 b hb).trans e) f0 f1 f3 f4 f5;obtain⟨oi,ei,ci,di⟩:=id aU;have wX:(kvs.map (·.1))[i]?=some k:=by rw[kv.keys,bq,hv];rfl
  obtain⟨p,hp,hpk⟩:∃p,kvs[i]?=some p/\p.1=k:=by
   rw[bq] at wX;cases q:kvs[i]? with
   |none=>rw[q] at wX;cases wX
   |some p=>rw[q] at wX;exact⟨p,rfl,aY wX⟩
  refine⟨key,rfl,Ad (s:={ s with heap:=h' }) ei ci di (by decide) ⟨kV k,H,I1,HA hk,⟨rfl,k,p.2,by rw[hp,<-hpk],rfl⟩,by rw[eC];exact aU,fun b hb=>(hf b hb).1⟩⟩
 done:=by
  intro X hP hw hK i ae s σ H E uL I hf st hg;subst hP hw hK;have hc:X.calm=true:=uL.elim id fun z=>(show False from z).elim;obtain⟨hd,hi⟩:=hg;obtain⟨ho,z,hS,vs,kv,ob,vT,K8,g1,g2,g3,g4,g5,g6⟩:=I.bE d _ hd;rw[ho] at g1;cases g1;rw[HB] at g3;cases g3;have hm:s.heap.DictAt (bv X.prog X.w) d vs ep:=⟨o,es,ho,g2,HB,g4,g5,g6⟩
  have eC:=kv.length;obtain⟨f0,f1,f2,f3,f4,f5⟩:=hf it (by simp);exact wpAny_pyNext_dict_end (I.ok.hd hc) (by rw[<-eC];exact st) hm (hV (by lia)) fun h' eb=>⟨rfl,I.turned (t':=s.toks) (fun b o hb e=>eb b o hb e) f0 f1 f3 f4 f5⟩
 self:=fun _ _ _ _ _ st h=>wpAny_pyIter_keyiter st h
section
variable {X:Cx} {tg:Expr}
def Qe(tl:TE):TI:=fun σ H R=>tl σ H fun x H1=>∃d kvs,x=.ref d/\H1 d=some (.dK kvs)/\∀o,R (L8 d o kvs) (upd H1 d (.iR o (.dK kvs)))
theorem AF{l:Expr}{tl:TE}(hl:PE X l tl):PI X tg l (Qe tl):=by
 intro ae s σ H R I h;refine cm (hl ae s σ H _ I h) fun v s1 ⟨x,H1,I1,r1,q1⟩=>?_;obtain⟨d,kvs,e,hd,q⟩:=q1;subst e;cases r1;obtain⟨z,hS,vs,kv,o,es,ep,g1,g2,g3,g4,g5,g6⟩:=Ee I1.bE hd;have hm:s1.heap.DictAt (bv X.prog X.w) d vs ep:=⟨o,es,g1,g2,g3,g4,g5,g6⟩
 have I2:=I1.freeze hd g1 ⟨(fun _ z=>by cases z),(fun _ _ z=>by cases z),(fun _ z=>by cases z),(fun _ z=>by cases z)⟩;refine wpAny_pyIter_dict hS hm ?_;refine⟨s1.heap.objs.size,[s1.heap.objs.size],_,_,_,rfl,I2.kept (t':=s1.toks) fun b o e=>cD _ e,tD d _ o kvs es ep g3,⟨_,dh _ rfl,rfl,by rw[kv.length];rfl⟩,fun b hb=>?_,q o⟩;have e:b=s1.heap.objs.size:=by simpa using hb
 subst e;exact I2.wo (ba _) (I2.bE.fresh (ba _))
end
theorem vf:typeLookup (.type "list") "keys"=pure none:=by rw[typeLookup_type,builtinLookup_eq_fast];kernel_rfl
theorem o8:typeLookup (.type "list") "__getattr__"=pure none:=by rw[typeLookup_type,builtinLookup_eq_fast];kernel_rfl
theorem qQ(l:Addr)(u:Tok)(lu:Array Value)(n:Nat):
  Meets (Builtin.«object.__getattribute__» ⟨[.ref l,.str "keys" u],[]⟩) (fun A R s=>s.heap.get? l=some { cls:=.type "list",data:=.seq lu n }/\raisesAttr (.ref l) "keys" A R s):=
 Meets.of_wp fun prog w A R s hs=>by
  obtain⟨hp,g,d,tk,os⟩:=s;obtain⟨hl,hs⟩:=hs;have hT:(⟨hp,g,d,tk,os⟩:Shared).TypeIs (.ref l) "list":=⟨_,hl,rfl⟩
  have f1:=vf;unfold Builtin.«object.__getattribute__»;repeat (any_goals (first|assumption|wp_step))
  exact wpAny_raiseAttrError hs.1 hs.2 (attrMsg_fits (by decide +kernel) (by decide +kernel))
theorem L9(hA:A.handled=none)(hl:s.heap.get? l=some { cls:=.type "list",data:=.seq lu n })(h:∀h' tk,(∀b o,s.heap.get? b=some o->h'.get? b=some o)->Q none { s with heap:=h',toks:=tk }):wpAny (model prog w) A (getAttr? (.ref l) "keys") Q E s:=by
 obtain⟨hp,g,d,tk,os⟩:=s;have hT:∀tk,(⟨hp,g,d,tk,os⟩:Shared).TypeIs (.ref l) "list":=fun _=>⟨_,hl,rfl⟩
 have f1:=sub_AttributeError;have f3:=F.slot_list_getattribute.lookup;have f4:=F.slot_list_getattribute.bind (.ref l);have f5:=o8;unfold getAttr? getAttrBy?;refine aJ (wpAny_mkText ?_);refine aJ (uG ?_);unfold getAttrBy;repeat (any_goals (first|assumption|((with_reducible show wpAny _ _ (call (Value.builtin "list.__getattribute__") _ _) _ _ _);refine lW F.slot_list_getattribute (hT _) F.entry_list_ga (F.args_list_getattribute_2 _ _) (qQ l _ lu n) ⟨hl,hA,fun h' tk' e hx=>?_⟩)|wp_step))
 obtain⟨t',u',he⟩:=hx.there;show wpAny _ _ (getattributeRaised _ _ _ _ _ _ _) _ _ _;unfold getattributeRaised;repeat (any_goals (first|assumption|wp_step))
 exact h _ _ hx.keeps
theorem oR:entryFor table "dict.update.loop"=some Builtin.«dict.update.loop»:=entryFor_of_tree (by kernel_rfl)
theorem ij:plainId "dict.update.loop"=true:=by decide +kernel
def l_(P:Program)(w:World)(h:Heap)(vs:List Value)(ps:List (dz×Value)):Prop:=vs.length=ps.length/\∀ (i:Nat) (v:Value),vs[i]?=some v->∃ (a:Addr) (o:Obj) (n:Nat) (key:Value) (k:dz) (x:Value),v=Value.ref a/\h.get? a=some o/\o.cls=.type "tuple"/\o.data=.seq #[key,x] n/\(bv P w).is k key=true/\ps[i]?=some (k,x)
theorem l_.keeps{P:Program}{w:World}{h h':Heap}{vs:List Value}{ps:List (dz×Value)}(x:l_ P w h vs ps)(k:∀b o,(∃xs n,o.data=.seq xs n)->h.get? b=some o->h'.get? b=some o):l_ P w h' vs ps:=
 ⟨x.1,fun i v hv=>let ⟨a,o,n,key,kk,y,e1,e2,e3,e4,e5,e6⟩:=x.2 i v hv;⟨a,o,n,key,kk,y,e1,k a o ⟨_,_,e4⟩ e2,e3,e4,e5,e6⟩⟩
section
variable {prog:Program} {w:World} {A:Around} {E:Value->Shared->Prop} {s:Shared} {R:Result->Shared->Prop} {l d Ia:Addr}
theorem Ck{vs:List Value}{ps:List (dz×Value)}(hh:A.handled=none)(hlD:l≠d)(UZ:l≠Ia)(Vu:d≠Ia):
  ∀ (k i:Nat) (j:Int) (t:Tok) (s:Shared) (kvs:List (dz×Value)),vs.length-i=k->i<=vs.length->s.heap.IsListIter Ia l i->s.heap.IsList l vs.toArray->l_ prog w s.heap vs ps->s.heap.DictOf (bv prog w) d kvs->kvs.length+k<=4096->
   (∀h' tk,(∀b o,b≠d->b≠Ia->s.heap.get? b=some o->h'.get? b=some o)->h'.DictOf (bv prog w) d ((ps.drop i).foldl (fun m p=>stored m p.1 p.2) kvs)->R (.ok (.ret .none)) { s with heap:=h',toks:=tk })->
   codeAny (model prog w) A (.builtin "dict.update.loop" ⟨[.ref d,.ref Ia,.int j t,.none],[]⟩) R s:=by
 intro k;induction k with
 |zero=>
  intro i j t s kvs hk hi rJ hl hp hD hz hR;refine lP oR ?_;rw[p_ ij _];show wpAny _ A.in1 (pyNext (.ref Ia) >>= _) _ _ s;refine aJ (yq (show A.in1.handled=none from hh) rJ hl (by simp;lia) fun h' eb=>?_);have hd:ps.drop i=[]:=by rw[List.drop_eq_nil_iff];have:=hp.1;lia
  have YL:=hR h' s.toks (fun b o hb Hh e=>eb b o Hh e);rw[hd] at YL;refine aJ (wpAny_pure (wpAny_pure (YL ?_)));obtain⟨o,es,ep,q1,q2⟩:=hD;exact⟨o,es,ep,eb d o Vu q1,q2⟩
 |succ k ih=>
  intro i j t s kvs hk hi rJ hl hp hD hz hR;have d9:i<vs.length:=by lia
  refine lP oR ?_;rw[p_ ij _];show wpAny _ A.in1 (pyNext (.ref Ia) >>= _) _ _ s;have hv:vs[i]?=some vs[i]:=bY d9;refine aJ (yi rJ hl (x:=vs[i]) (by simpa using hv) fun h1 LK Aq=>?_);obtain⟨a,o,n,key,kk,x,ea,eo,ec,ed,ek,ep⟩:=hp.2 i _ hv;rw[ea];have PN:∀b ob,(∃xs n,ob.data=.seq xs n)->s.heap.get? b=some ob->b≠Ia:=fun b ob ⟨xs,m,z⟩ e z'=>by
   obtain⟨oi,e1,_,d1⟩:=rJ;rw[z',e1] at e;cases e;rw[d1] at z;cases z
  have U1:l_ prog w h1 vs ps:=hp.keeps fun b ob hb e=>(Aq.2 b (PN b ob hb e)).trans e;have Kl:h1.DictOf (bv prog w) d kvs:=hD.sameBut Aq Vu;have Hi:h1.IsList l vs.toArray:=by
   obtain⟨ol,q1,q2⟩:=hl;exact⟨ol,(Aq.2 l UZ).trans q1,q2⟩
  have PP:h1.get? a=some o:=(Aq.2 a (PN a o ⟨_,_,ed⟩ eo)).trans eo;have neD:∀b ob,(∃xs n,ob.data=.seq xs n)->h1.get? b=some ob->b≠d:=fun b ob ⟨xs,m,z⟩ e z'=>by
   obtain⟨oS,es,K8,q1,_,q4,_⟩:=Kl;rw[z',q1] at e;cases e;rw[q4] at z;cases z
  have hT:Shared.TypeIs { s with heap:=h1 } (.ref a) "tuple":=⟨o,PP,ec⟩
  refine aJ (jM ?_);show wpAny _ A.in1 (Sem.tryCatch (Builtin.Dict.pairItems (.ref a)) _ >>= _) _ _ _;refine aJ (wpAny_tryCatch ?_);unfold Builtin.Dict.pairItems;refine aJ (wpAny_typeOf hT ?_);rw[ao (by decide)];refine aJ (uE PP ed (wpAny_pure ?_));show wpAny _ A.in1 (holding [key,x] (dictSet d key x)) _ _ _;refine jM (wpAny_dictSet_pairs (s:={ s with heap:=h1 }) ek Kl (fun h2 m5 DR=>?_) (bj (by lia:kvs.length<=4096) (by decide)));refine wpAny_pure ⟨plainId_quiet ij _,?_⟩;have BY:i<ps.length:=by have:=hp.1;lia
  have U2:ps.drop i=(kk,x)::ps.drop (i+1):=by
   rw[ua BY];have:ps[i]?=some ps[i]:=bY BY;rw[this] at ep;rw[aY ep]
  have eC:(stored kvs kk x).length<=kvs.length+1:=by
   unfold stored;split
   .rw[aG];lia
   .rw[cr];simp
  refine ih (i+1) _ _ { s with heap:=h2,toks:=s.toks+1 } (stored kvs kk x) (by lia) d9 ?_ ?_ (U1.keeps fun b ob hb e=>(DR.2 b (neD b ob hb e)).trans e) m5 (by lia) fun h3 U3 k3 D3=>?_
  .obtain⟨oi,q1,q2⟩:=LK;exact⟨oi,(DR.2 Ia (Ne.symm Vu)).trans q1,q2⟩
  .obtain⟨ol,q1,q2⟩:=Hi;exact⟨ol,(DR.2 l hlD).trans q1,q2⟩
  .refine hR h3 U3 (fun b ob hb Hh e=>k3 b ob hb Hh ((DR.2 b hb).trans ((Aq.2 b Hh).trans e))) ?_;rw[U2];exact D3
end
section
variable {prog:Program} {w:World} {A:Around} {E:Value->Shared->Prop} {s:Shared} {l:Addr}
theorem Cm{vs:List Value}{n:Nat}{ps:List (dz×Value)}{Q:Value->Shared->Prop}(hh:A.handled=none)(hl:s.heap.get? l=some { cls:=.type "list",data:=.seq vs.toArray n })(hp:l_ prog w s.heap vs ps)(hz:vs.length<=4096)(h:∀h' tk,h'.DictOf (bv prog w) s.heap.objs.size (ps.foldl (fun m p=>stored m p.1 p.2) [])->(∀b o,s.heap.get? b=some o->h'.get? b=some o)->Q (.ref s.heap.objs.size) { s with heap:=h',toks:=tk }):
  wpAny (model prog w) A (call (.type "dict") [.ref l]) Q E s:=by
 refine callType_codes (Q₁:=fun obj s₁=>obj=.ref s.heap.objs.size/\s₁={ s with heap:=s.heap.push { cls:=.type "dict",data:=.dict #[] } }) F.kt_called_dict (F.kt_typeCall_dict_1 _) F.entry_dict_init (kt_code_dict_new _ ⟨rfl,rfl⟩) ?_;rintro obj s₁ ⟨rfl,rfl⟩;have nU:(s.heap.push { cls:=.type "dict",data:=.dict #[] }).DictOf (bv prog w) s.heap.objs.size []:=Heap.DictOf.new s.heap;have hsz:(s.heap.push { cls:=.type "dict",data:=.dict #[] }).objs.size=s.heap.objs.size+1:=iV ..;have up:∀b o,s.heap.get? b=some o->(s.heap.push { cls:=.type "dict",data:=.dict #[] }).get? b=some o:=fun b o e=>cD _ e;have d9:l<s.heap.objs.size:=a_ hl;refine⟨nU.typeIs,F.args_dict_init_2 _ _,?_⟩;generalize (s.heap.push { cls:=.type "dict",data:=.dict #[] })=hD at *;have hT:Shared.TypeIs { s with heap:=hD } (.ref l) "list":=⟨_,up _ _ hl,rfl⟩
 unfold Builtin.«dict.__init__»;refine aJ ?_;unfold Builtin.Dict.selfAndRest;refine aJ (wpAny_notOrdered_dict nU.typeIs (wpAny_pure ?_));show wpAny _ _ (Builtin.Dict.updateFrom "dict.__init__" s.heap.objs.size (.ref l) [] .none) _ _ _;unfold Builtin.Dict.updateFrom;refine aJ (wpAny_typeOf hT ?_);rw[ao (by decide)];refine aJ (L9 (s:={ s with heap:=hD }) (show A.in1.handled=none from hh) (up _ _ hl) fun h1 tk1 k1=>?_);have Hi:h1.get? l=some { cls:=.type "list",data:=.seq vs.toArray n }:=k1 _ _ (up _ _ hl);have Vv:h1.IsList l vs.toArray:=⟨_,Hi,rfl,n,rfl⟩
 rw[ao (by rfl)];refine aJ (iZ ?_);refine aJ (qe (s:={ s with heap:=h1,toks:=tk1 }) Vv ?_);have Vw:s.heap.objs.size<h1.objs.size:=by
  obtain⟨o,es,ep,q1,q2⟩:=nU;exact a_ (k1 _ _ q1)
 refine wpAny_pure ⟨plainId_quiet ij _,?_⟩;refine Ck (l:=l) (vs:=vs) (ps:=ps) (Ia:=h1.objs.size) (show A.in1.handled=none from hh) (aZ d9) (aZ (qm d9 Vw)) (aZ Vw) vs.length 0 0 0 _ [] (by simp) (dv _) ⟨_,dh _ rfl,rfl,rfl⟩ ?_ ?_ ?_ (by simpa using hz) fun h2 tk2 k2 D2=>?_
 .exact⟨_,cD _ Hi,rfl,n,rfl⟩
 .exact hp.keeps fun b o _ e=>cD _ (k1 _ _ (up _ _ e))
 .obtain⟨o,es,ep,q1,q2⟩:=nU;exact⟨o,es,ep,cD _ (k1 _ _ q1),q2⟩
 .refine⟨rfl,h h2 tk2 D2 fun b o e=>k2 b o (aZ (a_ e)) (aZ (qm (a_ e) Vw)) (cD _ (k1 _ _ (up _ _ e)))⟩
end
def jd(m:List (dz×V))(ps:List (dz×V)):List (dz×V):=ps.foldl (fun m p=>fZ m p.1 p.2) m
theorem KV.fold:∀ {ps:List (dz×V)} {us:List (dz×Value)} {m:List (dz×V)} {m':List (dz×Value)},KV ps us->KV m m'->KV (jd m ps) (us.foldl (fun m p=>stored m p.1 p.2) m')
 |[],_,_,_,.nil,r=>r
 |(k,v)::ps,_,m,m',.cons (b:=(k',u)) q rr,r=>by
  obtain⟨rfl,qv⟩:k=k'/\bi v u:=q;rename_i us;have:=KV.fold (ps:=ps) (us:=us) rr (r.put k qv);exact this
theorem qR:∀ (ps m:List (dz×V)),(jd m ps).length<=m.length+ps.length
 |[],m=>by show m.length<=_;simp
 |p::ps,m=>by
  have h1:=qR ps (fZ m p.1 p.2);have h2:=ii m p.1 p.2;show (jd (fZ m p.1 p.2) ps).length<=_;rw[cG];lia
theorem AG{P:Program}{w:World}{H:Hp}{h:Heap}(ok:i7 P w H h):∀ (ts:List Addr) (ps:List (dz×V)),ts.length=ps.length->(∀i,i<ps.length->∃k v,ps[i]?=some (k,v)/\H (ts.getD i 0)=some (.tup [kV k,v]))->
  ∃us:List (dz×Value),KV ps us/\l_ P w h (ts.map Value.ref) us
 |[],[],_,_=>⟨[],.nil,rfl,fun i v hv=>by simp at hv⟩
 |[],_::_,e,_=>by simp at e
 |_::_,[],e,_=>by simp at e
 |t::ts,(k,v)::ps,e,hs=>by
  obtain⟨us,r,T⟩:=AG ok ts ps (by simpa using e) fun i hi=>by
   obtain⟨k',v',h1,h2⟩:=hs (i+1) (by simp;lia);exact⟨k',v',by simpa using h1,by simpa using h2⟩
  obtain⟨k0,v0,g1,g2⟩:=hs 0 (by simp);have g1':(k,v)=(k0,v0):=by simpa using g1
  cases g1';have g2':H t=some (.tup [kV k,v]):=by simpa using g2
  obtain⟨_,its,rv,o,q1,q2,n,q3⟩:=ok t _ g2';cases rv with
  |cons ra rr=>
   cases rr with
   |cons rb rr2=>
    cases rr2;rename_i ka vb;refine⟨(k,vb)::us,.cons ⟨rfl,rb⟩ r,by simp[T.1],fun i x hx=>?_⟩;cases i with
    |zero=>
     have s_:Value.ref t=x:=by simpa using hx
     exact⟨t,o,n,ka,k,vb,s_.symm,q1,q2,q3.1,tq ra,rfl⟩
    |succ i=>exact T.2 i x (by simpa using hx)
section
variable {X:Cx}
def L_:List V->Hp->VK->Prop:=fun xs H Q=>∃ (l:Addr) (ts:List Addr) (ps:List (dz×V)),xs=[.ref l]/\H l=some (.lst (ts.map V.ref))/\ts.length=ps.length/\(∀i,i<ps.length->∃k v,ps[i]?=some (k,v)/\H (ts.getD i 0)=some (.tup [kV k,v]))/\ps.length<=4096/\
 ∀D,H D=none->Q (.ref D) (upd H D (.dK (jd [] ps)))
theorem qS(hc:X.calm=true):eU X (.type "dict") L_:=by
 intro ae s σ H xs us Q I r h;obtain⟨l,ts,ps,rfl,hl,eC,ht,hz,q⟩:=h;obtain⟨u1,rfl,r1⟩:=r.one;obtain rfl:u1=Value.ref l:=r1;obtain⟨z,its,n,rv,_,e⟩:=I.wC hl;have zq:its=ts.map Value.ref:=u9 rv;subst zq;obtain⟨vs,kv,T⟩:=AG I.bE ts ps eC ht;refine Cm (I.ok.hd hc) e T (by rw[aG,eC];exact hz) fun h' tk D k=>?_;have hs:sysModules<s.heap.objs.size:=qm (by decide:sysModules<mainGlobals) (I.mod.glob.keeps I.bk).lt;have I2:aP X ae σ (upd H s.heap.objs.size (.dK (jd [] ps))) { s with heap:=h',toks:=tk }:=by
  refine I.wH (t':=tk) k (lH (ba _)) ⟨?_,?_,_,KV.fold kv .nil,D⟩
  .have:=qR ps [];exact bj this (bj (by simpa using hz) (by decide:4096<=sizeLine))
  .rw[lq];exact jR hs
 exact⟨.ref s.heap.objs.size,_,I2,rfl,q _ (I.bE.fresh (ba _))⟩
theorem qT{d:Addr}{o:Obj}{kvs:List (dz×V)}{g:TG}{tb:TS}{D:wa}{σ:St}{H:Hp}(Pv:Nat->St->Hp->Prop)(h0:Pv 0 σ H)(hl:∀i σ H,i<=kvs.length->Pv i σ H->H d=some (.iR o (.dK kvs)))(hs:∀i k v σ H,kvs[i]?=some (k,v)->Pv i σ H->g (kV k) σ H fun σ2 H2=>tb { D with nx:=Pv (i+1),ct:=Pv (i+1),bk:=D.nx } σ2 H2)(hd:∀σ H,Pv kvs.length σ H->D.nx σ H):
  ∃W:Nat->Nat->St->Hp->Prop,(∃m,W 0 m σ H)/\∀i m σ H,W i m σ H->
   ((L8 d o kvs).stop i H/\D.nx σ H)\/((L8 d o kvs).go i H/\∃N:St->Hp->Prop,(∀σ' H',N σ' H'->∃m',m'<m/\W (i+1) m' σ' H')/\∀x H',(L8 d o kvs).JX i H x H'->g x σ H' fun σ2 H2=>tb { D with nx:=N,ct:=N,bk:=D.nx } σ2 H2):=by
 refine⟨fun i m σ H=>m=kvs.length-i/\i<=kvs.length/\Pv i σ H,⟨kvs.length,by simp,dv _,h0⟩,?_⟩;rintro i m σ H ⟨rfl,hi,p⟩;have q:=hl i σ H hi p;by_cases d9:i<kvs.length
 .refine .inr ⟨⟨q,d9⟩,Pv (i+1),fun σ' H' p'=>⟨kvs.length-(i+1),by lia,rfl,d9,p'⟩,fun x H' y=>?_⟩;obtain⟨rfl,k,v,hk,rfl⟩:=y;exact hs i k v σ _ hk p
 .have e:i=kvs.length:=by lia
  subst e;exact .inl ⟨⟨q,ba _⟩,hd σ H p⟩
theorem Cn(hc:X.calm=true):eU X (.builtin "all") (fun xs H Q=>∃ (p:Addr) (bs:List Bool),xs=[.ref p]/\aV X.K H p (bs.map V.bl)/\Q (.bl (bs.all id)) H):=by
 intro ae s σ H xs us Q I r h;obtain⟨p,bs,rfl,hp,q⟩:=h;obtain⟨u1,rfl,r1⟩:=r.one;obtain rfl:u1=Value.ref p:=r1;obtain⟨its,rv,pl,hz⟩:=I.list hp;have zq:its=bs.map Value.bool:=by
  have go:∀ (bs:List Bool) (its:List Value),aX (bs.map V.bl) its->its=bs.map Value.bool:=by
   intro bs;induction bs with
   |nil=>intro its r;cases r;rfl
   |cons b bs ih=>
    intro its r;cases r with
    |cons r rr=>
     obtain rfl:=(show _=Value.bool b from r)
     rw[ih _ rr];rfl
  exact go bs its rv
 subst zq;obtain⟨ob,Vb,_⟩:=id pl.isList;have d9:p<s.heap.objs.size:=a_ Vb;refine call_all_walk (qe pl.isList ⟨s.heap.objs.size,_,_,_,_,_,fun i=>bs.getD i true,rfl,Walks.list (show X.A.in1.handled=none from I.ok.hd hc) _ p (aZ d9) _,⟨⟨_,dh _ rfl,rfl,rfl⟩,pl.isList.push _⟩,fun i v s1 Q' E' hv hq=>?_,fun h' tk k=>?_⟩)
 .have yU:(bs.map Value.bool)[i]?=some v:=by simpa using hv
  rw[bq] at yU;cases eb:bs[i]? with
  |none=>rw[eb] at yU;cases yU
  |some b=>
   rw[eb] at yU;obtain rfl:Value.bool b=v:=aY yU;have:bs.getD i true=b:=by rw[bQ,eb];rfl
   have GW:Q' b s1:=by rw[<-this];exact hq
   exact wpAny_pure GW
 .have keep:∀b o,s.heap.get? b=some o->h'.get? b=some o:=fun b o e=>k b o (by simpa using aZ (a_ e)) (cD _ e);refine⟨.bl (bs.all id),H,I.kept (t':=tk) keep,?_,q⟩;show Value.bool _=Value.bool _;congr 1;have go:∀ (bs:List Bool),((List.range bs.length).all fun i=>bs.getD i true)=bs.all id:=by
   intro bs;induction bs with
   |nil=>rfl
   |cons b bs ih=>
    rw[cG,ud,iW,List.all_map,iW,<-ih];rfl
  rw[<-go bs];simp
end
structure cp(P:Program)(w:World)(K:PySem.W.Frag)(mg:Str->Option Value)(base:Heap)(CX:wu)(k:Nat)(x:Str)(ps:List Str)(sp:Sp):Prop where
 ex:∃f fd,mg x=some (.ref f)/\PySem.W.keepIn K (.ref f)=true/\j4 K fd ps []/\bz P w K mg base CX k f fd ps sp
theorem aE(C:cp X.prog X.w X.K X.mg X.base CX k x ps sp)(hr:b_ k X.A)(hx:l4 CX X E)(ha:PA X (e::es) t)(hg:Gl X x:=by rfl)(BK:(x==("__debug__":Str))=false:=by decide)(he:starEach (e::es) X.env=(false,eval e X.env)::starEach es X.env:=by rfl)(xO:(backTo pos (starEach es X.env)).any (·.1)=false:=by rfl):
  PE X (.Call (.Name x p) (e::es) [] pos) (qB sp [] E t):=by
 obtain⟨f,fd,a,b,c,d⟩:=C.ex;exact GV d hr hg a b c .nil hx ha BK he xO
theorem aj(h:H D=none):aM H (upd H D o):=fun b u e=>by rw[ai (ak e h)];exact e
def aR(p:Addr)(H H':Hp):Prop:=∀b o,H b=some o->b≠p->H' b=some o
theorem aR.trans(a:aR p H H1)(b:aR p H1 H2):aR p H H2:=fun c o h n=>b c o (a c o h n) n
theorem aR.upd:aR p H (upd H p o):=fun b u h n=>by rw[ai n];exact h
theorem aR.of(s:aM H H'):aR p H H':=fun b o h _=>s b o h
theorem aR.free(s:aR p H H')(hp:H' p≠none)(h:H' q=none):H q=none:=by
 cases z:H q with
 |none=>rfl
 |some o=>
  by_cases e:q=p
  .subst e;exact absurd h hp
  .rw[s q o z e] at h;cases h
theorem kN(h:j<n):DH n (j:Int)=some j:=by
 unfold DH;rw[ao (by lia),ao (by lia)];simp
theorem iM(h:as.length=n):(as++[t]).getD j 0=if j=n then t else as.getD j 0:=by
 rw[bQ,bQ];by_cases hj:j=n
 .subst hj;subst h;rw[ao rfl,oz (ba _),Nat.sub_self];rfl
 .rw[ap hj];by_cases d9:j<as.length
  .rw[iC d9]
  .rw[oz (by lia),hV (by simp;lia),hV (by lia)]
def Holds(H:Hp)(as:List Addr)(n:Nat)(o:Nat->HO):Prop:=as.length=n/\∀j,j<n->H (as.getD j 0)=some (o j)
theorem Holds.nil:Holds H [] 0 o:=⟨rfl,fun j hj=>absurd hj (by lia)⟩
theorem Holds.snoc(h:Holds H as n o)(ht:H t=some (o n)):Holds H (as++[t]) (n+1) o:=by
 refine⟨by rw[cr,h.1];rfl,fun j hj=>?_⟩;rw[iM h.1];by_cases e:j=n
 .rw[ao e,e];exact ht
 .rw[ap e];exact h.2 j (by lia)
theorem Holds.mono(h:Holds H as n o)(e:∀j,j<n->H (as.getD j 0)=some (o j)->H' (as.getD j 0)=some (o j)):Holds H' as n o:=⟨h.1,fun j hj=>e j hj (h.2 j hj)⟩
end L2
namespace PyProof.Rows
open PySem
def eX:Bool->Keyed->Array Keyed->Nat->Nat->Nat->StateT SortSt Sem (Option Nat):=sortPriv% PySem.Builtin.gallop
def qU:Array Keyed->Array Keyed->StateT SortSt Sem (Array Keyed):=sortPriv% PySem.Builtin.mergeLo
def qV:Array Keyed->Array Keyed->StateT SortSt Sem (Array Keyed):=sortPriv% PySem.Builtin.mergeHi
def df:Nat->StateT SortSt Sem Unit:=sortPriv% PySem.Builtin.setMinGallop
def vg(prog:Program)(w:World)(A:Around)(s:Shared)(κ:SortKind)(a₀:Array Keyed)(key:Keyed->Int):Prop:=
 ∀x y,x∈a₀.toList->y∈a₀.toList->∀ (Q:Bool->Shared->Prop) (E:Value->Shared->Prop),Q (decide (key x<key y)) s->wpAny (model prog w) A (keyLt' κ x.1 y.1) Q E s
structure SQ(κ:SortKind)(a₀:Array Keyed)(pd:Array (Nat×Nat×Nat))(st:SortSt):Prop where
 perm:(arrOf st).Perm a₀
 kind:kindOf st=κ
 failed:failedOf st=none
 pend:pendingOf st=pd
def kk(key:Keyed->Int)(a:Array Keyed)(i:Nat):Int:=(a[i]?.map key).getD 0
def So(key:Keyed->Int)(a:Array Keyed)(lo hi:Nat):Prop:=∀i j,lo<=i->i<=j->j<hi->kk key a i<=kk key a j
def mq(a b:Array Keyed)(lo hi:Nat):Prop:=∀k,k<lo\/hi<=k->b[k]?=a[k]?
theorem mq.refl{a:Array Keyed}{lo hi:Nat}:mq a a lo hi:=fun _ _=>rfl
theorem mq.trans{a b c:Array Keyed}{lo hi:Nat}(x:mq a b lo hi)(y:mq b c lo hi):mq a c lo hi:=fun k h=>(y k h).trans (x k h)
theorem mq.wide{a b:Array Keyed}{lo hi YM mn:Nat}(x:mq a b lo hi)(h1:YM<=lo)(h2:hi<=mn):mq a b YM mn:=fun k h=>x k (by lia)
theorem cT(h:i<a.size):kk key a i=key a[i]:=by unfold kk;rw[dt a i h];rfl
theorem f_(h:a[i]?=b[j]?):kk key a i=kk key b j:=by unfold kk;rw[h]
section
variable {prog:Program} {w:World} {A:Around} {E:Value->Shared->Prop} {s:Shared} {κ:SortKind} {a₀:Array Keyed} {pd:Array (Nat×Nat×Nat)} {key:Keyed->Int}
theorem SQ.size{st:SortSt}(h:SQ κ a₀ pd st):(arrOf st).size=a₀.size:=h.perm.size_eq
theorem SQ.setArr{st:SortSt}(h:SQ κ a₀ pd st){xs:Array Keyed}(hp:xs.Perm (arrOf st)):SQ κ a₀ pd (setArr st xs):=⟨hp.trans h.perm,h.kind,h.failed,h.pend⟩
theorem SQ.at{st:SortSt}(h:SQ κ a₀ pd st){i:Nat}(hi:i<a₀.size):∃p,(arrOf st)[i]?=some p/\p∈a₀.toList:=by
 have mn:i<(arrOf st).size:=by rw[h.size];exact hi
 exact⟨(arrOf st)[i],dt _ i mn,(lj.mp h.perm).mem_iff.mp (by simp)⟩
theorem qW{st:SortSt}{x y:Keyed}{Q:Option Bool->SortSt->Prop}(hC:vg prog w A s κ a₀ key)(hk:kindOf st=κ)(hx:x∈a₀.toList)(hy:y∈a₀.toList)(h:Q (some (decide (key x<key y))) st):wpS (model prog w) A E s (lt' x y) Q st:=by
 rw[lt'_eq];refine av (gk ?_);rw[hk];refine av (lY (uG (hC x y hx hy _ _ ⟨rfl,?_⟩)));exact aN h
theorem bo{st:SortSt}{arr:Array Keyed}{i:Nat}{p:Keyed}{Q:Keyed->SortSt->Prop}(hi:arr[i]?=some p)(h:Q p st):wpS (model prog w) A E s (elem' arr i) Q st:=by
 rw[elem'_eq,hi];exact aN h
theorem mN{st:SortSt}{i j:Nat}{Q:Option Bool->SortSt->Prop}(hC:vg prog w A s κ a₀ key)(hB:SQ κ a₀ pd st)(hi:i<a₀.size)(hj:j<a₀.size)(h:∀b,b=decide (kk key (arrOf st) i<kk key (arrOf st) j)->Q (some b) st):wpS (model prog w) A E s (ltAt' i j) Q st:=by
 obtain⟨p,e1,m1⟩:=hB.at hi;obtain⟨q,e2,m2⟩:=hB.at hj;rw[ltAt'_eq];refine av (gk ?_);refine av (bo e1 (av (bo e2 (qW hC hB.kind m1 m2 (h _ ?_)))));unfold kk;rw[e1,e2];rfl
theorem pE{st:SortSt}{i j:Nat}{Q:Unit->SortSt->Prop}(hB:SQ κ a₀ pd st)(hj:j<=a₀.size)(h:∀aU,SQ κ a₀ pd aU->(∀k,(arrOf aU)[k]?=if i<=k/\k<j then (arrOf st)[i+j-1-k]? else (arrOf st)[k]?)->Q () aU):wpS (model prog w) A E s (reverseSlice' i j) Q st:=by
 rw[reverseSlice'_eq];exact fJ (h _ (hB.setArr (mirror_perm _ _ _ _)) (getElem?_mirror_all (by rw[hB.size];exact hj)))
theorem Em{st:SortSt}{i j:Nat}{Q:Unit->SortSt->Prop}(hB:SQ κ a₀ pd st)(hi:i<a₀.size)(hj:j<=i)(h:∀aU,SQ κ a₀ pd aU->(∀k,(arrOf aU)[k]?=if k=j then (arrOf st)[i]? else if j<k/\k<=i then (arrOf st)[k-1]? else (arrOf st)[k]?)->Q () aU):wpS (model prog w) A E s (moveDown' i j) Q st:=by
 rw[moveDown'_eq];refine fJ (h _ (hB.setArr (bubble_perm _ _ _)) fun k=>?_);have:=getElem?_bubble (xs:=arrOf st) (src:=i) (by rw[hB.size];exact hi) (i-j) (by lia) k;rw[show i-(i-j)=j by lia] at this;exact this
theorem HC{st:SortSt}{lo n ok:Nat}{Q:Bool->SortSt->Prop}(hC:vg prog w A s κ a₀ key)(hn:lo+n<=a₀.size)(bE:ok<=n)(hB:SQ κ a₀ pd st)(hs:So key (arrOf st) lo (lo+ok))(h:∀aU,SQ κ a₀ pd aU->So key (arrOf aU) lo (lo+n)->mq (arrOf st) (arrOf aU) lo (lo+n)->Q true aU):wpS (model prog w) A E s (binarySort' lo n ok) Q st:=by
 rw[binarySort'_eq];refine av (dD (fV (I:=fun k c aU=>c=(none,())/\SQ κ a₀ pd aU/\So key (arrOf aU) lo (lo+k)/\mq (arrOf st) (arrOf aU) lo (lo+n)) (Q:=fun c aU=>c=(none,())/\SQ κ a₀ pd aU/\So key (arrOf aU) lo (lo+n)/\mq (arrOf st) (arrOf aU) lo (lo+n)) ?_ (fun c aU hh=>⟨hh.1,hh.2.1,fun i j h1 h2 h3=>hh.2.2.1 i j h1 h2 (by lia),hh.2.2.2⟩) ⟨rfl,hB,fun i j h1 h2 h3=>?_,mq.refl⟩) ?_)
 .rintro k c aU wX Eo ⟨rfl,S5,so,ou⟩;dsimp only;refine av (dD (fV (I:=fun x c Ma=>(∃l r,c=(none,l,r)/\l<=r/\r<=k/\r<=l+(k-x)/\(∀i,i<l->kk key (arrOf aU) (lo+i)<=kk key (arrOf aU) (lo+k))/\(∀i,r<=i->i<k->kk key (arrOf aU) (lo+k)<=kk key (arrOf aU) (lo+i)))/\Ma=aU) (Q:=fun c Ma=>(∃l r,c=(none,l,r)/\l<=k/\(∀i,i<l->kk key (arrOf aU) (lo+i)<=kk key (arrOf aU) (lo+k))/\(∀i,l<=i->i<k->kk key (arrOf aU) (lo+k)<=kk key (arrOf aU) (lo+i)))/\Ma=aU) ?_ ?_ ⟨⟨_,_,rfl,dv _,ba _,by lia,fun i h=>by lia,fun i h h'=>by lia⟩,rfl⟩) ?_)
  .rintro x c iH _ hx ⟨⟨l,r,rfl,Vx,hr,hrl,f1,f2⟩,rfl⟩;dsimp only;by_cases AH:l>=r
   .rw[ao AH];exact aN ⟨⟨_,_,rfl,by lia,f1,fun i hi mn=>f2 i (by lia) mn⟩,rfl⟩
   .rw[ap AH];refine av (mN hC S5 (by lia) (by lia) fun b eb=>?_);cases b
    .have e:=mr eb.symm;refine aN ⟨⟨_,_,rfl,by lia,hr,by lia,fun i hi=>?_,f2⟩,rfl⟩;have:=so (lo+i) (lo+(l+r) / 2) (by lia) (by lia) (by lia);lia
    .have e:=b9 eb.symm;refine aN ⟨⟨_,_,rfl,by lia,by lia,by lia,f1,fun i hi mn=>?_⟩,rfl⟩;have:=so (lo+(l+r) / 2) (lo+i) (by lia) (by lia) (by lia);lia
  .rintro c iH ⟨⟨l,r,rfl,Vx,hr,hrl,f1,f2⟩,rfl⟩;exact⟨⟨_,_,rfl,by lia,f1,fun i hi mn=>f2 i (by lia) mn⟩,rfl⟩
  .rintro c iH ⟨⟨l,r,rfl,hl,f1,f2⟩,rfl⟩;dsimp only;refine av (Em S5 (by lia) (by lia) fun uM Co hg=>aN ⟨rfl,Co,fun i j h1 h2 h3=>?_,fun q hq=>?_⟩)
   .have gi:=hg i;have gj:=hg j;have ei:kk key (arrOf uM) i=if i=lo+l then kk key (arrOf iH) (lo+k) else if lo+l<i/\i<=lo+k then kk key (arrOf iH) (i-1) else kk key (arrOf iH) i:=by
     unfold kk;rw[gi];split
     .rfl
     .split <;> rfl
    have ej:kk key (arrOf uM) j=if j=lo+l then kk key (arrOf iH) (lo+k) else if lo+l<j/\j<=lo+k then kk key (arrOf iH) (j-1) else kk key (arrOf iH) j:=by
     unfold kk;rw[gj];split
     .rfl
     .split <;> rfl
    rw[ei,ej];by_cases c1:i=lo+l
    .rw[ao c1];by_cases c2:j=lo+l
     .rw[ao c2];lia
     .rw[ap c2,ao (by lia)];have:=f2 (j-1-lo) (by lia) (by lia);rw[show lo+(j-1-lo)=j-1 by lia] at this;exact this
    .rw[ap c1];by_cases c3:lo+l<i/\i<=lo+k
     .rw[ao c3,ap (by lia),ao (by lia)];exact so _ _ (by lia) (by lia) (by lia)
     .rw[ap c3];by_cases c2:j=lo+l
      .rw[ao c2];have:=f1 (i-lo) (by lia);rw[show lo+(i-lo)=i by lia] at this;exact this
      .rw[ap c2];by_cases c4:lo+l<j/\j<=lo+k
       .rw[ao c4];exact so _ _ (by lia) (by lia) (by lia)
       .rw[ap c4];exact so _ _ (by lia) (by lia) (by lia)
   .rw[hg q,ap (by lia),ap (by lia)];exact ou q hq
 .by_cases ho:ok=0
  .have:i=j:=by subst ho;have:max 0 1=1:=rfl;lia
   rw[this];exact lV _
  .exact hs i j h1 h2 (by (have:max ok 1=ok:=by lia);lia)
 .rintro c aU ⟨rfl,S5,so,ou⟩;exact aN (h aU S5 so ou)
end
def Mb(lo cL n:Nat):StateT SortSt Sem (Option Nat):=do
 reverseSlice' lo (lo+n)
 let mut n:=n
 for _ in [n:cL] do
  let some je <- ltAt' (lo+n) (lo+n-1)|return none
  if je then break
  n:=n+1
 return some n
def Mc(lo cL n:Nat):StateT SortSt Sem (Option Nat):=do
 rule "list.sort.descending-run"
 let mut n:=n+1
 let mut neq:=0
 for _ in [n:cL] do
  let some je <- ltAt' (lo+n) (lo+n-1)|return none
  if je then
   if neq > 0 then reverseSlice' (lo+n-(neq+1)) (lo+n)
   neq:=0
  else
   let some Md <- ltAt' (lo+n-1) (lo+n)|return none
   if Md then break
   neq:=neq+1
  n:=n+1
 if neq > 0 then reverseSlice' (lo+n-(neq+1)) (lo+n)
 Mb lo cL n
theorem sd(lo cL:Nat):countRun' lo cL=(do
 let mut n:=1
 for _ in [1:cL] do
  let some je <- ltAt' (lo+n) (lo+n-1)|return none
  if je then break
  n:=n+1
 if n==cL then return some n
 if n > 1 then
  let some Vy <- ltAt' lo (lo+n-1)|return none
  if Vy then return some n
  reverseSlice' lo (lo+n)
 Mc lo cL n):=rfl
section
variable {prog:Program} {w:World} {A:Around} {E:Value->Shared->Prop} {s:Shared} {κ:SortKind} {a₀:Array Keyed} {pd:Array (Nat×Nat×Nat)} {key:Keyed->Int} {ar:Array Keyed}
def De(key:Keyed->Int)(a:Array Keyed)(lo hi:Nat):Prop:=∀i j,lo<=i->i<=j->j<hi->kk key a j<=kk key a i
theorem zA(h:∀k,b[k]?=if i<=k/\k<j then a[i+j-1-k]? else a[k]?)(k:Nat):kk key b k=if i<=k/\k<j then kk key a (i+j-1-k) else kk key a k:=by
 unfold kk;rw[h k];split <;> rfl
theorem qX(h:∀k,b[k]?=if i<=k/\k<j then a[i+j-1-k]? else a[k]?)(e:∀k,i<=k->k<j->kk key a k=kk key a (j-1))(k:Nat):kk key b k=kk key a k:=by
 rw[zA h];split
 .rename_i c;rw[e _ (by lia) (by lia),e k c.1 c.2]
 .rfl
theorem pF{a b:Array Keyed}{i j lo hi:Nat}(h:∀k,b[k]?=if i<=k/\k<j then a[i+j-1-k]? else a[k]?)(h1:lo<=i)(h2:j<=hi):mq a b lo hi:=fun k hk=>by rw[h k,ap (by lia)]
theorem AI{st:SortSt}{lo cL n:Nat}{Q:Option (Option Nat)×Nat->SortSt->Prop}(hC:vg prog w A s κ a₀ key)(hn:lo+cL<=a₀.size)(h1:1<=n)(h2:n<=cL)(hB:SQ κ a₀ pd st)(so:So key (arrOf st) lo (lo+n))(h:∀m,n<=m->m<=cL->So key (arrOf st) lo (lo+m)->(m=cL\/kk key (arrOf st) (lo+m)<kk key (arrOf st) (lo+m-1))->Q (none,m) st):
  wpS (model prog w) A E s (forIn [n:cL] ((none:Option (Option Nat)),n) fun _ r=>do
   let some je <- ltAt' (lo+r.2) (lo+r.2-1)|pure (ForInStep.done (some none,r.2))
   if je then pure (ForInStep.done (none,r.2)) else pure (ForInStep.yield (none,r.2+1))) Q st:=by
 refine dD (fV (I:=fun i c aU=>aU=st/\c=(none,i)/\So key (arrOf st) lo (lo+i)) (Q:=fun c aU=>aU=st/\∃m,c=(none,m)/\n<=m/\m<=cL/\So key (arrOf st) lo (lo+m)/\(m=cL\/kk key (arrOf st) (lo+m)<kk key (arrOf st) (lo+m-1))) ?_ ?_ ⟨rfl,rfl,so⟩) ?_
 .rintro i c C2 hi1 BY ⟨rfl,rfl,Km⟩;dsimp only;refine av (mN hC hB (by lia) (by lia) fun b eb=>?_);cases b
  .have e:=mr eb.symm;refine aN ⟨rfl,rfl,fun x y hx Go hy=>?_⟩;by_cases c1:y<lo+i
   .exact Km x y hx Go c1
   .have:y=lo+i:=by lia
    subst this;by_cases c2:x=lo+i
    .rw[c2];lia
    .have:=Km x (lo+i-1) hx (by lia) (by lia);lia
  .exact aN ⟨rfl,_,rfl,by lia,by lia,Km,.inr (b9 eb.symm)⟩
 .rintro c C2 ⟨rfl,rfl,Km⟩;have:max n cL=cL:=by lia
  rw[this] at Km |-;exact⟨rfl,_,rfl,by lia,by lia,Km,.inl rfl⟩
 .rintro c C2 ⟨rfl,m,rfl,m1,m2,Km,e⟩;exact h m m1 m2 Km e
theorem AJ{st:SortSt}{lo cL n:Nat}{Q:Option Nat->SortSt->Prop}(hC:vg prog w A s κ a₀ key)(hn:lo+cL<=a₀.size)(h1:1<=n)(h2:n<=cL)(hB:SQ κ a₀ pd st)(de:De key (arrOf st) lo (lo+n))(ou:mq ar (arrOf st) lo (lo+cL))(h:∀n aU,SQ κ a₀ pd aU->1<=n->n<=cL->So key (arrOf aU) lo (lo+n)->mq ar (arrOf aU) lo (lo+cL)->Q (some n) aU):wpS (model prog w) A E s (Mb lo cL n) Q st:=by
 unfold Mb;refine av (pE hB (by lia) fun iH zB hg=>?_);refine av (AI hC hn h1 h2 zB (fun i j hi HD hj=>?_) fun m m1 m2 so _=>?_)
 .rw[zA hg,zA hg,ao (by lia),ao (by lia)];exact de _ _ (by lia) (by lia) (by lia)
 .exact aN (h m iH zB (by lia) m2 so (ou.trans (pF hg (by lia) (by lia))))
theorem AK{st:SortSt}{lo cL n:Nat}{Q:Option Nat->SortSt->Prop}(hC:vg prog w A s κ a₀ key)(hn:lo+cL<=a₀.size)(h1:1<=n)(h2:n<cL)(hB:SQ κ a₀ pd st)(de:De key (arrOf st) lo (lo+(n+1)))(ou:mq ar (arrOf st) lo (lo+cL))(h:∀n aU,SQ κ a₀ pd aU->1<=n->n<=cL->So key (arrOf aU) lo (lo+n)->mq ar (arrOf aU) lo (lo+cL)->Q (some n) aU):wpS (model prog w) A E s (Mc lo cL n) Q st:=by
 unfold Mc;refine av (lY (iZ ⟨rfl,?_⟩));dsimp only;refine av (dD (fV (I:=fun i c aU=>SQ κ a₀ pd aU/\De key (arrOf aU) lo (lo+i)/\mq ar (arrOf aU) lo (lo+cL)/\∃q,c=(none,i,q)/\q+1<=i/\∀k,lo+i-(q+1)<=k->k<lo+i->kk key (arrOf aU) k=kk key (arrOf aU) (lo+i-1)) (Q:=fun c aU=>SQ κ a₀ pd aU/\mq ar (arrOf aU) lo (lo+cL)/\∃i q,c=(none,i,q)/\De key (arrOf aU) lo (lo+i)/\1<=i/\i<=cL/\q+1<=i/\∀k,lo+i-(q+1)<=k->k<lo+i->kk key (arrOf aU) k=kk key (arrOf aU) (lo+i-1)) ?_ ?_ ⟨hB,de,ou,_,rfl,by lia,fun k wX Eo=>by rw[show k=lo+(n+1)-1 by lia]⟩) ?_)
 .rintro i c uM hi1 BY ⟨Co,HE,Ep,q,rfl,hq,eq⟩;dsimp only;have step:∀aU,(∀k,kk key (arrOf aU) k=kk key (arrOf uM) k)->kk key (arrOf uM) (lo+i)<=kk key (arrOf uM) (lo+i-1)->De key (arrOf aU) lo (lo+(i+1)):=by
   intro aU e d9 x y hx Go hy;rw[e,e];by_cases c1:y<lo+i
   .exact HE x y hx Go c1
   .have:y=lo+i:=by lia
    subst this;by_cases c2:x=lo+i
    .rw[c2];lia
    .have:=HE x (lo+i-1) hx (by lia) (by lia);lia
  refine av (mN hC Co (by lia) (by lia) fun b3 e3=>?_);cases b3
  .have e3':=mr e3.symm;dsimp only;rw[ap (by decide)];refine av (mN hC Co (by lia) (by lia) fun b4 e4=>?_);cases b4
   .have e4':=mr e4.symm;refine aN ⟨Co,step uM (fun _=>rfl) (by lia),Ep,_,rfl,by lia,fun k wX Eo=>?_⟩;rw[show lo+(i+1)-1=lo+i by lia];by_cases c1:k=lo+i
    .rw[c1]
    .have:=eq k (by lia) (by lia);lia
   .exact aN ⟨Co,Ep,_,_,rfl,HE,by lia,by lia,hq,eq⟩
  .have e3':=b9 e3.symm;dsimp only;rw[ao rfl];split
   .refine av (pE Co (by lia) fun rN Oq hg=>aN ⟨Oq,step rN (qX hg eq) (by lia),Ep.trans (pF hg (by lia) (by lia)),_,rfl,by lia,fun k wX Eo=>by rw[show k=lo+(i+1)-1 by lia]⟩)
   .exact aN ⟨Co,step uM (fun _=>rfl) (by lia),Ep,_,rfl,by lia,fun k wX Eo=>by rw[show k=lo+(i+1)-1 by lia]⟩
 .rintro c uM ⟨Co,HE,Ep,q,rfl,hq,eq⟩;have:max (n+1) cL=cL:=by lia
  rw[this] at HE hq eq |-;exact⟨Co,Ep,_,_,rfl,HE,by lia,by lia,hq,eq⟩
 .rintro c uM ⟨Co,Ep,i,q,rfl,HE,i1,i2,hq,eq⟩;dsimp only;split
  .refine av (pE Co (by lia) fun rN Oq hg=>?_);refine AJ hC hn i1 i2 Oq (fun x y hx Go hy=>?_) (Ep.trans (pF hg (by lia) (by lia))) h;rw[qX hg eq,qX hg eq];exact HE x y hx Go hy
  .exact AJ hC hn i1 i2 Co HE Ep h
theorem Cp{st:SortSt}{lo cL:Nat}{Q:Option Nat->SortSt->Prop}(hC:vg prog w A s κ a₀ key)(hn:lo+cL<=a₀.size)(h1:1<=cL)(hB:SQ κ a₀ pd st)(h:∀n aU,SQ κ a₀ pd aU->1<=n->n<=cL->So key (arrOf aU) lo (lo+n)->mq (arrOf st) (arrOf aU) lo (lo+cL)->Q (some n) aU):wpS (model prog w) A E s (countRun' lo cL) Q st:=by
 rw[sd];refine av (AI hC hn (ba 1) h1 hB (fun i j hi HD hj=>by rw[show i=j by lia];exact lV _) fun n n1 n2 so e=>?_);dsimp only;by_cases e1:(n==cL)=true
 .rw[ao e1];exact aN (h n st hB n1 n2 so mq.refl)
 rw[ap e1];have g1:¬ (n=cL):=by simpa using e1
 have d9:kk key (arrOf st) (lo+n)<kk key (arrOf st) (lo+n-1):=e.resolve_left g1;by_cases e2:n > 1
 .rw[ao e2];refine av (mN hC hB (by lia) (by lia) fun b2 eb=>?_);cases b2
  .have e3:=mr eb.symm;dsimp only;rw[ap (by decide)];have eq:∀k,lo<=k->k<lo+n->kk key (arrOf st) k=kk key (arrOf st) (lo+n-1):=fun k wX Eo=>by
    have a1:=so lo k (by lia) wX Eo;have a2:=so k (lo+n-1) wX (by lia) (by lia);lia
   refine av (pE hB (by lia) fun iH zB hg=>?_);refine AK hC hn n1 (by lia) zB (fun i j hi HD hj=>?_) (pF hg (by lia) (by lia)) h;rw[qX hg eq,qX hg eq];by_cases c1:j<lo+n
   .rw[eq j (by lia) c1,eq i hi (by lia)];exact lV _
   .have:j=lo+n:=by lia
    subst this;by_cases c2:i=lo+n
    .rw[c2];exact lV _
    .rw[eq i hi (by lia)];lia
  .exact aN (h n st hB n1 n2 so mq.refl)
 .rw[ap e2];have:n=1:=by lia
  subst this;refine AK hC hn n1 (by lia) hB (fun i j hi HD hj=>?_) mq.refl h;by_cases c1:i=j
  .rw[c1];exact lV _
  .have:i=lo:=by lia
   have:j=lo+1:=by lia
   subst i;subst j;rw[show lo+1-1=lo by lia] at d9;lia
end
theorem zC(left:Bool)(key:Keyed)(arr:Array Keyed)(base n eN:Nat):eX left key arr base n eN=(do
 let vh (i:Nat):StateT SortSt Sem (Option Bool):=do
  let x <- elem' arr (base+i)
  if left then lt' x key else return (<-lt' key x).map (!·)
 let mut lastofs:=0
 let mut ofs:=1
 let mut lo:=0
 let mut hi:=0
 let some right <- vh eN|return none
 if right then
  let qY:=n-eN
  for _ in [0:n] do
   if ofs>=qY then break
   let some more <- vh (eN+ofs)|return none
   if !more then break
   lastofs:=ofs
   ofs:=2*ofs+1
  lo:=eN+lastofs+1
  hi:=eN+min ofs qY
 else
  let qY:=eN+1
  for _ in [0:n] do
   if ofs>=qY then break
   let some Er <- vh (eN-ofs)|return none
   if Er then break
   lastofs:=ofs
   ofs:=2*ofs+1
  lo:=eN+1-min ofs qY
  hi:=eN-lastofs
 for _ in [0:n] do
  if lo>=hi then break
  let m:=lo+(hi-lo) / 2
  let some more <- vh m|return none
  if more then lo:=m+1 else hi:=m
 return some hi):=rfl
def qZ(left:Bool)(k:Int):Int:=if left then k else k+1
section
variable {prog:Program} {w:World} {A:Around} {E:Value->Shared->Prop} {s:Shared} {κ:SortKind} {a₀:Array Keyed} {pd:Array (Nat×Nat×Nat)} {key:Keyed->Int}
theorem jf{st:SortSt}{left:Bool}{x:Keyed}{arr:Array Keyed}{j:Nat}{Q:Option Bool->SortSt->Prop}(hC:vg prog w A s κ a₀ key)(hk:kindOf st=κ)(oZ:x∈a₀.toList)(tE:∀x∈arr.toList,x∈a₀.toList)(hj:j<arr.size)(h:∀b,b=decide (kk key arr j<qZ left (key x))->Q (some b) st):
  wpS (model prog w) A E s (do
  let y <- elem' arr j
  if left then lt' y x else return (<-lt' x y).map (!·)) Q st:=by
 have hm:arr[j]∈a₀.toList:=tE _ (by simp);refine av (bo (dt arr j hj) ?_);cases left
 .rw[ap (by decide)];refine av (qW hC hk oZ hm (aN (h _ ?_)));rw[cT hj];show (!decide (key x<key arr[j]))=decide (key arr[j]<key x+1);by_cases c:key x<key arr[j]
  .rw[bB c,cH (by lia)];rfl
  .rw[cH c,bB (by lia)];rfl
 .rw[ao rfl];refine qW hC hk hm oZ (h _ ?_);rw[cT hj];rfl
theorem wY{st:SortSt}{left:Bool}{x:Keyed}{arr:Array Keyed}{base n l u:Nat}{Q:Option Nat->SortSt->Prop}(hC:vg prog w A s κ a₀ key)(hk:kindOf st=κ)(oZ:x∈a₀.toList)(tE:∀x∈arr.toList,x∈a₀.toList)(hn:base+n<=arr.size)(so:So key arr base (base+n))(hl:l<=u)(hu:u<=n)(f1:∀i,i<l->kk key arr (base+i)<qZ left (key x))(f2:∀i,u<=i->i<n->qZ left (key x)<=kk key arr (base+i))(h:∀k,k<=n->(∀i,i<k->kk key arr (base+i)<qZ left (key x))->(∀i,k<=i->i<n->qZ left (key x)<=kk key arr (base+i))->Q (some k) st):wpS (model prog w) A E s (do
   let mut lo:=l
   let mut hi:=u
   for _ in [0:n] do
    if lo>=hi then break
    let m:=lo+(hi-lo) / 2
    let some more <- (do
     let y <- elem' arr (base+m)
     if left then lt' y x else return (<-lt' x y).map (!·))|return none
    if more then lo:=m+1 else hi:=m
   return some hi) Q st:=by
 refine av (dD (fV (I:=fun j c aU=>(∃l u,c=(none,l,u)/\l<=u/\u<=n/\u<=l+(n-j)/\(∀i,i<l->kk key arr (base+i)<qZ left (key x))/\(∀i,u<=i->i<n->qZ left (key x)<=kk key arr (base+i)))/\st=aU) (Q:=fun c aU=>(∃l u,c=(none,l,u)/\u<=l/\u<=n/\(∀i,i<l->kk key arr (base+i)<qZ left (key x))/\(∀i,u<=i->i<n->qZ left (key x)<=kk key arr (base+i)))/\st=aU) ?_ ?_ ⟨⟨_,_,rfl,hl,hu,by lia,f1,f2⟩,rfl⟩) ?_)
 .rintro j c aU _ hj ⟨⟨l,u,rfl,YN,hu,hd,f1,f2⟩,rfl⟩;dsimp only;by_cases AH:l>=u
  .rw[ao AH];exact aN ⟨⟨_,_,rfl,AH,hu,f1,f2⟩,rfl⟩
  .rw[ap AH];refine av (jf hC hk oZ tE (by lia) fun more e=>?_);cases more
   .have e':=mr e.symm;refine aN ⟨⟨_,_,rfl,by lia,by lia,by lia,f1,fun i hi mn=>?_⟩,rfl⟩;have:=so (base+(l+(u-l) / 2)) (base+i) (by lia) (by lia) (by lia);lia
   .have e':=b9 e.symm;refine aN ⟨⟨_,_,rfl,by lia,by lia,by lia,fun i hi=>?_,f2⟩,rfl⟩;have:=so (base+i) (base+(l+(u-l) / 2)) (by lia) (by lia) (by lia);lia
 .rintro c aU ⟨⟨l,u,rfl,YN,hu,hd,f1,f2⟩,rfl⟩;exact⟨⟨_,_,rfl,by lia,hu,f1,f2⟩,rfl⟩
 .rintro c aU ⟨⟨l,u,rfl,YN,hu,f1,f2⟩,rfl⟩;exact aN (h u hu (fun i hi=>f1 i (by lia)) f2)
theorem fO{st:SortSt}{left:Bool}{x:Keyed}{arr:Array Keyed}{base n eN:Nat}{Q:Option Nat->SortSt->Prop}(hC:vg prog w A s κ a₀ key)(hk:kindOf st=κ)(oZ:x∈a₀.toList)(tE:∀x∈arr.toList,x∈a₀.toList)(hn:base+n<=arr.size)(hh:eN<n)(so:So key arr base (base+n))(h:∀k,k<=n->(∀i,i<k->kk key arr (base+i)<qZ left (key x))->(∀i,k<=i->i<n->qZ left (key x)<=kk key arr (base+i))->Q (some k) st):wpS (model prog w) A E s (eX left x arr base n eN) Q st:=by
 rw[zC];refine av (jf hC hk oZ tE (by lia) fun right er=>?_);cases right
 .have YO:=mr er.symm;dsimp only;rw[ap (by decide)];refine av (dD (fV (I:=fun j c aU=>(∃l o,c=(none,l,o)/\l<o/\j<o/\l<=eN/\qZ left (key x)<=kk key arr (base+(eN-l)))/\st=aU) (Q:=fun c aU=>(∃l o,c=(none,l,o)/\l<o/\l<=eN/\qZ left (key x)<=kk key arr (base+(eN-l))/\(eN+1<=o\/kk key arr (base+(eN-o))<qZ left (key x)))/\st=aU) ?_ ?_ ⟨⟨_,_,rfl,by lia,by lia,by lia,by rw[Nat.sub_zero];lia⟩,rfl⟩) ?_)
  .rintro j c aU _ _ ⟨⟨l,o,rfl,wF,Vz,hl,f⟩,rfl⟩;dsimp only;by_cases AH:o>=eN+1
   .rw[ao AH];exact aN ⟨⟨_,_,rfl,wF,hl,f,.inl AH⟩,rfl⟩
   .rw[ap AH];refine av (jf hC hk oZ tE (by lia) fun Er e=>?_);cases Er
    .have e':=mr e.symm;exact aN ⟨⟨_,_,rfl,by lia,by lia,by lia,by lia⟩,rfl⟩
    .exact aN ⟨⟨_,_,rfl,wF,hl,f,.inr (b9 e.symm)⟩,rfl⟩
  .rintro c aU ⟨⟨l,o,rfl,wF,Vz,hl,f⟩,rfl⟩;exact⟨⟨_,_,rfl,wF,hl,f,.inl (by lia)⟩,rfl⟩
  .rintro c aU ⟨⟨l,o,rfl,wF,hl,f,e⟩,rfl⟩;dsimp only;refine wY hC hk oZ tE hn so (by lia) (by lia) (fun i hi=>?_) (fun i hi mn=>?_) h
   .rcases e with e|e
    .lia
    .by_cases c:eN+1<=o
     .lia
     .have:=so (base+i) (base+(eN-o)) (by lia) (by lia) (by lia);lia
   .have:=so (base+(eN-l)) (base+i) (by lia) (by lia) (by lia);lia
 .have YO:=b9 er.symm;dsimp only;rw[ao rfl];refine av (dD (fV (I:=fun j c aU=>(∃l o,c=(none,l,o)/\l<o/\j<o/\l<n-eN/\kk key arr (base+(eN+l))<qZ left (key x))/\st=aU) (Q:=fun c aU=>(∃l o,c=(none,l,o)/\l<o/\l<n-eN/\kk key arr (base+(eN+l))<qZ left (key x)/\(n-eN<=o\/qZ left (key x)<=kk key arr (base+(eN+o))))/\st=aU) ?_ ?_ ⟨⟨_,_,rfl,by lia,by lia,by lia,by rw[iq];exact YO⟩,rfl⟩) ?_)
  .rintro j c aU _ _ ⟨⟨l,o,rfl,wF,Vz,hl,f⟩,rfl⟩;dsimp only;by_cases AH:o>=n-eN
   .rw[ao AH];exact aN ⟨⟨_,_,rfl,wF,hl,f,.inl AH⟩,rfl⟩
   .rw[ap AH];refine av (jf hC hk oZ tE (by lia) fun more e=>?_);cases more
    .have e':=mr e.symm;exact aN ⟨⟨_,_,rfl,wF,hl,f,.inr (by lia)⟩,rfl⟩
    .exact aN ⟨⟨_,_,rfl,by lia,by lia,by lia,b9 e.symm⟩,rfl⟩
  .rintro c aU ⟨⟨l,o,rfl,wF,Vz,hl,f⟩,rfl⟩;exact⟨⟨_,_,rfl,wF,hl,f,.inl (by lia)⟩,rfl⟩
  .rintro c aU ⟨⟨l,o,rfl,wF,hl,f,e⟩,rfl⟩;dsimp only;refine wY hC hk oZ tE hn so (by lia) (by lia) (fun i hi=>?_) (fun i hi mn=>?_) h
   .have:=so (base+i) (base+(eN+l)) (by lia) (by lia) (by lia);lia
   .rcases e with e|e
    .lia
    .by_cases c:n-eN<=o
     .lia
     .have:=so (base+(eN+o)) (base+i) (by lia) (by lia) (by lia);lia
end
theorem eG(g:Nat):df g=modify fun s=>SortSt.mk' (kindOf s) (arrOf s) (pendingOf s) g (failedOf s):=rfl
structure SM(κ:SortKind)(ar:Array Keyed)(pd:Array (Nat×Nat×Nat))(st:SortSt):Prop where
 arr:arrOf st=ar
 kind:kindOf st=κ
 failed:failedOf st=none
 pend:pendingOf st=pd
abbrev S6:=Option (Array Keyed)×Array Keyed×Nat×Nat×Nat×Nat×Nat
abbrev md(a b out:Array Keyed)(ia ib:Nat):=out++a.extract ia a.size++b.extract ib b.size
abbrev vi(a b out:Array Keyed)(ia ib:Nat):=out++b.extract ib b.size++a.extract ia a.size
def S7(a b out:Array Keyed)(ia ib mg ac bc:Nat):StateT SortSt Sem (ForInStep S6):=do
 let x <- elem' a ia
 if ia+1+1==a.size then pure (.done (some (vi a b (out.push x) (ia+1) ib),out.push x,ia+1,ib,mg,ac,bc))
 else if ac<7&&bc<7 then pure (.done (none,out.push x,ia+1,ib,mg,ac,bc)) else pure (.yield (none,out.push x,ia+1,ib,mg,ac,bc))
def S8(a b out:Array Keyed)(ia ib mg ac bc:Nat):StateT SortSt Sem (ForInStep S6):=do
 let x <- elem' b ib
 if ib+1==b.size then pure (.done (some (md a b (out.push x) ia (ib+1)),out.push x,ia,ib+1,mg,ac,bc))
 else do
  let some k <- eX true (<-elem' a ia) b (ib+1) (b.size-(ib+1)) 0|pure (.done (some (md a b (out.push x) ia (ib+1)),out.push x,ia,ib+1,mg,ac,bc))
  if k > 0 then
   if ib+1+k==b.size then pure (.done (some (md a b (out.push x++b.extract (ib+1) (ib+1+k)) ia (ib+1+k)),out.push x++b.extract (ib+1) (ib+1+k),ia,ib+1+k,mg,ac,k))
   else S7 a b (out.push x++b.extract (ib+1) (ib+1+k)) ia (ib+1+k) mg ac k
  else S7 a b (out.push x) ia (ib+1) mg ac k
def S9(a b out:Array Keyed)(ia ib mg ac bc:Nat):StateT SortSt Sem (ForInStep S6):=do
 df mg
 let some k <- eX false (<-elem' b ib) a ia (a.size-ia) 0|pure (.done (some (md a b out ia ib),out,ia,ib,mg,ac,bc))
 if k > 0 then
  if ia+k+1==a.size then pure (.done (some (vi a b (out++a.extract ia (ia+k)) (ia+k) ib),out++a.extract ia (ia+k),ia+k,ib,mg,k,bc))
  else if ia+k==a.size then pure (.done (some (md a b (out++a.extract ia (ia+k)) (ia+k) ib),out++a.extract ia (ia+k),ia+k,ib,mg,k,bc))
  else S8 a b (out++a.extract ia (ia+k)) (ia+k) ib mg k bc
 else S8 a b out ia ib mg k bc
theorem wZ(a b:Array Keyed):qU a b=(do
 rule "list.sort.merge-lo"
 let q0:=a.size+b.size
 let done (out:Array Keyed) (ia ib:Nat):=out++a.extract ia a.size++b.extract ib b.size
 let pG (out:Array Keyed) (ia ib:Nat):=out++b.extract ib b.size++a.extract ia a.size
 let mut out:Array Keyed:=#[<-elem' b 0]
 let mut ia:=0
 let mut ib:=1
 if ib==b.size then return done out ia ib
 if ia+1==a.size then return pG out ia ib
 let mut minGallop:=gallopOf (<-get)
 for _ in [0:q0] do
  let mut acount:=0
  let mut bcount:=0
  for _ in [0:q0] do
   let some Qf <- lt' (<-elem' b ib) (<-elem' a ia)|return done out ia ib
   if Qf then
    out:=out.push (<-elem' b ib);ib:=ib+1;bcount:=bcount+1;acount:=0
    if ib==b.size then return done out ia ib
    if bcount>=minGallop then break
   else
    out:=out.push (<-elem' a ia);ia:=ia+1;acount:=acount+1;bcount:=0
    if ia+1==a.size then return pG out ia ib
    if acount>=minGallop then break
  rule "list.sort.gallop"
  minGallop:=minGallop+1
  for _ in [0:q0] do
   if minGallop > 1 then minGallop:=minGallop-1
   df minGallop
   let some k <- eX false (<-elem' b ib) a ia (a.size-ia) 0|return done out ia ib
   acount:=k
   if k > 0 then
    out:=out++a.extract ia (ia+k);ia:=ia+k
    if ia+1==a.size then return pG out ia ib
    if ia==a.size then return done out ia ib
   out:=out.push (<-elem' b ib);ib:=ib+1
   if ib==b.size then return done out ia ib
   let some k <- eX true (<-elem' a ia) b ib (b.size-ib) 0|return done out ia ib
   bcount:=k
   if k > 0 then
    out:=out++b.extract ib (ib+k);ib:=ib+k
    if ib==b.size then return done out ia ib
   out:=out.push (<-elem' a ia);ia:=ia+1
   if ia+1==a.size then return pG out ia ib
   if acount<7&&bcount<7 then break
  minGallop:=minGallop+1
  df minGallop
 unsupported "internal:list.sort.merge-bound"):=rfl
def PI(a b out:Array Keyed)(ia ib:Nat):Prop:=out.toList.Perm (a.toList.take ia++b.toList.take ib)
theorem w4{l:List Keyed}{i:Nat}(h:i<l.length):l.take (i+1)=l.take i++[l[i]]:=by rw[hX,bY h];rfl
theorem PI.ik{a b out:Array Keyed}{ia ib:Nat}(h:PI a b out ia ib)(hi:ia<a.size):PI a b (out.push a[ia]) (ia+1) ib:=by
 unfold PI at h |-;rw[jt,w4 (by simpa using hi),jr];refine(h.append_right _).trans ?_;rw[jr];refine List.Perm.append_left _ ?_;have:a.toList[ia]'(by simpa using hi)=a[ia]:=by simp
 rw[this];exact oB
theorem fv{a:Array Keyed}{i j:Nat}:(a.extract i j).toList=(a.toList.drop i).take (j-i):=by
 rw[yg,List.extract_eq_take_drop]
theorem Es{a:Array Keyed}{i k:Nat}(h:i+k<a.size):a.extract i (i+(k+1))=(a.extract i (i+k)).push a[i+k]:=by
 apply Array.toList_inj.mp;rw[jt,fv,fv,Nat.add_sub_cancel_left,Nat.add_sub_cancel_left,w4 (by simp;lia)];congr 2;simp
structure MI(key:Keyed->Int)(a b out:Array Keyed)(ia ib:Nat):Prop where
 perm:PI a b out ia ib
 so:out.toList.Pairwise fun x y=>key x<=key y
 la:∀x∈out.toList,ia<a.size->key x<=kk key a ia
 lb:∀x∈out.toList,ib<b.size->key x<=kk key b ib
def Fi(key:Keyed->Int)(a b r:Array Keyed):Prop:=r.Perm (a++b)/\r.toList.Pairwise fun x y=>key x<=key y
section
variable {key:Keyed->Int} {a b out:Array Keyed} {ia ib:Nat}
theorem MI.swap(h:MI key a b out ia ib):MI key b a out ib ia:=⟨h.perm.trans oB,h.so,h.lb,h.la⟩
theorem MI.ik(h:MI key a b out ia ib)(hi:ia<a.size)(sa:So key a 0 a.size)(c:ib<b.size->kk key a ia<=kk key b ib):MI key a b (out.push a[ia]) (ia+1) ib:=by
 refine⟨h.perm.ik hi,?_,fun x hx hl=>?_,fun x hx hl=>?_⟩
 .rw[jt];refine ye.mpr ⟨h.so,List.pairwise_singleton _ _,fun x hx y hy=>?_⟩;rw[bK.mp hy,<-cT (key:=key) hi];exact h.la x hx hi
 .rw[jt] at hx;have:=sa ia (ia+1) (by lia) (by lia) hl;rcases bg.mp hx with z|z
  .have:=h.la x z hi;lia
  .rw[bK.mp z,<-cT (key:=key) hi];exact this
 .rw[jt] at hx;rcases bg.mp hx with z|z
  .exact h.lb x z hl
  .rw[bK.mp z,<-cT (key:=key) hi];exact c hl
theorem MI.vj(h:MI key a b out ia ib)(sa:So key a 0 a.size):∀ (k:Nat),ia+k<=a.size->(ib<b.size->∀i,i<k->kk key a (ia+i)<=kk key b ib)->MI key a b (out++a.extract ia (ia+k)) (ia+k) ib
 |0,_,_=>by
  have e:a.extract ia (ia+0)=#[]:=by simp;lia
  rw[e,Array.append_empty];exact h
 |k+1,hk,c=>by
  have:=(MI.vj h sa k (by lia) fun hb i hi=>c hb i (by lia)).ik (by lia) sa fun hb=>c hb k (by lia);rw[Es (by lia),<-Array.push_append];exact this
theorem MI.tG(h:MI key a b out ia ib)(hi:ib<b.size)(sb:So key b 0 b.size)(c:ia<a.size->kk key b ib<=kk key a ia):MI key a b (out.push b[ib]) ia (ib+1):=(h.swap.ik hi sb c).swap
theorem MI.Et(h:MI key a b out ia ib)(sb:So key b 0 b.size)(k:Nat)(hk:ib+k<=b.size)(c:ia<a.size->∀i,i<k->kk key b (ib+i)<=kk key a ia):MI key a b (out++b.extract ib (ib+k)) ia (ib+k):=(h.swap.vj sb k hk c).swap
theorem MI.fin(h:MI key a b out a.size b.size):Fi key a b out:=by
 refine⟨?_,h.so⟩;have:=h.perm;unfold PI at this;rw[uc (by simp),uc (by simp)] at this;rw[lj,oF];exact this
theorem MI.done(h:MI key a b out ia ib)(sa:So key a 0 a.size)(sb:So key b 0 b.size)(ha:ia<=a.size)(hb:ib<=b.size)(c:ib<b.size->∀i,i<a.size-ia->kk key a (ia+i)<=kk key b ib):Fi key a b (md a b out ia ib):=by
 have h1:=h.vj sa (a.size-ia) (by lia) c;rw[show ia+(a.size-ia)=a.size by lia] at h1;have h2:=h1.Et sb (b.size-ib) (by lia) fun z=>by lia
 rw[show ib+(b.size-ib)=b.size by lia] at h2;exact h2.fin
theorem MI.last(h:MI key a b out ia ib)(sa:So key a 0 a.size)(sb:So key b 0 b.size)(ha:ia<=a.size)(hb:ib<=b.size)(c:ia<a.size->∀i,i<b.size-ib->kk key b (ib+i)<=kk key a ia):Fi key a b (vi a b out ia ib):=by
 have:=h.swap.done sb sa hb ha c;refine⟨this.1.trans ?_,this.2⟩;rw[lj,oF,oF];exact oB
end
section
variable {prog:Program} {w:World} {A:Around} {E:Value->Shared->Prop} {s:Shared} {κ:SortKind} {a₀:Array Keyed} {pd:Array (Nat×Nat×Nat)} {ar:Array Keyed} {key:Keyed->Int}
structure w5(key:Keyed->Int)(a₀ a b:Array Keyed):Prop where
 ha:∀x∈a.toList,x∈a₀.toList
 hb:∀x∈b.toList,x∈a₀.toList
 a1:1<=a.size
 b1:1<=b.size
 sa:So key a 0 a.size
 sb:So key b 0 b.size
 c0:kk key b 0<=kk key a 0
 c1:∀i,i<b.size->kk key b i<=kk key a (a.size-1)
theorem w5.last(T:w5 key a₀ a b)(h:MI key a b out ia ib)(ha:ia+1=a.size)(hb:ib<=b.size):Fi key a b (vi a b out ia ib):=
 h.last T.sa T.sb (by lia) hb fun _ i hi=>by
  have:=T.c1 (ib+i) (by lia);rw[show a.size-1=ia by lia] at this;exact this
theorem w5.done(T:w5 key a₀ a b)(h:MI key a b out ia ib)(ha:ia<=a.size)(hb:ib=b.size):Fi key a b (md a b out ia ib):=
 h.done T.sa T.sb ha (by lia) fun z=>by lia
def GP(κ:SortKind)(ar:Array Keyed)(pd:Array (Nat×Nat×Nat))(key:Keyed->Int)(a b:Array Keyed)(n:Nat)(r:ForInStep S6)(st:SortSt):Prop:=SM κ ar pd st/\
 ((∃x c,r=.done (some x,c)/\Fi key a b x)\/∃out ia ib mg ac bc,(r=.done (none,out,ia,ib,mg,ac,bc)\/r=.yield (none,out,ia,ib,mg,ac,bc))/\MI key a b out ia ib/\ia+1<a.size/\ib<b.size/\n<=ia+ib)
theorem AL{st:SortSt}{a b out:Array Keyed}{ia ib mg ac bc n:Nat}(T:w5 key a₀ a b)(hB:SM κ ar pd st)(h:MI key a b out ia ib)(la:ia+1<a.size)(lb:ib<b.size)(li:n<=ia+ib)(c:kk key a ia<=kk key b ib):
  wpS (model prog w) A E s (S7 a b out ia ib mg ac bc) (GP κ ar pd key a b n) st:=by
 unfold S7;refine av (bo (dt a ia (by lia)) ?_);have p:=h.ik (show ia<a.size by lia) T.sa fun _=>c;by_cases f:(ia+1+1==a.size)=true
 .rw[ao f];exact aN ⟨hB,.inl ⟨_,_,rfl,T.last p (by simpa using f) (by lia)⟩⟩
 rw[ap f];have g:¬ (ia+1+1=a.size):=by simpa using f
 split
 .exact aN ⟨hB,.inr ⟨_,_,_,_,_,_,.inl rfl,p,by lia,by lia,by lia⟩⟩
 .exact aN ⟨hB,.inr ⟨_,_,_,_,_,_,.inr rfl,p,by lia,by lia,by lia⟩⟩
theorem AM{st:SortSt}{a b out:Array Keyed}{ia ib mg ac bc n:Nat}(hC:vg prog w A s κ a₀ key)(T:w5 key a₀ a b)(hB:SM κ ar pd st)(h:MI key a b out ia ib)(la:ia+1<a.size)(lb:ib<b.size)(li:n<=ia+ib)(c:kk key b ib<=kk key a ia):
  wpS (model prog w) A E s (S8 a b out ia ib mg ac bc) (GP κ ar pd key a b n) st:=by
 unfold S8;refine av (bo (dt b ib (by lia)) ?_);have p:=h.tG lb T.sb fun _=>c;by_cases f:(ib+1==b.size)=true
 .rw[ao f];exact aN ⟨hB,.inl ⟨_,_,rfl,T.done p (by lia) (by simpa using f)⟩⟩
 rw[ap f];have g:¬ (ib+1=b.size):=by simpa using f
 refine av (bo (dt a ia (by lia)) ?_);refine av (fO hC hB.kind (T.ha _ (by simp)) T.hb (by lia) (by lia) (fun i j h1 h2 h3=>T.sb i j (by lia) h2 (by lia)) fun k hk q1 q2=>?_);rw[<-cT (key:=key) (a:=a) (i:=ia) (by lia)] at q1 q2;simp only[qZ,i6] at q1 q2;dsimp only;by_cases kp:k > 0
 .rw[ao kp];have p2:=p.Et T.sb k (by lia) fun _ i hi=>by have:=q1 i hi;lia
  by_cases f2:(ib+1+k==b.size)=true
  .rw[ao f2];exact aN ⟨hB,.inl ⟨_,_,rfl,T.done p2 (by lia) (by simpa using f2)⟩⟩
  rw[ap f2];have g2:¬ (ib+1+k=b.size):=by simpa using f2
  exact AL T hB p2 la (by lia) (by lia) (q2 k (by lia) (by lia))
 .rw[ap kp];have e:k=0:=by lia
  subst e;exact AL T hB p la (by lia) (by lia) (q2 0 (by lia) (by lia))
theorem HF{st:SortSt}{a b out:Array Keyed}{ia ib mg ac bc n:Nat}(hC:vg prog w A s κ a₀ key)(T:w5 key a₀ a b)(hB:SM κ ar pd st)(h:MI key a b out ia ib)(la:ia+1<a.size)(lb:ib<b.size)(li:n<=ia+ib):
  wpS (model prog w) A E s (S9 a b out ia ib mg ac bc) (GP κ ar pd key a b n) st:=by
 unfold S9;rw[eG];refine av (fJ ?_);have zB:SM κ ar pd (SortSt.mk' (kindOf st) (arrOf st) (pendingOf st) mg (failedOf st)):=⟨hB.arr,hB.kind,hB.failed,hB.pend⟩
 refine av (bo (dt b ib (by lia)) ?_);refine av (fO hC zB.kind (T.hb _ (by simp)) T.ha (by lia) (by lia) (fun i j h1 h2 h3=>T.sa i j (by lia) h2 (by lia)) fun k hk q1 q2=>?_);rw[<-cT (key:=key) (a:=b) (i:=ib) (by lia)] at q1 q2;simp only[qZ,mz,fK] at q1 q2;dsimp only;by_cases kp:k > 0
 .rw[ao kp];have p2:=h.vj T.sa k (by lia) fun _ i hi=>by have:=q1 i hi;lia
  by_cases f4:(ia+k+1==a.size)=true
  .rw[ao f4];exact aN ⟨zB,.inl ⟨_,_,rfl,T.last p2 (by simpa using f4) (by lia)⟩⟩
  rw[ap f4];have g4:¬ (ia+k+1=a.size):=by simpa using f4
  by_cases f5:(ia+k==a.size)=true
  .rw[ao f5];have g5:ia+k=a.size:=by simpa using f5
   exact aN ⟨zB,.inl ⟨_,_,rfl,p2.done T.sa T.sb (by lia) (by lia) fun _ i hi=>by lia⟩⟩
  rw[ap f5];have g5:¬ (ia+k=a.size):=by simpa using f5
  exact AM hC T zB p2 (by lia) lb (by lia) (by have:=q2 k (by lia) (by lia);lia)
 .rw[ap kp];have e:k=0:=by lia
  subst e;exact AM hC T zB h la lb li (by have:=q2 0 (by lia) (by lia);rw[iq] at this;lia)
theorem w6{st:SortSt}{a b:Array Keyed}{Q:Array Keyed->SortSt->Prop}(hC:vg prog w A s κ a₀ key)(hB:SM κ ar pd st)(T:w5 key a₀ a b)(h:∀out aU,Fi key a b out->SM κ ar pd aU->Q out aU):wpS (model prog w) A E s (qU a b) Q st:=by
 have a1:=T.a1;have b1:=T.b1;rw[wZ];refine av (lY (iZ ⟨rfl,?_⟩));refine av (bo (dt b 0 (by lia)) ?_);dsimp only;have p0:MI key a b #[b[0]] 0 1:=by
  have:MI key a b #[] 0 0:=⟨by unfold PI;simp,List.Pairwise.nil,fun x hx=>by simp at hx,fun x hx=>by simp at hx⟩
  exact this.tG (by lia) T.sb fun _=>T.c0
 by_cases e1:(1==b.size)=true
 .rw[ao e1];exact aN (h _ _ (T.done p0 (by lia) (by simpa using e1)) hB)
 rw[ap e1];have n1:¬ (1=b.size):=by simpa using e1
 by_cases e2:(0+1==a.size)=true
 .rw[ao e2];exact aN (h _ _ (T.last p0 (by simpa using e2) (by lia)) hB)
 rw[ap e2];have n2:¬ (0+1=a.size):=by simpa using e2
 refine av (gk ?_);refine av (dD (fV (I:=fun i c aU=>SM κ ar pd aU/\∃out ia ib mg,c=(none,out,ia,ib,mg)/\MI key a b out ia ib/\ia+1<a.size/\ib<b.size/\i<=ia+ib) (Q:=fun c aU=>SM κ ar pd aU/\∃r c',c=(some r,c')/\Fi key a b r) ?_ ?_ ⟨hB,_,_,_,_,rfl,p0,by lia,by lia,by lia⟩) ?_)
 .rintro i c C2 _ hi ⟨HG,out,ia,ib,mg,rfl,p1,la,lb,li⟩;dsimp only;refine av (dD (fV (I:=fun x c aU=>SM κ ar pd aU/\∃out ia ib ac bc,c=(none,out,ia,ib,ac,bc)/\MI key a b out ia ib/\ia+1<a.size/\ib<b.size/\i+x<=ia+ib) (Q:=fun c aU=>SM κ ar pd aU/\((∃r c',c=(some r,c')/\Fi key a b r)\/∃out ia ib ac bc,c=(none,out,ia,ib,ac,bc)/\MI key a b out ia ib/\ia+1<a.size/\ib<b.size/\i+1<=ia+ib)) ?_ ?_ ⟨HG,_,_,_,_,_,rfl,p1,la,lb,by lia⟩) ?_)
  .rintro x c iH _ hx ⟨hJ,out,ia,ib,ac,bc,rfl,p1,la,lb,li⟩;dsimp only;refine av (bo (dt b ib (by lia)) ?_);refine av (bo (dt a ia (by lia)) ?_);refine av (qW hC hJ.kind (T.hb _ (by simp)) (T.ha _ (by simp)) ?_);rw[<-cT (key:=key) (a:=b) (i:=ib) (by lia),<-cT (key:=key) (a:=a) (i:=ia) (by lia)];by_cases bw:kk key b ib<kk key a ia
   .rw[bB bw];dsimp only;rw[ao rfl];refine av (bo (dt b ib (by lia)) ?_);have p2:=p1.tG (show ib<b.size by lia) T.sb fun _=>by lia
    by_cases f1:(ib+1==b.size)=true
    .rw[ao f1];exact aN ⟨hJ,.inl ⟨_,_,rfl,T.done p2 (by lia) (by simpa using f1)⟩⟩
    rw[ap f1];have g1:¬ (ib+1=b.size):=by simpa using f1
    split
    .exact aN ⟨hJ,.inr ⟨_,_,_,_,_,rfl,p2,by lia,by lia,by lia⟩⟩
    .exact aN ⟨hJ,_,_,_,_,_,rfl,p2,by lia,by lia,by lia⟩
   .rw[cH bw];dsimp only;rw[ap (by decide)];refine av (bo (dt a ia (by lia)) ?_);have p2:=p1.ik (show ia<a.size by lia) T.sa fun _=>by lia
    by_cases f1:(ia+1+1==a.size)=true
    .rw[ao f1];exact aN ⟨hJ,.inl ⟨_,_,rfl,T.last p2 (by simpa using f1) (by lia)⟩⟩
    rw[ap f1];have g1:¬ (ia+1+1=a.size):=by simpa using f1
    split
    .exact aN ⟨hJ,.inr ⟨_,_,_,_,_,rfl,p2,by lia,by lia,by lia⟩⟩
    .exact aN ⟨hJ,_,_,_,_,_,rfl,p2,by lia,by lia,by lia⟩
  .rintro c iH ⟨hJ,out,ia,ib,ac,bc,rfl,p1,la,lb,li⟩;exact⟨hJ,.inr ⟨_,_,_,_,_,rfl,p1,la,lb,by lia⟩⟩
  .rintro c iH ⟨hJ,⟨r,c',rfl,hp⟩|⟨out,ia,ib,ac,bc,rfl,p1,la,lb,li⟩⟩
   .exact aN ⟨hJ,_,_,rfl,hp⟩
   .dsimp only;refine av (lY (iZ ⟨rfl,?_⟩));refine av (dD (fV (I:=fun x c aU=>SM κ ar pd aU/\∃out ia ib mg ac bc,c=(none,out,ia,ib,mg,ac,bc)/\MI key a b out ia ib/\ia+1<a.size/\ib<b.size/\i+1<=ia+ib) (Q:=fun c aU=>SM κ ar pd aU/\((∃r c',c=(some r,c')/\Fi key a b r)\/∃out ia ib mg ac bc,c=(none,out,ia,ib,mg,ac,bc)/\MI key a b out ia ib/\ia+1<a.size/\ib<b.size/\i+1<=ia+ib)) ?_ ?_ ⟨hJ,_,_,_,_,_,_,rfl,p1,la,lb,li⟩) ?_)
    .rintro x c iH _ hx ⟨hJ,out,ia,ib,mg,ac,bc,rfl,p1,la,lb,li⟩;change wpS (model prog w) A E s (if mg > 1 then S9 a b out ia ib (mg-1) ac bc else S9 a b out ia ib mg ac bc) _ iH;split <;>
     .refine dD (HF hC T hJ p1 la lb li) ?_;rintro r aU ⟨m,⟨x,c,rfl,hf⟩|⟨out,ia,ib,mg,ac,bc,rfl|rfl,hh⟩⟩
      .exact⟨m,.inl ⟨_,_,rfl,hf⟩⟩
      .exact⟨m,.inr ⟨_,_,_,_,_,_,rfl,hh⟩⟩
      .exact⟨m,_,_,_,_,_,_,rfl,hh⟩
    .rintro c iH ⟨hJ,hh⟩;exact⟨hJ,.inr hh⟩
    .rintro c iH ⟨hJ,⟨r,c',rfl,hp⟩|⟨out,ia,ib,mg,ac,bc,rfl,p1,la,lb,li⟩⟩
     .exact aN ⟨hJ,_,_,rfl,hp⟩
     .dsimp only;rw[eG];refine av (fJ ?_);exact aN ⟨⟨hJ.arr,hJ.kind,hJ.failed,hJ.pend⟩,_,_,_,_,rfl,p1,la,lb,li⟩
 .rintro c C2 ⟨HG,out,ia,ib,mg,rfl,p1,la,lb,li⟩;lia
 .rintro c C2 ⟨HG,r,c',rfl,hp⟩;exact aN (h r C2 hp HG)
end
abbrev S_:=Option (Array Keyed)×Nat×Nat×Array Keyed×Nat×Nat×Nat
abbrev me(a b out:Array Keyed)(na nb:Nat):=a.extract 0 na++b.extract 0 nb++out.reverse
abbrev mO(a b out:Array Keyed)(na nb:Nat):=b.extract 0 nb++a.extract 0 na++out.reverse
def Ta(a b:Array Keyed)(na nb:Nat)(out:Array Keyed)(mg ac bc:Nat):StateT SortSt Sem (ForInStep S_):=do
 let x <- elem' a (na-1)
 if na-1==0 then pure (.done (some (me a b (out.push x) (na-1) nb),na-1,nb,out.push x,mg,ac,bc))
 else if ac<7&&bc<7 then pure (.done (none,na-1,nb,out.push x,mg,ac,bc)) else pure (.yield (none,na-1,nb,out.push x,mg,ac,bc))
def Tb(a b:Array Keyed)(na nb:Nat)(out:Array Keyed)(mg ac bc:Nat):StateT SortSt Sem (ForInStep S_):=do
 let x <- elem' b (nb-1)
 if nb-1==1 then pure (.done (some (mO a b (out.push x) na (nb-1)),na,nb-1,out.push x,mg,ac,bc))
 else do
  let some at_ <- eX true (<-elem' a (na-1)) b 0 (nb-1) (nb-1-1)|pure (.done (some (me a b (out.push x) na (nb-1)),na,nb-1,out.push x,mg,ac,bc))
  if nb-1-at_ > 0 then
   if at_==1 then pure (.done (some (mO a b (out.push x++(b.extract at_ (nb-1)).reverse) na at_),na,at_,out.push x++(b.extract at_ (nb-1)).reverse,mg,ac,nb-1-at_))
   else if at_==0 then pure (.done (some (me a b (out.push x++(b.extract at_ (nb-1)).reverse) na at_),na,at_,out.push x++(b.extract at_ (nb-1)).reverse,mg,ac,nb-1-at_))
   else Ta a b na at_ (out.push x++(b.extract at_ (nb-1)).reverse) mg ac (nb-1-at_)
  else Ta a b na (nb-1) (out.push x) mg ac (nb-1-at_)
def Tc(a b:Array Keyed)(na nb:Nat)(out:Array Keyed)(mg ac bc:Nat):StateT SortSt Sem (ForInStep S_):=do
 df mg
 let some at_ <- eX false (<-elem' b (nb-1)) a 0 na (na-1)|pure (.done (some (me a b out na nb),na,nb,out,mg,ac,bc))
 if na-at_ > 0 then
  if at_==0 then pure (.done (some (me a b (out++(a.extract at_ na).reverse) at_ nb),at_,nb,out++(a.extract at_ na).reverse,mg,na-at_,bc))
  else Tb a b at_ nb (out++(a.extract at_ na).reverse) mg (na-at_) bc
 else Tb a b na nb out mg (na-at_) bc
theorem w9(a b:Array Keyed):qV a b=(do
 rule "list.sort.merge-hi"
 let q0:=a.size+b.size
 let done (out:Array Keyed) (na nb:Nat):=a.extract 0 na++b.extract 0 nb++out.reverse
 let mP (out:Array Keyed) (na nb:Nat):=b.extract 0 nb++a.extract 0 na++out.reverse
 let mut na:=a.size-1
 let mut nb:=b.size
 let mut out:Array Keyed:=#[<-elem' a na]
 if na==0 then return done out na nb
 if nb==1 then return mP out na nb
 let mut minGallop:=gallopOf (<-get)
 for _ in [0:q0] do
  let mut acount:=0
  let mut bcount:=0
  for _ in [0:q0] do
   let some Qg <- lt' (<-elem' b (nb-1)) (<-elem' a (na-1))|return done out na nb
   if Qg then
    na:=na-1;out:=out.push (<-elem' a na);acount:=acount+1;bcount:=0
    if na==0 then return done out na nb
    if acount>=minGallop then break
   else
    nb:=nb-1;out:=out.push (<-elem' b nb);bcount:=bcount+1;acount:=0
    if nb==1 then return mP out na nb
    if bcount>=minGallop then break
  rule "list.sort.gallop"
  minGallop:=minGallop+1
  for _ in [0:q0] do
   if minGallop > 1 then minGallop:=minGallop-1
   df minGallop
   let some at_ <- eX false (<-elem' b (nb-1)) a 0 na (na-1)|return done out na nb
   let k:=na-at_
   acount:=k
   if k > 0 then
    out:=out++(a.extract at_ na).reverse;na:=at_
    if na==0 then return done out na nb
   nb:=nb-1;out:=out.push (<-elem' b nb)
   if nb==1 then return mP out na nb
   let some at_ <- eX true (<-elem' a (na-1)) b 0 nb (nb-1)|return done out na nb
   let k:=nb-at_
   bcount:=k
   if k > 0 then
    out:=out++(b.extract at_ nb).reverse;nb:=at_
    if nb==1 then return mP out na nb
    if nb==0 then return done out na nb
   na:=na-1;out:=out.push (<-elem' a na)
   if na==0 then return done out na nb
   if acount<7&&bcount<7 then break
  minGallop:=minGallop+1
  df minGallop
 unsupported "internal:list.sort.merge-bound"):=rfl
def PH(a b out:Array Keyed)(na nb:Nat):Prop:=out.toList.Perm (a.toList.drop na++b.toList.drop nb)
theorem PH.ik(h:PH a b out na nb)(h1:1<=na)(hi:na-1<a.size):PH a b (out.push a[na-1]) (na-1) nb:=by
 unfold PH at h |-;have e:a.toList.drop (na-1)=a[na-1]::a.toList.drop na:=by
  have:=ua (l:=a.toList) (i:=na-1) (by simpa using hi);rw[this,Nat.sub_add_cancel h1];simp
 rw[jt,e];refine(h.append_right _).trans ?_;exact oB
theorem HJ{a:Array Keyed}{k n:Nat}(h:k<n)(hn:n<=a.size):(a.extract k n).reverse=(a.extract (k+1) n).reverse.push a[k]:=by
 apply Array.toList_inj.mp;rw[jt,uk,uk,fv,fv];have e:=ua (l:=a.toList) (i:=k) (by simp;lia);rw[e,show n-k=(n-(k+1))+1 by lia,List.take_succ_cons,List.reverse_cons];congr 2
theorem w_{l:List Keyed}{i j:Nat}(h:i<=j):l.drop i=(l.drop i).take (j-i)++l.drop j:=by
 have:=(yd (j-i) (l.drop i)).symm;rw[List.drop_drop,show i+(j-i)=j by lia] at this;exact this
structure HI(key:Keyed->Int)(a b out:Array Keyed)(na nb:Nat):Prop where
 perm:PH a b out na nb
 so:out.toList.Pairwise fun x y=>key y<=key x
 la:∀x∈out.toList,0<na->kk key a (na-1)<=key x
 lb:∀x∈out.toList,0<nb->kk key b (nb-1)<=key x
section
variable {key:Keyed->Int} {a b out:Array Keyed} {na nb:Nat}
theorem HI.swap(h:HI key a b out na nb):HI key b a out nb na:=⟨h.perm.trans oB,h.so,h.lb,h.la⟩
theorem HI.ik(h:HI key a b out na nb)(h1:1<=na)(hi:na-1<a.size)(sa:So key a 0 a.size)(c:0<nb->kk key b (nb-1)<=kk key a (na-1)):HI key a b (out.push a[na-1]) (na-1) nb:=by
 refine⟨h.perm.ik h1 hi,?_,fun x hx hl=>?_,fun x hx hl=>?_⟩
 .rw[jt];refine ye.mpr ⟨h.so,List.pairwise_singleton _ _,fun x hx y hy=>?_⟩;rw[bK.mp hy,<-cT (key:=key) hi];exact h.la x hx (by lia)
 .rw[jt] at hx;have:=sa (na-1-1) (na-1) (by lia) (by lia) hi;rcases bg.mp hx with z|z
  .have:=h.la x z (by lia);lia
  .rw[bK.mp z,<-cT (key:=key) hi];exact this
 .rw[jt] at hx;rcases bg.mp hx with z|z
  .exact h.lb x z hl
  .rw[bK.mp z,<-cT (key:=key) hi];exact c hl
theorem HI.vj(h:HI key a b out na nb)(sa:So key a 0 a.size)(hn:na<=a.size):∀ (d k:Nat),na=k+d->(0<nb->∀i,k<=i->i<na->kk key b (nb-1)<=kk key a i)->HI key a b (out++(a.extract k na).reverse) k nb
 |0,k,e,_=>by
  have e':a.extract k na=#[]:=by simp;lia
  have e2:k=na:=by lia
  subst e2;rw[e',Array.reverse_empty,Array.append_empty];exact h
 |d+1,k,e,c=>by
  have:=(HI.vj h sa hn d (k+1) (by lia) fun hb i h1 h2=>c hb i (by lia) h2).ik (by lia) (by lia) sa fun hb=>c hb _ (by lia) (by lia);rw[HJ (by lia) hn,<-Array.push_append];exact this
theorem HI.tG(h:HI key a b out na nb)(h1:1<=nb)(hi:nb-1<b.size)(sb:So key b 0 b.size)(c:0<na->kk key a (na-1)<=kk key b (nb-1)):HI key a b (out.push b[nb-1]) na (nb-1):=(h.swap.ik h1 hi sb c).swap
theorem HI.Et(h:HI key a b out na nb)(sb:So key b 0 b.size)(hn:nb<=b.size)(k:Nat)(hk:k<=nb)(c:0<na->∀i,k<=i->i<nb->kk key a (na-1)<=kk key b i):HI key a b (out++(b.extract k nb).reverse) na k:=(h.swap.vj sb hn (nb-k) k (by lia) c).swap
theorem HI.first(h:HI key a b out na nb)(sa:So key a 0 a.size)(sb:So key b 0 b.size)(ha:na<=a.size)(hb:nb<=b.size)(c:0<nb->∀i,i<na->kk key b (nb-1)<=kk key a i):Fi key a b (mO a b out na nb):=by
 have h1:=h.vj sa ha na 0 (by lia) fun z i _ hi=>c z i hi;have h2:=h1.Et sb hb 0 (by lia) fun z=>by lia
 have e:mO a b out na nb=(out++(a.extract 0 na).reverse++(b.extract 0 nb).reverse).reverse:=by simp
 rw[e];refine⟨?_,?_⟩
 .have:=h2.perm;unfold PH at this;rw[uz,uz] at this;rw[lj,uk,oF (xs:=a)];exact(List.reverse_perm _).trans this
 .rw[uk,List.pairwise_reverse];exact h2.so
theorem HI.done(h:HI key a b out na nb)(sa:So key a 0 a.size)(sb:So key b 0 b.size)(ha:na<=a.size)(hb:nb<=b.size)(c:0<na->∀i,i<nb->kk key a (na-1)<=kk key b i):Fi key a b (me a b out na nb):=by
 have:=h.swap.first sb sa hb ha c;refine⟨this.1.trans ?_,this.2⟩;rw[lj,oF,oF];exact oB
end
section
variable {prog:Program} {w:World} {A:Around} {E:Value->Shared->Prop} {s:Shared} {κ:SortKind} {a₀:Array Keyed} {pd:Array (Nat×Nat×Nat)} {ar:Array Keyed} {key:Keyed->Int}
theorem w5.first(T:w5 key a₀ a b)(h:HI key a b out na nb)(ha:na<=a.size)(hb:nb=1):Fi key a b (mO a b out na nb):=
 h.first T.sa T.sb ha (by have:=T.b1;lia) fun _ i hi=>by
  have h0:=T.c0;have h1:=T.sa 0 i (by lia) (by lia) (by lia);rw[show nb-1=0 by lia];lia
theorem w5.xa(T:w5 key a₀ a b)(h:HI key a b out na nb)(ha:na<=a.size)(hb:nb<=b.size)(hz:na=0\/nb=0):Fi key a b (me a b out na nb):=
 h.done T.sa T.sb ha hb fun z i hi=>by lia
def GH(κ:SortKind)(ar:Array Keyed)(pd:Array (Nat×Nat×Nat))(key:Keyed->Int)(a b:Array Keyed)(n:Nat)(r:ForInStep S_)(st:SortSt):Prop:=SM κ ar pd st/\
 ((∃x c,r=.done (some x,c)/\Fi key a b x)\/∃na nb out mg ac bc,(r=.done (none,na,nb,out,mg,ac,bc)\/r=.yield (none,na,nb,out,mg,ac,bc))/\HI key a b out na nb/\1<=na/\2<=nb/\na<=a.size/\nb<=b.size/\n+na+nb<=a.size+b.size)
theorem AN{st:SortSt}{a b out:Array Keyed}{na nb mg ac bc n:Nat}(T:w5 key a₀ a b)(hB:SM κ ar pd st)(h:HI key a b out na nb)(la:1<=na)(lb:2<=nb)(ma:na<=a.size)(mb:nb<=b.size)(li:n+na+nb<=a.size+b.size)(c:kk key b (nb-1)<=kk key a (na-1)):
  wpS (model prog w) A E s (Ta a b na nb out mg ac bc) (GH κ ar pd key a b n) st:=by
 unfold Ta;refine av (bo (dt a (na-1) (by lia)) ?_);have p:=h.ik la (show na-1<a.size by lia) T.sa fun _=>c;by_cases f:(na-1==0)=true
 .rw[ao f];exact aN ⟨hB,.inl ⟨_,_,rfl,T.xa p (by lia) (by lia) (.inl (by simpa using f))⟩⟩
 rw[ap f];have g:¬ (na-1=0):=by simpa using f
 split
 .exact aN ⟨hB,.inr ⟨_,_,_,_,_,_,.inl rfl,p,by lia,by lia,by lia,by lia,by lia⟩⟩
 .exact aN ⟨hB,.inr ⟨_,_,_,_,_,_,.inr rfl,p,by lia,by lia,by lia,by lia,by lia⟩⟩
theorem AO{st:SortSt}{a b out:Array Keyed}{na nb mg ac bc n:Nat}(hC:vg prog w A s κ a₀ key)(T:w5 key a₀ a b)(hB:SM κ ar pd st)(h:HI key a b out na nb)(la:1<=na)(lb:2<=nb)(ma:na<=a.size)(mb:nb<=b.size)(li:n+na+nb<=a.size+b.size)(c:kk key a (na-1)<=kk key b (nb-1)):
  wpS (model prog w) A E s (Tb a b na nb out mg ac bc) (GH κ ar pd key a b n) st:=by
 unfold Tb;refine av (bo (dt b (nb-1) (by lia)) ?_);have p:=h.tG (by lia) (show nb-1<b.size by lia) T.sb fun _=>c;by_cases f:(nb-1==1)=true
 .rw[ao f];exact aN ⟨hB,.inl ⟨_,_,rfl,T.first p (by lia) (by simpa using f)⟩⟩
 rw[ap f];have g:¬ (nb-1=1):=by simpa using f
 refine av (bo (dt a (na-1) (by lia)) ?_);refine av (fO hC hB.kind (T.ha _ (by simp)) T.hb (by lia) (by lia) (fun i j h1 h2 h3=>T.sb i j (by lia) h2 (by lia)) fun k hk q1 q2=>?_);rw[<-cT (key:=key) (a:=a) (i:=na-1) (by lia)] at q1 q2;simp only[qZ,i6,qk] at q1 q2;dsimp only;by_cases kp:nb-1-k > 0
 .rw[ao kp];have p2:=p.Et T.sb (by lia) k hk fun _ i h1 h2=>q2 i h1 h2;by_cases f2:(k==1)=true
  .rw[ao f2];exact aN ⟨hB,.inl ⟨_,_,rfl,T.first p2 (by lia) (by simpa using f2)⟩⟩
  rw[ap f2];have g2:¬ (k=1):=by simpa using f2
  by_cases f6:(k==0)=true
  .rw[ao f6];exact aN ⟨hB,.inl ⟨_,_,rfl,T.xa p2 (by lia) (by lia) (.inr (by simpa using f6))⟩⟩
  rw[ap f6];have g6:¬ (k=0):=by simpa using f6
  exact AN T hB p2 la (by lia) ma (by lia) (by lia) (by have:=q1 (k-1) (by lia);lia)
 .rw[ap kp];have e:k=nb-1:=by lia
  subst e;exact AN T hB p la (by lia) ma (by lia) (by lia) (by have:=q1 (nb-1-1) (by lia);lia)
theorem HK{st:SortSt}{a b out:Array Keyed}{na nb mg ac bc n:Nat}(hC:vg prog w A s κ a₀ key)(T:w5 key a₀ a b)(hB:SM κ ar pd st)(h:HI key a b out na nb)(la:1<=na)(lb:2<=nb)(ma:na<=a.size)(mb:nb<=b.size)(li:n+na+nb<=a.size+b.size):
  wpS (model prog w) A E s (Tc a b na nb out mg ac bc) (GH κ ar pd key a b n) st:=by
 unfold Tc;rw[eG];refine av (fJ ?_);have zB:SM κ ar pd (SortSt.mk' (kindOf st) (arrOf st) (pendingOf st) mg (failedOf st)):=⟨hB.arr,hB.kind,hB.failed,hB.pend⟩
 refine av (bo (dt b (nb-1) (by lia)) ?_);refine av (fO hC zB.kind (T.hb _ (by simp)) T.ha (by lia) (by lia) (fun i j h1 h2 h3=>T.sa i j (by lia) h2 (by lia)) fun k hk q1 q2=>?_);rw[<-cT (key:=key) (a:=b) (i:=nb-1) (by lia)] at q1 q2;simp only[qZ,mz,fK,qk] at q1 q2;dsimp only;by_cases kp:na-k > 0
 .rw[ao kp];have p2:=h.vj T.sa ma (na-k) k (by lia) fun _ i h1 h2=>by have:=q2 i h1 h2;lia
  by_cases f4:(k==0)=true
  .rw[ao f4];exact aN ⟨zB,.inl ⟨_,_,rfl,T.xa p2 (by lia) (by lia) (.inl (by simpa using f4))⟩⟩
  rw[ap f4];have g4:¬ (k=0):=by simpa using f4
  exact AO hC T zB p2 (by lia) lb (by lia) mb (by lia) (by have:=q1 (k-1) (by lia);lia)
 .rw[ap kp];have e:k=na:=by lia
  subst e;exact AO hC T zB h la lb ma mb li (by have:=q1 (k-1) (by lia);lia)
theorem xb{st:SortSt}{a b:Array Keyed}{Q:Array Keyed->SortSt->Prop}(hC:vg prog w A s κ a₀ key)(hB:SM κ ar pd st)(T:w5 key a₀ a b)(h:∀out aU,Fi key a b out->SM κ ar pd aU->Q out aU):wpS (model prog w) A E s (qV a b) Q st:=by
 have a1:=T.a1;have b1:=T.b1;rw[w9];refine av (lY (iZ ⟨rfl,?_⟩));refine av (bo (dt a (a.size-1) (by lia)) ?_);dsimp only;have p0:HI key a b #[a[a.size-1]] (a.size-1) b.size:=by
  have:HI key a b #[] a.size b.size:=⟨by unfold PH;simp,List.Pairwise.nil,fun x hx=>by simp at hx,fun x hx=>by simp at hx⟩
  exact this.ik a1 (by lia) T.sa fun _=>T.c1 _ (by lia)
 by_cases e1:(a.size-1==0)=true
 .rw[ao e1];exact aN (h _ _ (T.xa p0 (by lia) (by lia) (.inl (by simpa using e1))) hB)
 rw[ap e1];have n1:¬ (a.size-1=0):=by simpa using e1
 by_cases e2:(b.size==1)=true
 .rw[ao e2];exact aN (h _ _ (T.first p0 (by lia) (by simpa using e2)) hB)
 rw[ap e2];have n2:¬ (b.size=1):=by simpa using e2
 refine av (gk ?_);refine av (dD (fV (I:=fun i c aU=>SM κ ar pd aU/\∃na nb out mg,c=(none,na,nb,out,mg)/\HI key a b out na nb/\1<=na/\2<=nb/\na<=a.size/\nb<=b.size/\i+na+nb<=a.size+b.size) (Q:=fun c aU=>SM κ ar pd aU/\∃r c',c=(some r,c')/\Fi key a b r) ?_ ?_ ⟨hB,_,_,_,_,rfl,p0,by lia,by lia,by lia,by lia,by lia⟩) ?_)
 .rintro i c C2 _ hi ⟨HG,na,nb,out,mg,rfl,p1,la,lb,ma,mb,li⟩;dsimp only;refine av (dD (fV (I:=fun x c aU=>SM κ ar pd aU/\∃na nb out ac bc,c=(none,na,nb,out,ac,bc)/\HI key a b out na nb/\1<=na/\2<=nb/\na<=a.size/\nb<=b.size/\i+x+na+nb<=a.size+b.size) (Q:=fun c aU=>SM κ ar pd aU/\((∃r c',c=(some r,c')/\Fi key a b r)\/∃na nb out ac bc,c=(none,na,nb,out,ac,bc)/\HI key a b out na nb/\1<=na/\2<=nb/\na<=a.size/\nb<=b.size/\i+1+na+nb<=a.size+b.size)) ?_ ?_ ⟨HG,_,_,_,_,_,rfl,p1,la,lb,ma,mb,by lia⟩) ?_)
  .rintro x c iH _ hx ⟨hJ,na,nb,out,ac,bc,rfl,p1,la,lb,ma,mb,li⟩;dsimp only;refine av (bo (dt b (nb-1) (by lia)) ?_);refine av (bo (dt a (na-1) (by lia)) ?_);refine av (qW hC hJ.kind (T.hb _ (by simp)) (T.ha _ (by simp)) ?_);rw[<-cT (key:=key) (a:=b) (i:=nb-1) (by lia),<-cT (key:=key) (a:=a) (i:=na-1) (by lia)];by_cases aw:kk key b (nb-1)<kk key a (na-1)
   .rw[bB aw];dsimp only;rw[ao rfl];refine av (bo (dt a (na-1) (by lia)) ?_);have p2:=p1.ik (show 1<=na by lia) (show na-1<a.size by lia) T.sa fun _=>by lia
    by_cases f1:(na-1==0)=true
    .rw[ao f1];exact aN ⟨hJ,.inl ⟨_,_,rfl,T.xa p2 (by lia) (by lia) (.inl (by simpa using f1))⟩⟩
    rw[ap f1];have g1:¬ (na-1=0):=by simpa using f1
    split
    .exact aN ⟨hJ,.inr ⟨_,_,_,_,_,rfl,p2,by lia,by lia,by lia,by lia,by lia⟩⟩
    .exact aN ⟨hJ,_,_,_,_,_,rfl,p2,by lia,by lia,by lia,by lia,by lia⟩
   .rw[cH aw];dsimp only;rw[ap (by decide)];refine av (bo (dt b (nb-1) (by lia)) ?_);have p2:=p1.tG (show 1<=nb by lia) (show nb-1<b.size by lia) T.sb fun _=>by lia
    by_cases f1:(nb-1==1)=true
    .rw[ao f1];exact aN ⟨hJ,.inl ⟨_,_,rfl,T.first p2 (by lia) (by simpa using f1)⟩⟩
    rw[ap f1];have g1:¬ (nb-1=1):=by simpa using f1
    split
    .exact aN ⟨hJ,.inr ⟨_,_,_,_,_,rfl,p2,by lia,by lia,by lia,by lia,by lia⟩⟩
    .exact aN ⟨hJ,_,_,_,_,_,rfl,p2,by lia,by lia,by lia,by lia,by lia⟩
  .rintro c iH ⟨hJ,na,nb,out,ac,bc,rfl,p1,la,lb,ma,mb,li⟩;exact⟨hJ,.inr ⟨_,_,_,_,_,rfl,p1,la,lb,ma,mb,by lia⟩⟩
  .rintro c iH ⟨hJ,⟨r,c',rfl,hp⟩|⟨na,nb,out,ac,bc,rfl,p1,la,lb,ma,mb,li⟩⟩
   .exact aN ⟨hJ,_,_,rfl,hp⟩
   .dsimp only;refine av (lY (iZ ⟨rfl,?_⟩));refine av (dD (fV (I:=fun x c aU=>SM κ ar pd aU/\∃na nb out mg ac bc,c=(none,na,nb,out,mg,ac,bc)/\HI key a b out na nb/\1<=na/\2<=nb/\na<=a.size/\nb<=b.size/\i+1+na+nb<=a.size+b.size) (Q:=fun c aU=>SM κ ar pd aU/\((∃r c',c=(some r,c')/\Fi key a b r)\/∃na nb out mg ac bc,c=(none,na,nb,out,mg,ac,bc)/\HI key a b out na nb/\1<=na/\2<=nb/\na<=a.size/\nb<=b.size/\i+1+na+nb<=a.size+b.size)) ?_ ?_ ⟨hJ,_,_,_,_,_,_,rfl,p1,la,lb,ma,mb,li⟩) ?_)
    .rintro x c iH _ hx ⟨hJ,na,nb,out,mg,ac,bc,rfl,p1,la,lb,ma,mb,li⟩;change wpS (model prog w) A E s (if mg > 1 then Tc a b na nb out (mg-1) ac bc else Tc a b na nb out mg ac bc) _ iH;split <;>
     .refine dD (HK hC T hJ p1 la lb ma mb li) ?_;rintro r aU ⟨m,⟨x,c,rfl,hf⟩|⟨na,nb,out,mg,ac,bc,rfl|rfl,hh⟩⟩
      .exact⟨m,.inl ⟨_,_,rfl,hf⟩⟩
      .exact⟨m,.inr ⟨_,_,_,_,_,_,rfl,hh⟩⟩
      .exact⟨m,_,_,_,_,_,_,rfl,hh⟩
    .rintro c iH ⟨hJ,hh⟩;exact⟨hJ,.inr hh⟩
    .rintro c iH ⟨hJ,⟨r,c',rfl,hp⟩|⟨na,nb,out,mg,ac,bc,rfl,p1,la,lb,ma,mb,li⟩⟩
     .exact aN ⟨hJ,_,_,rfl,hp⟩
     .dsimp only;rw[eG];refine av (fJ ?_);exact aN ⟨⟨hJ.arr,hJ.kind,hJ.failed,hJ.pend⟩,_,_,_,_,rfl,p1,la,lb,ma,mb,li⟩
 .rintro c C2 ⟨HG,na,nb,out,mg,rfl,p1,la,lb,ma,mb,li⟩;lia
 .rintro c C2 ⟨HG,r,c',rfl,hp⟩;exact aN (h r C2 hp HG)
end
abbrev Me:=Nat×Nat×Nat
def gx(key:Keyed->Int)(a:Array Keyed):List Me->Nat->Nat->Prop
 |[],s,e=>s=e
 |r::rs,s,e=>r.1=s/\1<=r.2.1/\So key a s (s+r.2.1)/\gx key a rs (s+r.2.1) e
section
variable {key:Keyed->Int} {a:Array Keyed}
theorem gx.le:∀ {l:List Me} {s e:Nat},gx key a l s e->s+l.length<=e
 |[],_,_,h=>uF h
 |r::rs,s,e,⟨_,h2,_,h3⟩=>by have:=h3.le;rw[cG];lia
theorem So.keep(h:So key a s e)(k:∀i,s<=i->i<e->a'[i]?=a[i]?):So key a' s e:=fun i j h1 h2 h3=>by
 rw[f_ (k i h1 (by lia)),f_ (k j (by lia) h3)];exact h i j h1 h2 h3
theorem gx.keep:∀ {l:List Me} {s e:Nat},gx key a l s e->(∀i,s<=i->i<e->a'[i]?=a[i]?)->gx key a' l s e
 |[],_,_,h,_=>h
 |r::rs,s,e,⟨h1,h2,h3,h4⟩,k=>by
  have:=h4.le;exact⟨h1,h2,h3.keep fun i a b=>k i a (by lia),h4.keep fun i a b=>k i (by lia) b⟩
theorem gx.two:∀ {l:List Me} {s e i:Nat} {x y:Me},gx key a l s e->l[i]?=some x->l[i+1]?=some y->
  s<=x.1/\x.1+x.2.1=y.1/\y.1+y.2.1<=e/\1<=x.2.1/\1<=y.2.1/\So key a x.1 y.1/\So key a y.1 (y.1+y.2.1)/\∀p a',mq a a' x.1 (y.1+y.2.1)->So key a' x.1 (y.1+y.2.1)->gx key a' ((l.set i (x.1,x.2.1+y.2.1,p)).eraseIdx (i+1)) s e
 |r::q::rs,s,e,0,x,y,⟨h1,h2,h3,h4,h5,h6,h7⟩,hx,hy=>by
  obtain rfl:=aY hx;obtain rfl:=aY hy;have:=h7.le;rw[h1,h4];refine⟨ba _,rfl,by lia,h2,h5,h3,h6,fun p a' o so=>⟨rfl,by show 1<=r.2.1+q.2.1;lia,?_,?_⟩⟩
  .show So key a' s (s+(r.2.1+q.2.1));rw[<-uC];exact so
  .show gx key a' rs (s+(r.2.1+q.2.1)) e;rw[<-uC];exact h7.keep fun i a b=>o i (.inr a)
 |r::rs,s,e,i+1,x,y,⟨h1,h2,h3,h4⟩,hx,hy=>by
  obtain⟨a0,a1,a2,a3,a4,a5,a6,a7⟩:=gx.two (i:=i) h4 hx hy;exact⟨by lia,a1,a2,a3,a4,a5,a6,fun p a' o so=>⟨h1,h2,h3.keep fun i a b=>o i (.inl (by lia)),a7 p a' o so⟩⟩
theorem gx.push:∀ {l:List Me} {s e n p:Nat},gx key a l s e->1<=n->So key a e (e+n)->gx key a (l++[(e,n,p)]) s (e+n)
 |[],s,e,n,p,h,hn,so=>⟨h.symm,hn,by rw[show s=e from h];exact so,by rw[show s=e from h];rfl⟩
 |r::rs,s,e,n,p,⟨h1,h2,h3,h4⟩,hn,so=>⟨h1,h2,h3,gx.push h4 hn so⟩
theorem gx.pw:∀ {l:List Me} {s e:Nat} (i p:Nat),gx key a l s e->gx key a (l.modify i fun r=>(r.1,r.2.1,p)) s e
 |[],s,e,i,p,h=>by cases i <;> exact h
 |r::rs,s,e,0,p,⟨h1,h2,h3⟩=>⟨h1,h2,h3⟩
 |r::rs,s,e,i+1,p,⟨h1,h2,h3,h4⟩=>⟨h1,h2,h3,gx.pw i p h4⟩
end
theorem HL{M:Model}{A:Around}{E:Value->Shared->Prop}{s:Shared}{σ:Type}{x:σ}{Q:PUnit->σ->Prop}{st:σ}(h:Q ⟨⟩ x):wpS M A E s (set x:StateT σ Sem PUnit) Q st:=by
 unfold wpS;rw[StateT.run_set];exact wpAny_pure ⟨rfl,h⟩
theorem xc(i:Nat):mergeAt' i=(do
 let s <- get
 let (some (sa,na,Qh),some (sb,nb,_)):=((pendingOf s)[i]?,(pendingOf s)[i+1]?)|unsupported "internal:list.sort.pending"
 set (setPending s (((pendingOf s).setIfInBounds i (sa,na+nb,Qh)).eraseIdxIfInBounds (i+1)))
 let some k <- eX false (<-elem' (arrOf s) sb) (arrOf s) sa na 0|return false
 let (sa,na):=(sa+k,na-k)
 if na==0 then return true
 let some nb <- eX true (<-elem' (arrOf s) (sa+na-1)) (arrOf s) sb nb (nb-1)|return false
 if nb==0 then return true
 let x:=(arrOf s).extract sa sb
 let y:=(arrOf s).extract sb (sb+nb)
 let merged <- if na<=nb then qU x y else qV x y
 modify fun s=>setArr s (merged.toList.zipIdx.foldl (fun a (p,j)=>a.setIfInBounds (sa+j) p) (arrOf s))
 return (failedOf (<-get)).isNone):=rfl
theorem q9:∀ (l:List Keyed) (k:Nat) (arr:Array Keyed),sa+k+l.length<=arr.size->
  ((l.zipIdx k).foldl (fun (a:Array Keyed) (x:Keyed×Nat)=>a.setIfInBounds (sa+x.2) x.1) arr).toList=arr.toList.take (sa+k)++l++arr.toList.drop (sa+k+l.length)
 |[],k,arr,_=>by simp
 |x::l,k,arr,h=>by
  rw[cG] at h;have hs:sa+k<arr.toList.length:=by rw[iE];lia
  rw[List.zipIdx_cons,jO,q9 l (k+1) _ (by rw[Array.size_setIfInBounds];lia),xU];dsimp only;have e1:(arr.toList.set (sa+k) x).take (sa+(k+1))=arr.toList.take (sa+k)++[x]:=by
   rw[<-uC,hX,pX hs,List.take_set_of_le (ba _)];rfl
  have e2:(arr.toList.set (sa+k) x).drop (sa+(k+1)+l.length)=arr.toList.drop (sa+k+(x::l).length):=by
   rw[List.drop_set_of_lt (by lia),cG];congr 1;lia
  rw[e1,e2,jr,jr,jr];rfl
section
variable {prog:Program} {w:World} {A:Around} {E:Value->Shared->Prop} {s:Shared} {κ:SortKind} {a₀:Array Keyed} {key:Keyed->Int}
theorem vk:kk key a i=(a.toList[i]?.map key).getD 0:=by unfold kk;rw[lm]
theorem iz(h:k<j-i):kk key (a.extract i j) k=kk key a (i+k):=by
 rw[vk,vk,fv,List.getElem?_take,ao h,List.getElem?_drop]
def SR(κ:SortKind)(a₀:Array Keyed)(key:Keyed->Int)(lo:Nat)(st:SortSt):Prop:=∃pd,SQ κ a₀ pd st/\gx key (arrOf st) pd.toList 0 lo/\lo<=a₀.size
theorem HN(h1:sa+k<=sb)(h2:sb+k2<=e)(he:e<=a.size)(hl:out.length=sb+k2-(sa+k))(wl:a'.toList=a.toList.take (sa+k)++out++a.toList.drop (sb+k2))(s1:So key a sa sb)(s2:So key a sb e)(so:out.Pairwise fun x y=>key x<=key y)(g1:∀i,sa<=i->i<sa+k->kk key a i<=b)(g2:∀i,sb+k2<=i->i<e->t<=kk key a i)(go:∀x∈out,b<=key x/\key x<=t)(gb:∀i,sb+k2<=i->i<e->b<=kk key a i):
  So key a' sa e/\mq a a' sa e:=by
 have tl:(a.toList.take (sa+k)).length=sa+k:=by rw[iG,iE];lia
 have p1:∀i,i<sa+k->a'[i]?=a[i]?:=fun i hi=>by
  rw[<-lm,wl,jr,iC (by rw[tl];exact hi),List.getElem?_take,ao hi,lm]
 have p3:∀i,sb+k2<=i->a'[i]?=a[i]?:=fun i hi=>by
  rw[<-lm,wl,oz (by rw[cr,tl,hl];lia),cr,tl,hl,List.getElem?_drop,lm];congr 1;lia
 have p2:∀i,sa+k<=i->i<sb+k2->∃h:i-(sa+k)<out.length,kk key a' i=key out[i-(sa+k)]:=fun i hi mn=>by
  have hh:i-(sa+k)<out.length:=by lia
  refine⟨hh,?_⟩;rw[vk,wl,jr,oz (by rw[tl];exact hi),tl,iC hh,bY hh];rfl
 refine⟨fun i j hi HD hj=>?_,fun i hi=>?_⟩
 .by_cases c1:i<sa+k
  .rw[f_ (p1 i c1)];by_cases c2:j<sa+k
   .rw[f_ (p1 j c2)];exact s1 i j hi HD (by lia)
   .have:=g1 i hi c1;by_cases c3:j<sb+k2
    .obtain⟨hh,e⟩:=p2 j (by lia) c3;have:=(go _ (gJ hh)).1;rw[e];lia
    .rw[f_ (p3 j (by lia))];have:=gb j (by lia) hj;lia
  .by_cases c2:i<sb+k2
   .obtain⟨hh,ei⟩:=p2 i (by lia) c2;rw[ei];by_cases c3:j<sb+k2
    .obtain⟨hh',ej⟩:=p2 j (by lia) c3;rw[ej];by_cases c4:i=j
     .subst c4;exact lV _
     .exact pQ.mp so _ _ hh hh' (by lia)
    .rw[f_ (p3 j (by lia))];have:=(go _ (gJ hh)).2;have:=g2 j (by lia) hj;lia
   .rw[f_ (p3 i (by lia)),f_ (p3 j (by lia))];exact s2 i j (by lia) HD hj
 .rcases hi with hi|hi
  .exact p1 i (by lia)
  .exact p3 i (by lia)
theorem j_{st:SortSt}{i lo:Nat}{Q:Bool->SortSt->Prop}(hC:vg prog w A s κ a₀ key)(hB:SR κ a₀ key lo st)(hi:i+1<(pendingOf st).size)(h:∀aU,SR κ a₀ key lo aU->mq (arrOf st) (arrOf aU) 0 lo->(pendingOf aU).size+1=(pendingOf st).size->Q true aU):wpS (model prog w) A E s (mergeAt' i) Q st:=by
 obtain⟨pd,hq,hr,wF⟩:=hB;rw[hq.pend] at hi h;rw[xc];refine av (gk ?_);have e1:pd[i]?=some pd[i]:=dt pd i (by lia);have e2:pd[i+1]?=some pd[i+1]:=dt pd (i+1) hi;obtain⟨_,a1,a2,a3,a4,b1,b2,a5⟩:=hr.two (i:=i) (x:=pd[i]) (y:=pd[i+1]) (by simpa using e1) (by simpa using e2);rw[hq.pend,e1,e2];revert a1 a2 a3 a4 a5 b1 b2;generalize pd[i]=x;generalize pd[i+1]=y;obtain⟨sa,na,pw⟩:=x;obtain⟨sb,nb,pw2⟩:=y;intro a1 a2 a3 a4 b1 b2 a5;dsimp only at a1 a2 a3 a4 a5 b1 b2 |-;obtain⟨Gp,Mf⟩:∃Gp,Gp=(pd.setIfInBounds i (sa,na+nb,pw)).eraseIdxIfInBounds (i+1):=⟨_,rfl⟩
 have YQ:Gp.size+1=pd.size:=by
  rw[Mf,<-iE,C7,xU,List.length_eraseIdx,lM,ao (by simpa using hi),iE];lia
 have vU:∀a',mq (arrOf st) a' sa (sb+nb)->So key a' sa (sb+nb)->gx key a' Gp.toList 0 lo:=by
  intro a' o so;rw[Mf,C7,xU];exact a5 pw a' o so
 refine av (HL ?_);rw[<-Mf];have Kc:SM κ (arrOf st) Gp (setPending st Gp):=⟨rfl,hq.kind,hq.failed,rfl⟩
 have hsz:=hq.size;have tE:∀x∈(arrOf st).toList,x∈a₀.toList:=fun x hx=>(lj.mp hq.perm).mem_iff.mp hx;have fin:∀aU,SM κ (arrOf st) Gp aU->So key (arrOf st) sa (sb+nb)->Q true aU:=fun aU m so=>h aU ⟨Gp,⟨by rw[m.arr];exact hq.perm,m.kind,m.failed,m.pend⟩,by rw[m.arr];exact vU _ mq.refl so,wF⟩ (by rw[m.arr];exact mq.refl) (by rw[m.pend];exact YQ);refine av (bo (dt (arrOf st) sb (by lia)) ?_);refine av (fO hC Kc.kind (tE _ (by simp)) tE (by lia) (by lia) (by rw[a1];exact b1) fun k hk q1 q2=>?_);rw[<-cT (key:=key) (a:=arrOf st) (i:=sb) (by lia)] at q1 q2;simp only[qZ,mz,fK] at q1 q2;dsimp only;by_cases f1:(na-k==0)=true
 .rw[ao f1];have g1:na-k=0:=by simpa using f1
  refine aN (fin _ Kc fun i j h1 h2 h3=>?_);by_cases c1:j<sb
  .exact b1 i j h1 h2 c1
  .by_cases c2:i<sb
   .have:=q1 (i-sa) (by lia);rw[show sa+(i-sa)=i by lia] at this;have:=b2 sb j (by lia) (by lia) h3;lia
   .exact b2 i j (by lia) h2 h3
 rw[ap f1];have g1:¬ (na-k=0):=by simpa using f1
 have el:sa+k+(na-k)-1=sb-1:=by lia
 rw[el];refine av (bo (dt (arrOf st) (sb-1) (by lia)) ?_);refine av (fO hC Kc.kind (tE _ (by simp)) tE (by lia) (by lia) b2 fun k2 Eo q3 q4=>?_);rw[<-cT (key:=key) (a:=arrOf st) (i:=sb-1) (by lia)] at q3 q4;simp only[qZ,i6] at q3 q4;dsimp only;by_cases f2:(k2==0)=true
 .rw[ao f2];have g2:k2=0:=by simpa using f2
  refine aN (fin _ Kc fun i j h1 h2 h3=>?_);by_cases c1:j<sb
  .exact b1 i j h1 h2 c1
  .by_cases c2:i<sb
   .have:=q4 (j-sb) (by lia) (by lia);rw[show sb+(j-sb)=j by lia] at this;have:=b1 i (sb-1) h1 (by lia) (by lia);lia
   .exact b2 i j (by lia) h2 h3
 rw[ap f2];have g2:¬ (k2=0):=by simpa using f2
 have sx:((arrOf st).extract (sa+k) sb).size=sb-(sa+k):=by rw[Array.size_extract];lia
 have sy:((arrOf st).extract sb (sb+k2)).size=k2:=by rw[Array.size_extract];lia
 have T:w5 key a₀ ((arrOf st).extract (sa+k) sb) ((arrOf st).extract sb (sb+k2)):=by
  refine⟨fun x hx=>tE x (by rw[fv] at hx;exact uh (oC hx)),fun x hx=>tE x (by rw[fv] at hx;exact uh (oC hx)),by lia,by lia,fun i j h1 h2 h3=>?_,fun i j h1 h2 h3=>?_,?_,fun i hi=>?_⟩
  .rw[sx] at h3;rw[iz (by lia),iz (by lia)];exact b1 _ _ (by lia) (by lia) (by lia)
  .rw[sy] at h3;rw[iz (by lia),iz (by lia)];exact b2 _ _ (by lia) (by lia) (by lia)
  .rw[iz (by lia),iz (by lia)];have:=q2 k (by lia) (by lia);rw[iq,iq];lia
  .rw[sy] at hi;rw[sx,iz (by lia),iz (by lia)];have:=q3 i hi;rw[show sa+k+(sb-(sa+k)-1)=sb-1 by lia];lia
 have last:∀ (out:Array Keyed) (aU:SortSt),Fi key ((arrOf st).extract (sa+k) sb) ((arrOf st).extract sb (sb+k2)) out->SM κ (arrOf st) Gp aU->wpS (model prog w) A E s (do
   modify fun s=>setArr s (out.toList.zipIdx.foldl (fun a (p,j)=>a.setIfInBounds (sa+k+j) p) (arrOf s))
   return (failedOf (<-get)).isNone) Q aU:=by
  intro out aU hF m;obtain⟨hp,so⟩:=hF;refine av (fJ ?_);refine av (gk (aN ?_));have YR:out.toList.length=sb-(sa+k)+k2:=by
   rw[iE,hp.size_eq,Array.size_append,sx,sy]
  have wl:=q9 (sa:=sa+k) out.toList 0 (arrOf aU) (by rw[m.arr,YR];lia);have e3:sa+k+(sb-(sa+k)+k2)=sb+k2:=by lia
  rw[m.arr,YR,iq,e3] at wl;have Gm:=lj.mp hp;rw[oF] at Gm;have pm:(out.toList.zipIdx.foldl (fun a (p,j)=>a.setIfInBounds (sa+k+j) p) (arrOf st)).Perm (arrOf st):=by
   rw[lj];refine(uy wl).trans ?_;rw[fv,fv] at Gm;refine((Gm.append_left _).append_right _).trans ?_;have e1:(arrOf st).toList.drop (sa+k)=((arrOf st).toList.drop (sa+k)).take (sb-(sa+k))++(arrOf st).toList.drop sb:=w_ (by lia);have e2:(arrOf st).toList.drop sb=((arrOf st).toList.drop sb).take (sb+k2-sb)++(arrOf st).toList.drop (sb+k2):=w_ (by lia);refine uy ?_;conv=>rhs;rw[<-yd (sa+k) (arrOf st).toList,e1,e2]
   simp only[jr]
  have hf:(failedOf aU).isNone=true:=by rw[m.failed];rfl
  show Q (failedOf aU).isNone _;rw[hf];have go:∀x∈out.toList,kk key (arrOf st) sb<=key x/\key x<=kk key (arrOf st) (sb-1):=by
   intro x hx;rcases bg.mp (Gm.mem_iff.mp hx) with z|z
   .obtain⟨n,hn,rfl⟩:=m7.mp z;rw[iE] at hn;have e:key (((arrOf st).extract (sa+k) sb).toList[n]'(by rw[iE];exact hn))=kk key (arrOf st) (sa+k+n):=by
     rw[<-iz (i:=sa+k) (j:=sb) (by lia),cT hn,yh]
    rw[e];have h1:=q2 (k+n) (by lia) (by lia);rw[<-uC] at h1;have h2:=b1 (sa+k+n) (sb-1) (by lia) (by lia) (by lia);lia
   .obtain⟨n,hn,rfl⟩:=m7.mp z;rw[iE] at hn;have e:key (((arrOf st).extract sb (sb+k2)).toList[n]'(by rw[iE];exact hn))=kk key (arrOf st) (sb+n):=by
     rw[<-iz (i:=sb) (j:=sb+k2) (by lia),cT hn,yh]
    rw[e];have h1:=q3 n (by lia);have h2:=b2 sb (sb+n) (by lia) (by lia) (by lia);lia
  have bk:=HN (key:=key) (a:=arrOf st) (a':=out.toList.zipIdx.foldl (fun a (p,j)=>a.setIfInBounds (sa+k+j) p) (arrOf st)) (out:=out.toList) (sa:=sa) (k:=k) (sb:=sb) (k2:=k2) (e:=sb+nb) (by lia) (by lia) (by lia) (by lia) wl b1 b2 so (b:=kk key (arrOf st) sb) (t:=kk key (arrOf st) (sb-1))
   (fun i h1 h2=>by have:=q1 (i-sa) (by lia);rw[show sa+(i-sa)=i by lia] at this;lia) (fun i h1 h2=>by have:=q4 (i-sb) (by lia) (by lia);rw[show sb+(i-sb)=i by lia] at this;lia) go (fun i h1 h2=>b2 sb i (by lia) (by lia) h2)
  have ea:arrOf (setArr aU (out.toList.zipIdx.foldl (fun a (p,j)=>a.setIfInBounds (sa+k+j) p) (arrOf aU)))=out.toList.zipIdx.foldl (fun a (p,j)=>a.setIfInBounds (sa+k+j) p) (arrOf st):=by rw[m.arr]
  refine h _ ⟨Gp,⟨by rw[ea];exact pm.trans hq.perm,m.kind,m.failed,m.pend⟩,by rw[ea];exact vU _ bk.2 bk.1,wF⟩ (by rw[ea];exact bk.2.wide (by lia) (by lia)) (by show (pendingOf aU).size+1=_;rw[m.pend];exact YQ)
 by_cases f3:na-k<=k2
 .rw[ao f3];exact av (w6 hC Kc T fun out aU hp m=>last out aU hp m)
 .rw[ap f3];exact av (xb hC Kc T fun out aU hp m=>last out aU hp m)
theorem xf[Decidable c]:(if c then x-1 else x)<=x:=by split <;> lia
theorem SR.pw{lo:Nat}{st:SortSt}(h:SR κ a₀ key lo st)(i p:Nat):SR κ a₀ key lo (setPending st ((pendingOf st).modify i fun r=>(r.1,r.2.1,p))):=by
 obtain⟨pd,hq,hr,hl⟩:=h;refine⟨_,⟨hq.perm,hq.kind,hq.failed,rfl⟩,?_,hl⟩;show gx key (arrOf st) ((pendingOf st).modify i fun r=>(r.1,r.2.1,p)).toList 0 lo;rw[hq.pend,Array.toList_modify];exact hr.pw i p
theorem SR.push{lo n:Nat}{st:SortSt}(h:SR κ a₀ key lo st)(h1:1<=n)(hn:lo+n<=a₀.size)(so:So key (arrOf st) lo (lo+n)):SR κ a₀ key (lo+n) (setPending st ((pendingOf st).push (lo,n,0))):=by
 obtain⟨pd,hq,hr,hl⟩:=h;refine⟨_,⟨hq.perm,hq.kind,hq.failed,rfl⟩,?_,hn⟩;show gx key (arrOf st) ((pendingOf st).push (lo,n,0)).toList 0 (lo+n);rw[hq.pend,jt];exact hr.push h1 so
theorem Cq{st:SortSt}{Q:Unit->SortSt->Prop}(hC:vg prog w A s κ a₀ key)(hp:(arrOf st).Perm a₀)(hk:kindOf st=κ)(hf:failedOf st=none)(hpd:pendingOf st=#[])(h:∀aU,(arrOf aU).Perm a₀->failedOf aU=none->So key (arrOf aU) 0 a₀.size->Q () aU):wpS (model prog w) A E s sortRuns' Q st:=by
 have h0:SR κ a₀ key 0 st:=⟨#[],⟨hp,hk,hf,hpd⟩,rfl,dv _⟩
 have hsz:(arrOf st).size=a₀.size:=hp.size_eq;rw[sortRuns'_eq];refine av (gk ?_);dsimp only;rw[hsz];refine av (dD (fV (I:=fun i c aU=>∃lo,c=(none,lo)/\SR κ a₀ key lo aU/\i<=lo) (Q:=fun c aU=>∃lo,c=(none,lo)/\SR κ a₀ key lo aU/\a₀.size<=lo) ?_ (fun c aU ⟨lo,a,b,c⟩=>⟨lo,a,b,by lia⟩) ⟨0,rfl,h0,by lia⟩) ?_)
 .rintro i c C2 _ _ ⟨lo,rfl,hR,hil⟩;by_cases e1:lo>=a₀.size
  .dsimp only;rw[ao e1];exact aN ⟨lo,rfl,hR,e1⟩
  have wF:lo<a₀.size:=by lia
  obtain⟨pd,hq,hr,hl⟩:=hR;dsimp only;rw[ap e1];refine av (Cp hC (by lia) (by lia) hq fun n iH SX n1 n2 so ou=>?_);have Os:gx key (arrOf iH) pd.toList 0 lo:=hr.keep fun i _ h2=>ou i (.inl h2);dsimp only;by_cases hm:n<minRun' a₀.size a₀.size 0
  .rw[ao hm];refine av (lY (iZ ⟨rfl,?_⟩));refine av (HC hC (by lia) (by lia) SX so fun uM Yu YS Ep=>?_);simp only[uD,mz,fK];have vV:SR κ a₀ key lo uM:=⟨pd,Yu,Os.keep fun i _ h2=>Ep i (.inl h2),hl⟩
   refine av (gk ?_);cases hb:(pendingOf uM).back? with
   |none=>
    dsimp only;exact av (fJ (aN ⟨_,rfl,SR.push vV (by lia) (by lia) YS,by lia⟩))
   |some r=>
    obtain⟨s1,n1',pw1⟩:=r;dsimp only;refine av (dD (fV (I:=fun _ c aU=>c=(none,())/\SR κ a₀ key lo aU/\So key (arrOf aU) lo (lo+min (a₀.size-lo) (minRun' a₀.size a₀.size 0))) (Q:=fun c aU=>c=(none,())/\SR κ a₀ key lo aU/\So key (arrOf aU) lo (lo+min (a₀.size-lo) (minRun' a₀.size a₀.size 0))) ?_ (fun c aU hh=>hh) ⟨rfl,vV,YS⟩) ?_)
    .rintro x c rN _ _ ⟨rfl,rO,Eu⟩;refine av (gk ?_);by_cases hs:(pendingOf rN).size > 1
     .rw[ao hs,dt (pendingOf rN) ((pendingOf rN).size-2) (by lia)];generalize (pendingOf rN)[(pendingOf rN).size-2]=r4;obtain⟨_,_,Qi⟩:=r4;dsimp only;split
      .exact aN ⟨rfl,rO,Eu⟩
      .refine av (j_ hC rO (by lia) fun Ae Qj ou _=>?_);simp only[uD,mz,fK];exact aN ⟨rfl,Qj,Eu.keep fun i h1 _=>ou i (.inr h1)⟩
     .rw[ap hs];exact aN ⟨rfl,rO,Eu⟩
    .rintro c rN ⟨rfl,rO,Eu⟩;dsimp only;exact av (fJ (av (fJ (aN ⟨_,rfl,(rO.pw _ _).push (by lia) (by lia) Eu,by lia⟩))))
  .rw[ap hm];have vV:SR κ a₀ key lo iH:=⟨pd,SX,Os,hl⟩
   refine av (gk ?_);cases hb:(pendingOf iH).back? with
   |none=>
    dsimp only;exact av (fJ (aN ⟨_,rfl,SR.push vV n1 (by lia) so,by lia⟩))
   |some r=>
    obtain⟨s1,n1',pw1⟩:=r;dsimp only;refine av (dD (fV (I:=fun _ c aU=>c=(none,())/\SR κ a₀ key lo aU/\So key (arrOf aU) lo (lo+n)) (Q:=fun c aU=>c=(none,())/\SR κ a₀ key lo aU/\So key (arrOf aU) lo (lo+n)) ?_ (fun c aU hh=>hh) ⟨rfl,vV,so⟩) ?_)
    .rintro x c rN _ _ ⟨rfl,rO,Eu⟩;refine av (gk ?_);by_cases hs:(pendingOf rN).size > 1
     .rw[ao hs,dt (pendingOf rN) ((pendingOf rN).size-2) (by lia)];generalize (pendingOf rN)[(pendingOf rN).size-2]=r4;obtain⟨_,_,Qi⟩:=r4;dsimp only;split
      .exact aN ⟨rfl,rO,Eu⟩
      .refine av (j_ hC rO (by lia) fun Ae Qj ou _=>?_);simp only[uD,mz,fK];exact aN ⟨rfl,Qj,Eu.keep fun i h1 _=>ou i (.inr h1)⟩
     .rw[ap hs];exact aN ⟨rfl,rO,Eu⟩
    .rintro c rN ⟨rfl,rO,Eu⟩;dsimp only;exact av (fJ (av (fJ (aN ⟨_,rfl,(rO.pw _ _).push n1 (by lia) Eu,by lia⟩))))
 .rintro c C2 ⟨lo,rfl,hR,wF⟩;dsimp only;refine av (dD (fV (I:=fun i c aU=>c=(none,())/\SR κ a₀ key lo aU/\(pendingOf aU).size<=max 1 (a₀.size-i)) (Q:=fun c aU=>c=(none,())/\SR κ a₀ key lo aU/\(pendingOf aU).size<=1) ?_ ?_ ⟨rfl,hR,?_⟩) ?_)
  .rintro x c rN _ _ ⟨rfl,rO,hz⟩;refine av (gk ?_);by_cases hs:(pendingOf rN).size<=1
   .rw[ao hs];exact aN ⟨rfl,rO,hs⟩
   rw[ap hs];refine av (j_ hC rO ?_ fun Ae Qj _ hz5=>?_)
   .exact gq (Nat.succ_le_succ xf) (show (pendingOf rN).size-2+1<(pendingOf rN).size by lia)
   .simp only[uD,mz,fK];exact aN ⟨rfl,Qj,by lia⟩
  .rintro c rN ⟨rfl,rO,hz⟩;exact⟨rfl,rO,by lia⟩
  .obtain⟨pd,hq,hr,hl⟩:=hR;have:=hr.le;rw[hq.pend];simp at this;lia
  .rintro c rN ⟨rfl,⟨pd,hq,hr,hl⟩,hz⟩;refine aN (h _ hq.perm hq.failed ?_);rw[hq.pend] at hz;have Vm:pd.toList.length<=1:=by simpa using hz
   have e:lo=a₀.size:=by lia
   subst e;revert Vm;revert hr;cases pd.toList with
   |nil=>intro hr _ i j _ _ hj;have:0=a₀.size:=hr;lia
   |cons r rs=>
    cases rs with
    |nil=>intro hr _;obtain⟨_,_,so,e⟩:=hr;have e:0+r.2.1=a₀.size:=e;rw[<-e];exact so
    |cons r2 rs=>intro _ hz;simp at hz
end
end PyProof.Rows
namespace L2
open PySem PySem.Spec PyProof.Rows PySem.W
def jg(h:Heap)(g:Addr->Int×Int)(vs:List Value):Prop:=∀v∈vs,∃a o n t u,v=Value.ref a/\h.get? a=some o/\o.cls=.type "tuple"/\o.data=.seq #[.int (g a).1 t,.int (g a).2 u] n/\0<=(g a).2/\(g a).2<64
def pk(u:Int×Int):Int:=64*u.1+u.2
def kv(g:Addr->Int×Int)(v:Value):Int:=match v with
 |.ref a=>pk (g a)
 |_=>0
theorem jg.lZ:∀ {vs:List Value},jg h g vs->∃fs,KatTups h vs fs/\fs.length=vs.length/\∀v∈fs,∃n t,v=Value.int n t
 |[],_=>⟨[],trivial,rfl,fun v hv=>nomatch hv⟩
 |v::vs,hp=>by
  obtain⟨fs,k1,k2,k3⟩:=jg.lZ (vs:=vs) fun b hb=>hp b (cy _ hb);obtain⟨a,o,n,t,u,rfl,e,c,d,_⟩:=hp v cq;refine⟨.int (g a).1 t::fs,KatTups.cons e c d rfl k1,by simp[k2],fun v hv=>?_⟩;rcases bP.mp hv with z|z
  .exact⟨_,t,z⟩
  .exact k3 v z
section
variable {prog:Program} {w:World} {A:Around} {E:Value->Shared->Prop} {s:Shared} {g:Addr->Int×Int}
theorem Cr(hp:jg s.heap g vs):vg prog w A s (tuples' true) (vs.toArray.zip vs.toArray) (fun x=>kv g x.1):=by
 have mem:∀x∈(vs.toArray.zip vs.toArray).toList,x.1∈vs:=by
  intro x hx;rw[yC] at hx;exact(nq hx).1
 intro x y hx hy Q E' q;obtain⟨a,o,n,t1,t2,e1,eo,_,ed,a1,a2⟩:=hp x.1 (mem x hx);obtain⟨b,o',n',u1,u2,e2,eo',_,ed',b1,b2⟩:=hp y.1 (mem y hy);replace q:∀c,c=decide (kv g x.1<kv g y.1)->Q c s:=fun c e=>e ▸ q;rw[e1,e2] at q;rw[e1,e2];replace q:∀c,c=decide (64*(g a).1+(g a).2<64*(g b).1+(g b).2)->Q c s:=q;generalize (g a).1=x1 at *;generalize (g a).2=x2 at *;generalize (g b).1=y1 at *;generalize (g b).2=y2 at *;refine kat_lt eo ed eo' ed' (kat_cons (yJ ?_));by_cases h1:x1=y1
 .rw[gu.mpr h1];refine kat_yes (kat_cons (yJ ?_));by_cases h2:x2=y2
  .rw[gu.mpr h2];exact kat_yes (kat_nil (q _ (by
    have e:decide (64*x1+x2<64*y1+y2)=false:=cH (by lia);rw[e];rfl)))
  .rw[lq.mpr h2];exact kat_no (kat_one _ _ (lt_int (q _ (by congr 1;rw[eq_iff_iff];lia))))
 .rw[lq.mpr h1];exact kat_no (oneLt_int (q _ (by congr 1;rw[eq_iff_iff];lia)))
theorem HP{vs:List Value}:((vs.toArray.zip vs.toArray).map (·.2)).toList=vs:=by
 rw[qd,yC];show (vs.zip vs).map (·.2)=vs;rw[<-List.unzip_snd,List.unzip_zip_right (ba _)]
theorem Ew{l:List Value}{p:Value×Value}:p∈l.zip l->p.2=p.1:=by
 induction l with
 |nil=>intro h;cases h
 |cons x l ih=>
  intro h;rw[List.zip_cons_cons] at h;rcases bP.mp h with z|z
  .rw[z]
  .exact ih z
theorem o9(ho:s.heap.get? a=some (seqObj "list" vs.toArray n))(hp:jg s.heap g vs)(hz:vs.length<=4096)(h:∀ (out:Array Value),out.toList.Perm vs->out.toList.Pairwise (fun u v=>kv g u<=kv g v)->P (.done (.ret .none)) { s with heap:=sortedHeap s.heap a vs out }):
  wpAny (model prog w) A (Builtin.«list.sort» ⟨[.ref a],[]⟩) P E s:=by
 rw[list_sort_plain];have ha:a<s.heap.objs.size:=a_ ho;have Td:vs.toArray.size<=sizeLine:=by rw[cE,iY];lia
 refine aJ (listItems_at ho rfl ?_);refine aJ (listUpdate_at ho rfl ?_ Td (dv _));obtain⟨e1,Ot⟩:∃e1,(s.heap.update a (Obj.mapSeq fun _=>#[])).get? a=some (seqObj "list" #[] e1):=⟨_,get?_update_seq ho (fun _=>#[])⟩
 refine aJ (seqEpoch_at Ot rfl ?_);refine aJ (wpAny_newTuple ?_ (by show vs.length<=_;rw[iY];lia));refine aJ (wpAny_newList ?_ (dv _));refine jM ?_;have Ou:(((s.heap.update a (Obj.mapSeq fun _=>#[])).push (seqObj "tuple" vs.toArray 0)).push (seqObj "list" #[] 0)).get? a=some (seqObj "list" #[] e1):=by
  rw[ju _ _ _ (by rw[lX,lr];exact aZ (fk ha)),ju _ _ _ (by rw[lr];exact aZ ha)];exact Ot
 have YT:jg (((s.heap.update a (Obj.mapSeq fun _=>#[])).push (seqObj "tuple" vs.toArray 0)).push (seqObj "list" #[] 0)) g vs:=by
  intro v hv;obtain⟨b,o,n,t,u,ev,e,c,d⟩:=hp v hv;have hb:b<s.heap.objs.size:=a_ e;have jD:b≠a:=by
   rintro rfl;rw[ho] at e;cases e;exact absurd (Value.type.inj c) (by decide)
  refine⟨b,o,n,t,u,ev,?_,c,d⟩;rw[ju _ _ _ (by rw[lX,lr];exact aZ (fk hb)),ju _ _ _ (by rw[lr];exact aZ hb),qa _ _ _ _ jD];exact e
 show wpAny (model prog w) A _ P E { s with heap:=((s.heap.update a (Obj.mapSeq fun _=>#[])).push (seqObj "tuple" vs.toArray 0)).push (seqObj "list" #[] 0) };dsimp only;have fin:∀aU:SortSt,(arrOf aU).Perm (vs.toArray.zip vs.toArray)->So (fun x=>kv g x.1) (arrOf aU) 0 (arrOf aU).size->P (.done (.ret .none)) { s with heap:=sortedHeap s.heap a vs ((arrOf aU).map (·.2)) }:=by
  intro aU Ov so;refine h _ ?_ ?_
  .have:=(lj.mp Ov).map (·.2);rw[<-qd,<-qd,HP] at this;exact this
  .have same:∀p∈(arrOf aU).toList,p.2=p.1:=by
    intro p hp;have:=(lj.mp Ov).mem_iff.mp hp;rw[yC] at this;exact Ew this
   rw[qd,jq];refine pQ.mpr fun i j hi hj HD=>?_;rw[same _ (gJ hi),same _ (gJ hj)];have:=so i j (by lia) (by lia) (by simpa using hj);rw[cT (by simpa using hi),cT (by simpa using hj)] at this;simpa using this
 have VA:(vs.toArray.zip vs.toArray).size=vs.length:=by simp
 by_cases h2:vs.toArray.size<2
 .rw[ao h2,ao h2];refine aJ (wpAny_pure ?_);rw[StateT.run_pure];refine aJ (wpAny_pure ?_);dsimp only;refine aJ (seqEpoch_at Ou rfl ?_);refine aJ (listUpdate_at Ou rfl ?_ (dv _) (by show ((vs.toArray.zip vs.toArray).map (·.2)).size<=_;rw[iU,VA,iY];lia));simp only[bne_self_eq_false,mz,fK];exact wpAny_pure (fin (SortSt.mk' general' (vs.toArray.zip vs.toArray) #[] 7 none) (Array.Perm.refl _) fun i j _ h3 h4=>by
   have h4:j<(vs.toArray.zip vs.toArray).size:=h4;rw[VA] at h4;rw[cE] at h2;rw[show i=j by lia];exact lV _)
 .rw[ap h2,ap h2];have eC:2<=vs.length:=by rw[cE] at h2;lia
  obtain⟨fs,k1,k2,k3⟩:=YT.lZ;refine aJ (kat_kind (T:=.type "int") k1 (by lia) (fun v hv=>?_) rfl ?_)
  .obtain⟨m,t,rfl⟩:=k3 v hv;exact .now
  refine aJ (ir (Cq (a₀:=vs.toArray.zip vs.toArray) (κ:=tuples' true) (st:=SortSt.mk' (tuples' true) (vs.toArray.zip vs.toArray) #[] 7 none)
   (Q:=fun _ aU=>(arrOf aU).Perm (vs.toArray.zip vs.toArray)/\failedOf aU=none/\So (fun x=>kv g x.1) (arrOf aU) 0 (vs.toArray.zip vs.toArray).size) (Cr YT) (Array.Perm.refl _) rfl rfl rfl fun aU b1 b2 b3=>⟨b1,b2,b3⟩) ?_ fun _ _ e=>e)
  rintro⟨⟨⟩,aU⟩ s' ⟨rfl,Ov,hf,so⟩;dsimp only;refine aJ (seqEpoch_at Ou rfl ?_);refine aJ (listUpdate_at Ou rfl ?_ (dv _) (by refine bj (uF ((iU ..).trans (Ov.size_eq.trans VA))) ?_;rw[iY];lia));rw[hf];simp only[bne_self_eq_false,mz,fK];exact wpAny_pure (fin aU Ov (by rw[Ov.size_eq];exact so))
theorem vm(hl:s.heap.IsList l vs.toArray)(hp:jg s.heap g vs)(hz:vs.length<=4096)(h:∀ (out:Array Value),out.toList.Perm vs->out.toList.Pairwise (fun u v=>kv g u<=kv g v)->Q (.ref (s.heap.objs.size+1)) { s with heap:=sortedAll s.heap vs out }):
  wpAny (model prog w) A (call (.builtin "sorted") [.ref l]) Q E s:=by
 have Td:vs.length<=sizeLine:=by rw[iY];lia
 refine Calls.call_function_entry kind_sorted plain_sorted entry_sorted (args_sorted1 _) ?_;unfold Builtin.«sorted»;refine aJ (m:=checkCount "sorted" 1 1 _) (wpAny_pure ?_);refine aJ (collect_list hl ?_ Td);refine aJ (wpAny_newList ?_ Td);have hsz:((s.heap.push (seqObj "list" #[] 0)).update s.heap.objs.size (Obj.mapSeq (·++vs.toArray))).objs.size=s.heap.objs.size+1:=by
  rw[lr,lX]
 have JS:(((s.heap.push (seqObj "list" #[] 0)).update s.heap.objs.size (Obj.mapSeq (·++vs.toArray))).push (seqObj "list" vs.toArray 0)).get? (s.heap.objs.size+1)=some (seqObj "list" vs.toArray 0):=by
  rw[<-hsz];exact dh _ rfl
 have Vs:jg (((s.heap.push (seqObj "list" #[] 0)).update s.heap.objs.size (Obj.mapSeq (·++vs.toArray))).push (seqObj "list" vs.toArray 0)) g vs:=by
  intro v hv;obtain⟨b,o,n,t,u,ev,e,c,d⟩:=hp v hv;have hb:b<s.heap.objs.size:=a_ e;refine⟨b,o,n,t,u,ev,?_,c,d⟩;rw[ju _ _ _ (by rw[hsz];exact aZ (fk hb)),qa _ _ _ _ (aZ hb),ju _ _ _ (aZ hb)];exact e
 show wpAny _ _ _ _ _ { s with heap:=((s.heap.push (seqObj "list" #[] 0)).update s.heap.objs.size (Obj.mapSeq (·++vs.toArray))).push (seqObj "list" vs.toArray 0) };rw[hsz];refine aJ (jM (qj slot_list_sort ⟨_,JS,rfl⟩ entry_list_sort (o9 JS Vs hz fun out a1 a2=>⟨_,rfl,?_⟩) (args_list_sort _)));exact wpAny_pure ⟨_,rfl,h out a1 a2⟩
end
theorem xg:∀ {as:List Addr} {its:List Value},aX (as.map V.ref) its->its=as.map Value.ref
 |[],_,r=>by cases r;rfl
 |a::as,_,r=>by
  cases r with
  |cons r rr=>
   obtain rfl:=(show _=Value.ref a from r)
   rw[xg rr];rfl
theorem tH:∀ {as:List Addr},aX (as.map V.ref) (as.map Value.ref)
 |[]=>.nil
 |_::_=>.cons rfl tH
theorem Cs(h:vs.Perm (as.map Value.ref)):∃m6:List Addr,vs=m6.map Value.ref/\m6.Perm as:=by
 let un:Value->Addr:=fun v=>match v with|.ref a=>a|_=>0
 refine⟨vs.map un,?_,?_⟩
 .rw[ic];have:∀v∈vs,(Value.ref ∘ un) v=v:=by
   intro v hv;obtain⟨a,_,rfl⟩:=cf.mp (h.mem_iff.mp hv);rfl
  conv=>lhs;rw[<-lU vs]
  exact jI fun v hv=>(this v hv).symm
 .have:=h.map un;rw[ic] at this;have e:as.map (un ∘ Value.ref)=as:=by
   conv=>rhs;rw[<-lU as]
   exact jI fun a _=>rfl
  rw[e] at this;exact this
def Ey(K:PySem.W.Frag):List V->Hp->VK->Prop:=fun xs H Q=>∃ (l:Addr) (as:List Addr) (g:Addr->Int×Int),xs=[.ref l]/\aV K H l (as.map V.ref)/\(∀a∈as,cR K H a [.int (g a).1,.int (g a).2]/\0<=(g a).2/\(g a).2<64)/\as.length<=4096/\
 ∀ (D:Addr) (m6:List Addr),H D=none->m6.Perm as->m6.Pairwise (fun a b=>pk (g a)<=pk (g b))->Q (.ref D) (upd H D (.lst (m6.map V.ref)))
theorem zD:eU X (.builtin "sorted") (Ey X.K):=by
 intro ae s σ H xs us Q I r h;obtain⟨l,as,g,rfl,hl,hp,hz,q⟩:=h;obtain⟨u1,rfl,r1⟩:=r.one;obtain rfl:u1=Value.ref l:=r1;obtain⟨its,rv,pl,_⟩:=I.list hl;have zq:=xg rv;subst zq;have hpv:jg s.heap g (as.map Value.ref):=by
  intro v hv;obtain⟨a,ha,rfl⟩:=cf.mp hv;obtain⟨Go,b1,b2⟩:=hp a ha;obtain⟨its,r,⟨o,e,c,n,d⟩,_⟩:=I.tuple Go;obtain⟨u1,u2,rfl,r1,r2⟩:=r.two;obtain⟨t,rfl⟩:=r1;obtain⟨t',rfl⟩:=r2;exact⟨a,o,n,t,t',rfl,e,c,d,b1,b2⟩
 refine vm pl.isList hpv (by rw[aG];exact hz) fun out Qk Ql=>?_;obtain⟨m6,eo,pa⟩:=Cs Qk;have Cb:out=(m6.map Value.ref).toArray:=by rw[<-eo]
 subst Cb;have ho:m6.Pairwise (fun a b=>pk (g a)<=pk (g b)):=by
  rw[eo,jq] at Ql;exact Ql
 have VB:((s.heap.push (seqObj "list" #[] 0)).update s.heap.objs.size (Obj.mapSeq (·++(as.map Value.ref).toArray))).objs.size=s.heap.objs.size+1:=by rw[lr,lX]
 have k1:∀b u,s.heap.get? b=some u->(((s.heap.push (seqObj "list" #[] 0)).update s.heap.objs.size (Obj.mapSeq (·++(as.map Value.ref).toArray))).push (seqObj "list" (as.map Value.ref).toArray 0)).get? b=some u:=fun b u e=>by
  have hb:b<s.heap.objs.size:=a_ e;rw[ju _ _ _ (by rw[VB];exact aZ (fk hb)),qa _ _ _ _ (aZ hb),ju _ _ _ (aZ hb)];exact e
 have JS:(((s.heap.push (seqObj "list" #[] 0)).update s.heap.objs.size (Obj.mapSeq (·++(as.map Value.ref).toArray))).push (seqObj "list" (as.map Value.ref).toArray 0)).get? (s.heap.objs.size+1)=some (seqObj "list" (as.map Value.ref).toArray 0):=by
  rw[<-VB];exact dh _ rfl
 have Ow:(((s.heap.push (seqObj "list" #[] 0)).update s.heap.objs.size (Obj.mapSeq (·++(as.map Value.ref).toArray))).push (seqObj "list" (as.map Value.ref).toArray 0)).objs.size=s.heap.objs.size+2:=by rw[lX,VB]
 show EP X ae σ Q (.ref (s.heap.objs.size+1)) { s with heap:=sortedHeap (((s.heap.push (seqObj "list" #[] 0)).update s.heap.objs.size (Obj.mapSeq (·++(as.map Value.ref).toArray))).push (seqObj "list" (as.map Value.ref).toArray 0)) (s.heap.objs.size+1) (as.map Value.ref) (m6.map Value.ref).toArray };revert k1 JS Ow;generalize ((s.heap.push (seqObj "list" #[] 0)).update s.heap.objs.size (Obj.mapSeq (·++(as.map Value.ref).toArray))).push (seqObj "list" (as.map Value.ref).toArray 0)=h1;intro k1 JS Ow;obtain⟨e1,Ot⟩:∃e1,(h1.update (s.heap.objs.size+1) (Obj.mapSeq fun _=>(#[]:Array Value))).get? (s.heap.objs.size+1)=some (seqObj "list" #[] e1):=⟨_,get?_update_seq JS (fun _=>#[])⟩
 have Ou:(((h1.update (s.heap.objs.size+1) (Obj.mapSeq fun _=>(#[]:Array Value))).push (seqObj "tuple" (as.map Value.ref).toArray 0)).push (seqObj "list" #[] 0)).get? (s.heap.objs.size+1)=some (seqObj "list" #[] e1):=by
  rw[ju _ _ _ (by rw[lX,lr,Ow];exact aZ (fk (jK _))),ju _ _ _ (by rw[lr,Ow];exact aZ (jK _))];exact Ot
 obtain⟨e2,ho7⟩:∃e2,(sortedHeap h1 (s.heap.objs.size+1) (as.map Value.ref) (m6.map Value.ref).toArray).get? (s.heap.objs.size+1)=some (seqObj "list" (m6.map Value.ref).toArray e2):=⟨_,get?_update_seq Ou (fun _=>(m6.map Value.ref).toArray)⟩
 have keep:∀b u,s.heap.get? b=some u->(sortedHeap h1 (s.heap.objs.size+1) (as.map Value.ref) (m6.map Value.ref).toArray).get? b=some u:=fun b u e=>by
  have hb:b<s.heap.objs.size:=a_ e;unfold sortedHeap;rw[qa _ _ _ _ (aZ (fk hb)),ju _ _ _ (by rw[lX,lr,Ow];exact aZ (fk (fk (fk hb)))),ju _ _ _ (by rw[lr,Ow];exact aZ (fk (fk hb))),qa _ _ _ _ (aZ (fk hb))];exact k1 b u e
 have Kn:s.heap.get? (s.heap.objs.size+1)=none:=lH (by lia);refine⟨.ref (s.heap.objs.size+1),_,I.wH (t':=s.toks) (o:=.lst (m6.map V.ref)) keep Kn ⟨?_,m6.map Value.ref,e2,tH,ho7⟩,rfl,q _ m6 (I.bE.u5 Kn) pa ho⟩;rw[aG,pa.length_eq];exact bj hz (by decide)
open PySem PySem.Spec PyProof.Rows
section
variable {prog:Program} {w:World} {A:Around} {E:Value->Shared->Prop} {s:Shared}
end
section
variable {X:Cx}
end
end L2
namespace sf
abbrev Ts:=List (Int×Int)
def T(ts:Ts)(a b:Nat):Prop:=(((a:Nat):Int),((b:Nat):Int))∈ts
instance (ts:Ts) (a b:Nat):Decidable (T ts a b):=inferInstanceAs (Decidable (_∈_))
def dg(ts:Ts):Nat->Nat->Nat->Prop
 |0,a,b=>a=b
 |k+1,a,b=>∃c,dg ts k a c/\T ts c b
theorem dg.trans(h:dg ts k a b):∀ {l:Nat} {c:Nat},dg ts l b c->dg ts (k+l) a c
 |0,_,e=>by cases e;exact h
 |l+1,_,⟨d,w,t⟩=>⟨d,h.trans w,t⟩
theorem dg.one(h:T ts a b):dg ts 1 a b:=⟨a,rfl,h⟩
theorem dg.cons(h:T ts a b)(w:dg ts k b c):dg ts (k+1) a c:=by
 have:=(dg.one h).trans w;rwa [Nat.add_comm] at this
theorem dg.zE{ts:Ts}:∀ {k:Nat} {a c:Nat},dg ts (k+1) a c->∃b,T ts a b/\dg ts k b c
 |0,a,c,⟨d,e,t⟩=>by cases e;exact⟨c,t,rfl⟩
 |k+1,a,c,⟨d,w,t⟩=>by
  obtain⟨b,t',w'⟩:=dg.zE w;exact⟨b,t',d,w',t⟩
def mQ(ts:Ts)(a b d:Nat):Prop:=dg ts d a b/\∀k,dg ts k a b->d<=k
theorem mQ.uniq(h:mQ ts a b d)(g:mQ ts a b e):d=e:=Nat.le_antisymm (h.2 _ g.1) (g.2 _ h.1)
theorem Mg{ts:Ts}{a b:Nat}:∀k,dg ts k a b->∃d,mQ ts a b d:=by
 intro k;induction k using Nat.strongRecOn with
 |ind k ih=>
  intro w;by_cases h:∃j,j<k/\dg ts j a b
  .obtain⟨j,hj,wj⟩:=h;exact ih j hj wj
  .exact⟨k,w,fun j wj=>sv fun z=>h ⟨j,by lia,wj⟩⟩
open Classical in
noncomputable def far(ts:Ts)(a b:Nat):Nat:=if h:∃d,mQ ts a b d then h.choose else 0
theorem vo(h:mQ ts a b d):far ts a b=d:=by
 unfold far;have hx:∃d,mQ ts a b d:=⟨d,h⟩
 rw[dif_pos hx];exact hx.choose_spec.uniq h
theorem Mh{ts:Ts}{a b k:Nat}(w:dg ts k a b):mQ ts a b (far ts a b):=by
 obtain⟨d,h⟩:=Mg k w;rw[vo h];exact h
structure eW(n:Nat)(ts:Ts):Prop where
 n1:2<=n
 n2:n<=32
 nd:ts.Nodup
 rg:∀t∈ts,(0<=t.1/\t.1<n)/\(0<=t.2/\t.2<n)
 ne:∀t∈ts,t.1≠t.2
 Ez:∀h:Int,(ts.filter fun t=>decide (t.1=h)).length=(ts.filter fun t=>decide (t.2=h)).length
 most:∀h:Int,(ts.filter fun t=>decide (t.1=h)).length<=8
 con:∀a b,a<n->b<n->∃k,dg ts k a b
theorem Ct(f:α->Int):∀ (l:List α) (n:Nat),(∀x∈l,0<=f x/\f x<n)->(∀h:Int,(l.filter fun t=>decide (f t=h)).length<=8)->l.length<=8*n:=by
 intro l n;induction n generalizing l with
 |zero=>
  intro h _;cases l with
  |nil=>simp
  |cons x xs=>have:=h x cq;lia
 |succ n ih=>
  intro h h8;have e:l.length=(l.filter fun t=>decide (f t=(n:Int))).length+(l.filter fun t=>!decide (f t=(n:Int))).length:=by
   induction l with
   |nil=>rfl
   |cons x xs Te=>
    have:=Te (fun y hy=>h y (cy _ hy)) (fun hh=>bj (by rw[jL];split <;> simp) (h8 hh));by_cases q:f x=(n:Int) <;> simp[jL,q] <;> lia
  have i2:=ih (l.filter fun t=>!decide (f t=(n:Int))) (fun x hx=>by
   have a:=h x (bX.mp hx |>.1);have b:=(bX.mp hx).2;simp at b;lia) (fun hh=>by
   refine bj ?_ (h8 hh);exact(List.filter_sublist.filter _).length_le)
  have:=h8 (n:Int);lia
theorem eW.len(F:eW n ts):ts.length<=256:=by
 have:=Ct (·.1) ts n (fun t ht=>(F.rg t ht).1) F.most;have:=F.n2;lia
theorem eW.AQ(F:eW n ts)(h:T ts a b):a<n/\b<n/\a≠b:=by
 have q:=F.rg _ h;have q2:=F.ne _ h;refine⟨by have:=q.1;simp at this;lia,by have:=q.2;simp at this;lia,fun e=>q2 (by rw[e])⟩
theorem eW.EA{n:Nat}{ts:Ts}(F:eW n ts){a b:Nat}(ha:a<n)(hb:b<n):mQ ts a b (far ts a b):=
 let ⟨_,w⟩:=F.con a b ha hb;Mh w
def fg(n:Nat)(ts:Ts)(h:Nat):List Nat:=((List.range n).map fun s=>(h+s) % n).filter fun o=>decide (T ts h o)
theorem kd(F:eW n ts)(hh:h<n):o∈fg n ts h↔T ts h o:=by
 unfold fg;rw[bX,lJ];refine⟨fun z=>z.2,fun z=>⟨?_,z⟩⟩;obtain⟨_,h2,_⟩:=F.AQ z;refine cf.mpr ⟨if h<=o then o-h else o+n-h,bL.mpr (by split <;> lia),?_⟩;split
 .rw[show h+(o-h)=o by lia,lK h2]
 .rw[show h+(o+n-h)=o+n by lia,Nat.add_mod_right,lK h2]
theorem AR(F:eW n ts)(hh:h<n)(ho:o∈fg n ts h):o<n:=(F.AQ ((kd F hh).mp ho)).2.1
def key(n h o:Nat):Int:=((o:Int)-(h:Int)) % (n:Int)
theorem l9(hh:h<n)(hs:s<n):key n h ((h+s) % n)=(s:Int):=by
 unfold key;by_cases c:h+s<n
 .rw[lK c,show (((h+s:Nat):Int)-(h:Int))=(s:Int) by lia];exact ut (by lia) (by lia)
 .have e:(h+s) % n=h+s-n:=by
   rw[Nat.mod_eq_sub_mod (by lia),lK (by lia)]
  rw[e,show ((((h+s-n:Nat)):Int)-(h:Int))=(s:Int)-(n:Int) by lia,Int.sub_emod_right];exact ut (by lia) (by lia)
theorem xh(hh:h<n):(fg n ts h).Pairwise fun a b=>key n h a<key n h b:=by
 unfold fg;refine m8 _ ?_;refine jq.mpr ?_;refine xY ?_ (List.pairwise_lt_range (n:=n));intro a b ha hb Qm;rw[l9 hh (bL.mp ha),l9 hh (bL.mp hb)];lia
theorem oT{α:Type}{k:α->Int}:∀ {a b:List α},a.Pairwise (fun x y=>k x<k y)->b.Pairwise (fun x y=>k x<k y)->(∀x,x∈a↔x∈b)->a=b
 |[],[],_,_,_=>rfl
 |[],y::ys,_,_,h=>absurd ((h y).mpr cq) (by simp)
 |x::xs,[],_,_,h=>absurd ((h x).mp cq) (by simp)
 |x::xs,y::ys,ha,hb,h=>by
  obtain⟨a1,a2⟩:=List.pairwise_cons.mp ha;obtain⟨b1,b2⟩:=List.pairwise_cons.mp hb;have e:x=y:=by
   rcases bP.mp ((h x).mp cq) with z|z
   .exact z
   .rcases bP.mp ((h y).mpr cq) with z'|z'
    .exact z'.symm
    .have q1:=b1 x z;have q2:=a1 y z';lia
  subst e;refine congrArg (x::·) (oT a2 b2 fun z=>⟨fun hz=>?_,fun hz=>?_⟩)
  .rcases bP.mp ((h z).mp (cy _ hz)) with q|q
   .subst q;exact absurd (a1 _ hz) (by lia)
   .exact q
  .rcases bP.mp ((h z).mpr (cy _ hz)) with q|q
   .subst q;exact absurd (b1 _ hz) (by lia)
   .exact q
structure xQ(n:Nat)(ts:Ts)(s i:Nat)(R:List Nat)(f:Nat->Nat):Prop where
 nd:R.Nodup
 lt:∀x∈R,x<n
 st:s∈R
 z:f s=0
 wk:∀x∈R,dg ts (f x) s x
 up:R.Pairwise fun a b=>f a<=f b
 bd:∀u,R[i]?=some u->∀x∈R,f x<=f u+1
 cl:∀j u,j<i->R[j]?=some u->∀v,T ts u v->v∈R/\f v<=f u+1
theorem xQ.start(hs:s<n):xQ n ts s 0 [s] (fun _=>0):=
 ⟨by simp,fun x hx=>by simp at hx;lia,by simp,rfl,fun x hx=>by simp at hx;subst hx;rfl,by simp,fun u _ x _=>by lia,fun j u h=>absurd h (by lia)⟩
def put(f:Nat->Nat)(v k:Nat):Nat->Nat:=fun y=>if y=v then k else f y
theorem gR:put f v k v=k:=by simp[put]
theorem eY(h:x≠v):put f v k x=f x:=by simp[put,h]
theorem xQ.add(B:xQ n ts s i R f)(hu:R[i]?=some u)(hv:v<n)(t:T ts u v)(hn:v∉R):xQ n ts s i (R++[v]) (put f v (f u+1)):=by
 have YU:u∈R:=dW hu;have nv:∀x∈R,x≠v:=fun x hx e=>hn (e ▸ hx);have hi:i<R.length:=(cM.mp hu).1;refine⟨?_,fun x hx=>?_,hW _ B.st,by rw[eY (nv s B.st)];exact B.z,fun x hx=>?_,?_,fun w hw x hx=>?_,fun j w hj hw x hx=>?_⟩
 .rw[iF];exact⟨B.nd,by simp,fun a ha b hb e=>by simp at hb;subst hb;exact hn (e ▸ ha)⟩
 .rcases bg.mp hx with z|z
  .exact B.lt x z
  .simp at z;lia
 .rcases bg.mp hx with z|z
  .rw[eY (nv x z)];exact B.wk x z
  .simp at z;subst z;rw[gR];exact⟨u,B.wk u YU,t⟩
 .rw[ye];refine⟨B.up.imp_of_mem fun {a b} ha hb h=>by rw[eY (nv a ha),eY (nv b hb)];exact h,by simp,fun a ha b hb=>?_⟩;simp at hb;subst hb;rw[eY (nv a ha),gR];exact B.bd u hu a ha
 .have hw':w=u:=by
   rw[iC hi,hu] at hw;exact(aY hw).symm
  subst hw';rw[eY (nv w YU)];rcases bg.mp hx with z|z
  .rw[eY (nv x z)];exact B.bd w hu x z
  .simp at z;subst z;rw[gR];exact ba _
 .rw[iC (by lia)] at hw;obtain⟨a,b⟩:=B.cl j w hj hw x hx;refine⟨hW _ a,?_⟩;rw[eY (nv x a),eY (nv w (dW hw))];exact b
theorem xQ.next(B:xQ n ts s i R f)(hu:R[i]?=some u)(h:∀v,T ts u v->v∈R/\f v<=f u+1):xQ n ts s (i+1) R f:=by
 refine⟨B.nd,B.lt,B.st,B.z,B.wk,B.up,fun w hw x hx=>?_,fun j w hj hw v hv=>?_⟩
 .have h1:=B.bd u hu x hx;have h2:f u<=f w:=by
   have hi:i<R.length:=(cM.mp hu).1;have mn:i+1<R.length:=(cM.mp hw).1;have:=pQ.mp B.up i (i+1) hi mn (by lia);rw[bY hi] at hu;rw[bY mn] at hw;rw[aY hu,aY hw] at this;exact this
  lia
 .by_cases e:j=i
  .subst e;rw[hu] at hw;cases hw;exact h v hv
  .exact B.cl j w (by lia) hw v hv
theorem eJ:∀ {n:Nat} {R:List Nat},R.Nodup->(∀x∈R,x<n)->R.length<=n:=by
 intro n R hn hl;have key:∀ (a b:List Nat),a.Nodup->(∀x∈a,x∈b)->a.length<=b.length:=by
  intro a;induction a with
  |nil=>intro b _ _;exact dv _
  |cons x xs ih=>
   intro b hn hs;obtain⟨h1,h2⟩:=dq.mp hn;have hx:x∈b:=hs x cq;have:=ih (b.erase x) h2 fun y hy=>(yf (fun (e:y=x)=>h1 (e ▸ hy))).mpr (hs y (cy _ hy));rw[xW hx] at this;have:0<b.length:=pW hx;rw[cG];lia
 have:=key R (List.range n) hn fun x hx=>bL.mpr (hl x hx);rwa [fq] at this
theorem xQ.done(B:xQ n ts s i R f)(F:eW n ts)(hi:R.length<=i)(hx:x<n):x∈R/\f x=far ts s x:=by
 have cl:∀u∈R,∀v,T ts u v->v∈R/\f v<=f u+1:=fun u hu v hv=>by
  obtain⟨j,hj,e⟩:=m7.mp hu;exact B.cl j u (by lia) (by rw[bY hj,e]) v hv
 have walk:∀k x,dg ts k s x->x∈R/\f x<=k:=by
  intro k;induction k with
  |zero=>intro x e;cases e;exact⟨B.st,by rw[B.z];exact ba _⟩
  |succ k ih=>
   rintro x ⟨c,w,t⟩;obtain⟨c1,c2⟩:=ih c w;obtain⟨d1,d2⟩:=cl c c1 x t;exact⟨d1,by lia⟩
 obtain⟨k,w⟩:=F.con s x (B.lt s B.st) hx;obtain⟨m,_⟩:=walk k x w;exact⟨m,(vo ⟨B.wk x m,fun k w=>(walk k x w).2⟩).symm⟩
abbrev ci(x:Nat):Int:=(x:Int)
theorem eW.zF{n:Nat}{ts:Ts}(F:eW n ts){a b k:Nat}(ha:a<n)(hb:b<n)(w:dg ts k a b):far ts a b<=k:=(F.EA ha hb).2 k w
end sf
namespace L2
open PySem PySem.Spec PyProof.Rows
section
variable {X:Cx}
end
end L2
namespace sf
end sf
namespace dU
open PySem L2
def gG(i:Nat):Stmt:=PySem.Challenge.pw_neverwait_k63_whole_trees_by_eager_handi.main.body.getD i (.Pass ⟨0,0,0,0⟩)
abbrev n8:Stmt:=gG 8
abbrev kO:Stmt:=gG 9
abbrev zG:Stmt:=gG 10
abbrev Mi:Stmt:=gG 12
structure Bl(mg:Str->Option Value):Prop where
 EB:mg "isinstance"=none
 int:mg "int"=none
 bool:mg "bool"=none
 tup:mg "tuple"=none
 lst:mg "list"=none
 str:mg "str"=none
 set:mg "set"=none
 len:mg "len"=none
 range:mg "range"=none
 sorted:mg "sorted"=none
 any:mg "any"=none
 max:mg "max"=none
 min:mg "min"=none
 aaf:mg "ValueError"=none
 all:mg "all"=none
def EC(K:PySem.W.Frag)(H:Hp)(x:V):Prop:=∃t,PL K H x t/\(PySem.W.kitOne K t (.type "int")=some false\/(PySem.W.kitOne K t (.type "int")=some true/\PySem.W.kitOne K t (.type "bool")=some true))
theorem im:PySem.W.kitOne K (.type "int") (.type "int")=some true:=by kernel_rfl
theorem gy:PySem.W.kitOne K (.type "int") (.type "bool")=some false:=by kernel_rfl
inductive Wh (K:PySem.W.Frag) (H:Hp):V->Option Int->Prop where
 |int (i:Int):Wh K H (.int i) (some i)
 |no {x:V} (h:EC K H x):Wh K H x none
def jh(K:PySem.W.Frag):Sp:=fun vs H Q _=>∃x o,vs=[x]/\Wh K H x o/\Q (.bl o.isSome) H
section
variable {P:Program} {w:World} {K:PySem.W.Frag} {mg:Str->Option Value} {base:Heap}
theorem vp:aI ["thing"] ["thing"] (am n8):=⟨rfl,rfl,rfl,by decide +kernel,rfl,by decide +kernel,by decide +kernel⟩
theorem q_(F:fX K "is_whole" "is_whole" n8 f fd)(B:Bl mg):bz P w K mg base be 1 f fd ["thing"] (jh K):=by
 refine F.ok vp (fun vs H Q E h=>?_) (fun dQ A outer s H vs Q E hr h=>?_)
 .obtain⟨x,o,rfl,_⟩:=h;rfl
 .obtain⟨x,o,rfl,W,k⟩:=h;refine⟨_,al (aH (fL (au eV (by rfl) B.EB lf (aa (pv 0) (aa (fQ (v:=.ty "int") rfl B.int pY rfl) ag)))
   (gm (yO (au eV (by rfl) B.EB lf (aa (pv 0) (aa (fQ (v:=.ty "bool") rfl B.bool x_ rfl) ag))))))),?_⟩
  cases W with
  |int i=>
   refine⟨_,rfl,_,_,_,.type "int",true,rfl,⟨rfl,im⟩,.of (.int _),true,rfl,?_⟩;exact⟨_,rfl,_,_,_,.type "int",false,rfl,⟨rfl,gy⟩,.of (.int _),false,rfl,k⟩
  |no h=>
   obtain⟨t,ty,h|⟨h1,h2⟩⟩:=h
   .exact⟨_,rfl,_,_,_,t,false,rfl,⟨rfl,h⟩,ty,false,rfl,k⟩
   .refine⟨_,rfl,_,_,_,t,true,rfl,⟨rfl,h1⟩,ty,true,rfl,?_⟩;exact⟨_,rfl,_,_,_,t,true,rfl,⟨rfl,h2⟩,ty,true,rfl,k⟩
def iA(o:Option Int)(lo hi:Int):Bool:=match o with
 |some i=>decide (lo<=i)&&decide (i<=hi)
 |none=>false
def gc(K:PySem.W.Frag):Sp:=fun vs H Q _=>∃x o lo hi,vs=[x,.int lo,.int hi]/\Wh K H x o/\Q (.bl (iA o lo hi)) H
theorem rc:aI ["thing","least","most"] ["thing","least","most"] (am kO):=⟨rfl,rfl,rfl,by decide +kernel,rfl,by decide +kernel,by decide +kernel⟩
theorem n9(F:fX K "is_whole_within" "is_whole_within" kO f fd)(W:cp P w K mg base be 1 "is_whole" ["thing"] (jh K)):bz P w K mg base be 2 f fd ["thing","least","most"] (gc K):=by
 refine F.ok rc (fun vs H Q E h=>?_) (fun dQ A outer s H vs Q E hr h=>?_)
 .obtain⟨x,o,lo,hi,rfl,_⟩:=h;rfl
 .obtain⟨x,o,lo,hi,rfl,wh,k⟩:=h;refine⟨_,al (aH (fL (aE W hr aQ (aa (pv 0) ag)) (gm (wt Ai Ai (pv 1) (pv 0) (pv 2))))),?_⟩;refine⟨_,rfl,x,o,rfl,wh,?_⟩;cases wh with
  |no h=>exact⟨false,rfl,k⟩
  |int i=>
   refine⟨true,rfl,_,rfl,_,rfl,_,_,rfl,rfl,_,rfl,?_⟩;show if decide (lo<=i)=true then _ else _
   have k':Q (.bl (decide (lo<=i)&&decide (i<=hi))) H:=k;by_cases h:lo<=i
   .rw[bB h] at k' |-;exact⟨_,rfl,_,_,rfl,rfl,k'⟩
   .rw[cH h] at k' |-;exact k'
def pH(K:PySem.W.Frag):Sp:=fun vs H Q _=>∃x o n,vs=[.int n,x]/\Wh K H x o/\Q (.bl (iA o 0 (n-1))) H
theorem HQ:aI ["many","thing"] ["many","thing"] (am zG):=⟨rfl,rfl,rfl,by decide +kernel,rfl,by decide +kernel,by decide +kernel⟩
theorem ED(F:fX K "is_house" "is_house" zG f fd)(W:cp P w K mg base be 2 "is_whole_within" ["thing","least","most"] (gc K)):bz P w K mg base be 3 f fd ["many","thing"] (pH K):=by
 refine F.ok HQ (fun vs H Q E h=>?_) (fun dQ A outer s H vs Q E hr h=>?_)
 .obtain⟨x,o,n,rfl,_⟩:=h;rfl
 .obtain⟨x,o,n,rfl,wh,k⟩:=h;refine⟨_,al (aH (aE W hr aQ (aa (pv 1) (aa aq (aa (bC qz (pv 0) aq) ag))))),?_⟩;exact⟨_,rfl,_,rfl,_,_,rfl,rfl,x,o,0,n-1,rfl,wh,k⟩
inductive Rw (K:PySem.W.Frag) (H:Hp):V->Option (List V)->Prop where
 |tup {p:Addr} {xs:List V} (h:H p=some (.tup xs)):Rw K H (.ref p) (some xs)
 |no {x:V} {t:Value} (ty:PL K H x t) (h:PySem.W.kitOne K t (.type "tuple")=some false):Rw K H x none
def Qn(o:Option (List V))(m:Int):Bool:=match o with
 |some xs=>decide ((xs.length:Int)=m)
 |none=>false
theorem HR:PySem.W.kitOne K (.type "tuple") (.type "tuple")=some true:=by kernel_rfl
def EE(K:PySem.W.Frag):Sp:=fun vs H Q _=>∃x o m,vs=[x,.int m]/\Rw K H x o/\Q (.bl (Qn o m)) H
theorem Qo:aI ["thing","length"] ["thing","length"] (am Mi):=⟨rfl,rfl,rfl,by decide +kernel,rfl,by decide +kernel,by decide +kernel⟩
theorem Mj(F:fX K "is_row" "is_row" Mi f fd)(B:Bl mg):bz P w K mg base be 1 f fd ["thing","length"] (EE K):=by
 refine F.ok Qo (fun vs H Q E h=>?_) (fun dQ A outer s H vs Q E hr h=>?_)
 .obtain⟨x,o,m,rfl,_⟩:=h;rfl
 .obtain⟨x,o,m,rfl,W,k⟩:=h;refine⟨_,al (aH (fL (au eV (by rfl) B.EB lf (aa (pv 0) (aa (fQ (v:=.ty "tuple") rfl B.tup pV rfl) ag)))
   (gm (dG eM (au aD (by rfl) B.len ce (aa (pv 0) ag)) (pv 1) (aO _))))),?_⟩
  cases W with
  |@tup p xs h=>
   refine⟨_,rfl,_,_,_,.type "tuple",true,rfl,⟨rfl,HR⟩,.of (.tup h),true,rfl,?_⟩;refine⟨_,rfl,_,_,rfl,.inr (cR.of h),_,rfl,rfl,?_⟩;have e:decide (V.int ((xs.length:Nat):Int)=V.int m)=decide (((xs.length:Nat):Int)=m):=by simp
   rw[e];exact k
  |no ty h=>exact⟨_,rfl,_,_,_,_,false,rfl,⟨rfl,h⟩,ty,false,rfl,k⟩
end
theorem bU(s:aM H H')(hD:H D=none):aM H (upd H' D o):=fun b u e=>by rw[ai (ak e hD)];exact s b u e
abbrev IV(ns:List Int):List V:=ns.map V.int
abbrev NV(ns:List Nat):List V:=ns.map fun (x:Nat)=>V.int (x:Int)
abbrev Zs:=List (Addr×(Int×Int))
abbrev HU(u:Int×Int):HO:=.tup [.int u.1,.int u.2]
def zr(zs:Zs):List V:=zs.map fun z=>V.ref z.1
def zp(zs:Zs):List (Int×Int):=zs.map (·.2)
def PO(H:Hp)(zs:Zs):Prop:=∀z∈zs,H z.1=some (HU z.2)
theorem kP:zr (a++b)=zr a++zr b:=cP
theorem kQ:zp (a++b)=zp a++zp b:=cP
theorem kh:(zr a).length=a.length:=aG _
theorem eO:(zp a).length=a.length:=aG _
theorem vq:zr a=(a.map (·.1)).map V.ref:=by unfold zr;rw[ic];rfl
theorem zH{zs:Zs}{i:Nat}{x:V}(h:(zr zs)[i]?=some x):∃z,zs[i]?=some z/\x=.ref z.1:=by
 unfold zr at h;rw[bq] at h;cases e:zs[i]? with
 |none=>rw[e] at h;cases h
 |some z=>rw[e] at h;exact⟨z,rfl,(aY h).symm⟩
theorem PO.nil:PO H []:=fun z hz=>(nomatch hz)
theorem PO.same(h:PO H zs)(s:aM H H'):PO H' zs:=fun z hz=>s _ _ (h z hz)
theorem PO.putL(h:PO H zs)(e:H D=some (.lst xs)):PO (upd H D o) zs:=fun z hz=>by
 have:=h z hz;rw[ai (by rintro rfl;rw[e] at this;cases this)];exact this
theorem PO.putN(h:PO H zs)(e:H D=none):PO (upd H D o) zs:=h.same (aj e)
theorem PO.append(h:PO H a)(h':PO H b):PO H (a++b):=fun z hz=>(bg.mp hz).elim (h z) (h' z)
theorem PO.one(h:H p=some (HU u)):PO H [(p,u)]:=fun z hz=>by rw[bK.mp hz];exact h
theorem EF{zs:Zs}{i:Nat}(h:i<zs.length):(zs.map (·.1)).getD i 0=zs[i].1:=by
 rw[bQ,bq,bY h];rfl
theorem HW(h:i<zs.length):(zp zs).getD i (0,0)=zs[i].2:=by
 unfold zp;rw[bQ,bq,bY h];rfl
theorem Cu{H:Hp}{zs:Zs}(ho:PO H zs):∃g:Addr->Int×Int,(∀z∈zs,g z.1=z.2)/\∀ {as:List Addr},as.Perm (zs.map (·.1))->∃vW:Zs,vW.Perm zs/\as=vW.map (·.1):=by
 classical
 let f:Addr->Int×Int:=fun a=>match H a with
  |some (.tup [.int x,.int y])=>(x,y)
  |_=>(0,0)
 have e2:∀z∈zs,f z.1=z.2:=fun z hz=>by
  show (match H z.1 with|some (.tup [.int x,.int y])=>(x,y)|_=>(0,0))=z.2;rw[ho z hz]
 have e:(zs.map (·.1)).map (fun a=>(a,f a))=zs:=by
  rw[ic];conv=>rhs;rw[<-lU zs]
  refine jI fun z hz=>?_;show (z.1,f z.1)=z;rw[e2 z hz]
 refine⟨f,e2,fun {as} h=>⟨as.map fun a=>(a,f a),?_,?_⟩⟩
 .have:=h.map (fun a=>(a,f a));rw[e] at this;exact this
 .rw[ic];exact(lU as).symm
abbrev vX(us:List (Int×Int)):Prop:=us.Pairwise fun u v=>pk u<=pk v
theorem HX{K:PySem.W.Frag}{H:Hp}{l:Addr}{zs:Zs}{Q:VK}(hl:H l=some (.lst (zr zs)))(ho:PO H zs)(hz:zs.length<=4096)(hb:∀u∈zp zs,0<=u.2/\u.2<64)(q:∀ (D:Addr) (vW:Zs),H D=none->vW.Perm zs->vX (zp vW)->Q (.ref D) (upd H D (.lst (zr vW)))):Ey K [.ref l] H Q:=by
 obtain⟨g,hg,VC⟩:=Cu ho;refine⟨l,zs.map (·.1),g,rfl,aV.of (by rw[<-vq];exact hl),fun a ha=>?_,by rw[aG];exact hz,fun D m6 hD hp so=>?_⟩
 .obtain⟨z,hz,rfl⟩:=cf.mp ha;rw[hg z hz];exact⟨cR.of (ho z hz),hb _ (cf.mpr ⟨z,hz,rfl⟩)⟩
 .obtain⟨vW,h1,rfl⟩:=VC hp;rw[<-vq];refine q D vW hD h1 ?_;unfold zp vX;rw[jq] at so |-;refine so.imp_of_mem fun {a b} ha hb h=>?_;rw[hg a (h1.mem_iff.mp ha),hg b (h1.mem_iff.mp hb)] at h;exact h
theorem EG{K:PySem.W.Frag}{a D:Addr}{Gq:Zs}{g:TG}{tt:TT}{te:TE}{fin:Hp->Prop}{σB:St}{H0:Hp}(F:Int×Int->Int×Int)(dB:St->Prop)(ha:H0 a=some (.lst (zr Gq)))(YV:PO H0 Gq)(hD:H0 D=none)(hn:Gq.length<=100000)(h0:dB σB)(hs:∀z σ H (R:V->St->Hp->Prop) (Kf:St->Hp->Prop),z∈Gq->dB σ->H z.1=some (HU z.2)->(∀σ2 p,dB σ2->H p=none->R (.ref p) σ2 (upd H p (HU (F z.2))))->g (.ref z.1) σ H fun σ2 H2=>tt σ2 H2 fun b H3=>if b=true then te σ2 H3 fun v H4=>R v σ2 H4 else Kf σ2 H3)(hd:∀zs H,aM H0 H->H D=some (.lst (zr zs))->PO H zs->zp zs=(zp Gq).map F->(∀z∈zs,H0 z.1=none)->fin H):ig (Ds K a) g tt te D fin σB (upd H0 D (.lst [])):=by
 refine ff (xs:=zr Gq) (fun i ys σ H=>dB σ/\aM H0 H/\H D=some (.lst ys)/\∃zs:Zs,ys=zr zs/\PO H zs/\zp zs=((zp Gq).take i).map F/\∀z∈zs,H0 z.1=none) ⟨h0,aj hD,af,[],rfl,PO.nil,rfl,fun z hz=>nomatch hz⟩ (fun i ys σ H _ z=>aV.of (z.2.1 _ _ ha)) ?_ ?_
 .rintro i x ys σ H Kt Kf hx ⟨sh,sm,n_,zs,rfl,po,ep,fr⟩ kt kf;obtain⟨z,hz,rfl⟩:=zH hx;have hi:i<Gq.length:=(cM.mp hz).1;have Ko:z∈Gq:=dW hz;have hl:zs.length=i:=by rw[<-eO,ep,aG,iG,eO];lia
  refine hs z σ H Kt Kf Ko sh (sm _ _ (YV z Ko)) (fun σ2 p Cv hp=>?_)
  .have nD:D≠p:=ak n_ hp;refine kt _ _ _ (by rw[ai nD];exact n_) (by rw[kh,hl];exact bV hi (bj hn (by decide))) ⟨Cv,bU (sm.trans (aj hp)) hD,af,zs++[(p,F z.2)],?_,?_,?_,?_⟩
   .rw[kP];rfl
   .refine PO.putL (xs:=zr zs) ?_ (by rw[ai nD];exact n_);exact(po.putN hp).append (PO.one af)
   .have e2:(zp Gq)[i]?=some z.2:=by unfold zp;rw[bq,hz];rfl
    rw[kQ,ep,hX,e2,Option.toList_some,cP];rfl
   .intro z hz;rcases bg.mp hz with z'|z'
    .exact fr z z'
    .rw[bK.mp z'];exact sm.free hp
 .rintro ys σ H ⟨_,sm,n_,zs,rfl,po,ep,fr⟩;rw[kh,<-eO,h9] at ep;exact hd zs H sm n_ po ep fr
open sf
abbrev AS:Stmt:=pA (gG 29) 0
abbrev xi:Stmt:=pA (gG 29) 4
abbrev EH:Stmt:=pA (gG 29) 6
abbrev zI:Stmt:=pA (gG 29) 8
theorem n12:¬ (("house_count":Str)="tie_list"):=by decide +kernel
theorem n13:¬ (("house_count":Str)="out_lists"):=by decide +kernel
theorem n14:¬ (("house_count":Str)="distances"):=by decide +kernel
theorem n34:¬ (("out_lists":Str)="distances"):=by decide +kernel
def o_(n:Int)(tl ol ds:Addr):List (Str×V):=dI "distances" (.ref ds) (dI "out_lists" (.ref ol) (dI "tie_list" (.ref tl) (dI "house_count" (.int n) [])))
theorem HY(n:Int)(tl ol ds:Addr):(o_ n tl ol ds).lookup ("house_count":Str)=some (.int n):=by
 unfold o_;rw[bn,ap n14,bn,ap n13,bn,ap n12,bn,ao rfl]
theorem vt(n:Int)(tl ol ds:Addr){m:Str}(h1:¬ m="house_count")(h2:¬ m="tie_list")(h3:¬ m="out_lists")(h4:¬ m="distances"):(o_ n tl ol ds).lookup m=none:=by
 unfold o_;rw[bn,ap h4,bn,ap h3,bn,ap h2,bn,ap h1];all_goals rfl
theorem HZ(n:Int)(tl ol ds:Addr):(o_ n tl ol ds).lookup ("out_lists":Str)=some (.ref ol):=by
 unfold o_;rw[bn,ap n34,bn,ao rfl]
theorem AT(n:Int)(tl ol ds:Addr):(o_ n tl ol ds).lookup ("distances":Str)=some (.ref ds):=by
 unfold o_;rw[bn,ao rfl]
def iB(H:Hp)(L:Addr->Prop)(l:Addr)(n:Nat)(r:Nat->List Nat):Prop:=∃bs:List Addr,H l=some (.lst (bs.map V.ref))/\(∀b∈bs,L b)/\Holds H bs n (fun h=>.lst (NV (r h)))
theorem iB.keep(R:iB H L l n r)(hl:L l)(k:∀b o,L b->H b=some o->H' b=some o):iB H' L l n r:=
 let ⟨bs,a,b,c⟩:=R
 ⟨bs,k _ _ hl a,b,c.mono fun j hj e=>k _ _ (b _ (by rw[bQ,bY (by rw[c.1];exact hj)];exact gJ _)) e⟩
theorem iB.row(R:iB H L l n r)(hh:h<n):∃ (bs:List Addr) (b:Addr),H l=some (.lst (bs.map V.ref))/\(bs.map V.ref)[h]?=some (V.ref b)/\H b=some (.lst (NV (r h)))/\L b:=by
 obtain⟨bs,a,b,c⟩:=R;have hl:h<bs.length:=by rw[c.1];exact hh
 refine⟨bs,bs[h],a,by rw[bq,bY hl];rfl,?_,b _ (gJ _)⟩;have:=c.2 h hh;rw[bQ,bY hl] at this;exact this
def H_(H:Hp)(L:Addr->Prop)(tl:Addr)(ts:Ts):Prop:=L tl/\∃zs:Zs,H tl=some (.lst (zr zs))/\PO H zs/\(∀z∈zs,L z.1)/\(zp zs).Perm ts/\vX (zp zs)
theorem H_.keep(h:H_ H L tl ts)(k:∀b o,L b->H b=some o->H' b=some o):H_ H' L tl ts:=
 let ⟨a,zs,b,c,d,e⟩:=h;⟨a,zs,k _ _ a b,fun z hz=>k _ _ (d z hz) (c z hz),d,e⟩
structure cZ(C:Addr)(H:Hp)(L:Addr->Prop)(p:Addr)(n:Nat)(ts:Ts):Prop where
 km:eW n ts
 ob:∃dx tl ol ds,H p=some (.ins C dx (o_ n tl ol ds))/\L ol/\L ds/\iB H L ol n (fg n ts)/\iB H L ds n (fun h=>(List.range n).map (far ts h))/\H_ H L tl ts
theorem cZ.keep(N:cZ C H L p n ts)(k:∀b o,L b->H b=some o->H' b=some o)(kp:∀o,H p=some o->H' p=some o):cZ C H' L p n ts:=
 let ⟨dx,tl,ol,ds,a,l1,l2,b,c,d⟩:=N.ob
 ⟨N.km,dx,tl,ol,ds,kp _ a,l1,l2,b.keep l1 k,c.keep l2 k,d.keep k⟩
theorem cZ.same(N:cZ C H L p n ts)(s:aM H H'):cZ C H' L p n ts:=N.keep (fun b o _ e=>s b o e) (fun o e=>s _ o e)
structure NT(K:PySem.W.Frag)(mg:Str->Option Value)(C:Addr):Prop where
 cl:Gj K C
 nH:ix K C "house_count"
 nT:ix K C "tie_list"
 nO:ix K C "out_lists"
 nD:ix K C "distances"
 mgC:mg "Net"=some (.ref C)
structure mR(P:Program)(w:World)(K:PySem.W.Frag)(mg:Str->Option Value)(base:Heap)(CX:wu)(k:Nat)(C:Addr)(x:Str)(ps:List Str)(sp:Sp):Prop where
 ex:∃f fd,Lk K C x f/\j4 K fd ps []/\bz P w K mg base CX k f fd ps sp
section
variable {P:Program} {w:World} {K:PySem.W.Frag} {mg:Str->Option Value} {base:Heap}
theorem Ib:aI ["self","thing"] ["self","thing"] (am zI):=⟨rfl,rfl,rfl,by decide +kernel,rfl,by decide +kernel,by decide +kernel⟩
theorem tI{i n:Nat}(h:i<n):iA (some (i:Int)) 0 ((n:Int)-1)=true:=by unfold iA;simp;lia
def rd(C:Addr):Sp:=fun vs H Q _=>∃ (L:Addr->Prop) (p:Addr) (n:Nat) (ts:Ts) (i:Nat),vs=[.ref p,.int i]/\cZ C H L p n ts/\i<n/\Q .bJ H
theorem Cw{f C:Addr}{fd:FuncData}(F:fX K "check_house" "Net.check_house" zI f fd)(T:NT K mg C)(HH:cp P w K mg base be 3 "is_house" ["many","thing"] (pH K)):
  bz P w K mg base be 4 f fd ["self","thing"] (rd C):=by
 refine F.ok Ib (fun vs H Q E h=>?_) (fun dQ A outer s H vs Q E hr h=>?_)
 .obtain⟨L,p,n,ts,i,rfl,_⟩:=h;rfl
 .obtain⟨L,p,n,ts,i,rfl,N,hi,k⟩:=h;obtain⟨dx,tl,ol,ds,h1,_⟩:=N.ob;refine⟨_,al (bx (et (dE (aE HH hr aQ (aa (nN (pv 0) rfl) (aa (pv 1) ag))))) dO aS),?_⟩;refine⟨_,rfl,p,C,dx,_,_,rfl,h1,T.cl,T.nH,HY _ _ _ _,_,rfl,_,some (i:Int),n,rfl,.int _,_,rfl,?_⟩;rw[tI hi];exact l5 k
theorem Qp(n:Int)(tl ol ds:Addr):(o_ n tl ol ds).lookup ("check_house":Str)=none:=vt n tl ol ds (by decide +kernel) (by decide +kernel) (by decide +kernel) (by decide +kernel)
theorem Cy(n:Int)(tl ol ds:Addr):(o_ n tl ol ds).lookup ("far":Str)=none:=vt n tl ol ds (by decide +kernel) (by decide +kernel) (by decide +kernel) (by decide +kernel)
theorem re:(NV xs).length=xs.length:=aG _
theorem oU:aI ["self","one","other"] ["self","one","other"] (am xi):=⟨rfl,rfl,rfl,by decide +kernel,rfl,by decide +kernel,by decide +kernel⟩
def oa(C:Addr):Sp:=fun vs H Q _=>∃ (L:Addr->Prop) (p:Addr) (n:Nat) (ts:Ts) (i j:Nat),vs=[.ref p,.int i,.int j]/\cZ C H L p n ts/\i<n/\j<n/\Q (.int (far ts i j:Nat)) H
theorem Ic(F:fX K "far" "Net.far" xi f fd)(T:NT K mg C)(M:mR P w K mg base be 4 C "check_house" ["self","thing"] (rd C)):
  bz P w K mg base be 5 f fd ["self","one","other"] (oa C):=by
 obtain⟨fM,fdM,mM,bM,GM⟩:=M.ex;refine F.ok oU (fun vs H Q E h=>?_) (fun dQ A outer s H vs Q E hr h=>?_)
 .obtain⟨L,p,n,ts,i,j,rfl,_⟩:=h;rfl
 .obtain⟨L,p,n,ts,i,j,rfl,N,hi,hj,k⟩:=h;obtain⟨dx,tl,ol,ds,h1,_,_,_,R,_⟩:=N.ob;refine⟨_,ah (cw (ja (pv 0) T.cl mM GM hr bM .nil aQ (aa (pv 1) ag)))
   (ah (cw (ja (pv 0) T.cl mM GM hr bM .nil aQ (aa (pv 2) ag)))
   (al (aH (aA aB (aA aB (nN (pv 0) rfl) (pv 1) (fun _ _=>rfl)) (pv 2) (fun _ _=>rfl))))),?_⟩
  refine⟨_,rfl,p,dx,_,rfl,h1,Qp _ _ _ _,_,rfl,L,p,n,ts,i,rfl,N,hi,?_⟩;refine⟨_,rfl,p,dx,_,rfl,h1,Qp _ _ _ _,_,rfl,L,p,n,ts,j,rfl,N,hj,?_⟩;obtain⟨bs,b,r1,r2,r3,_⟩:=R.row hi;have hg:(NV ((List.range n).map (far ts i)))[j]?=some (.int (far ts i j:Nat)):=by
   rw[bq,bq,oE hj];rfl
  exact⟨_,rfl,p,C,dx,_,_,rfl,h1,T.cl,T.nD,AT _ _ _ _,_,rfl,ds,_,_,_,rfl,rfl,aV.of r1,bO r2,_,rfl,b,_,_,_,rfl,rfl,aV.of r3,bO hg,k⟩
end
open PySem L2 sf
abbrev zJ:Stmt:=gG 30
abbrev Ml:Stmt:=gG 31
abbrev Mm:Stmt:=gG 32
section
variable {P:Program} {w:World} {K:PySem.W.Frag} {mg:Str->Option Value} {base:Heap}
abbrev Mn:Stmt:=gG 11
theorem Qq:aI ["many","one","other"] ["many","one","other"] (am Mn):=⟨rfl,rfl,rfl,by decide +kernel,rfl,by decide +kernel,by decide +kernel⟩
def EI:Sp:=fun vs H Q _=>∃ (n a b:Int),vs=[.int n,.int a,.int b]/\0<=a/\a<n/\0<=b/\b<n/\a≠b/\Q (.bl true) H
theorem Mo(F:fX K "are_unlike_houses" "are_unlike_houses" Mn f fd)(HH:cp P w K mg base be 3 "is_house" ["many","thing"] (pH K)):
  bz P w K mg base be 4 f fd ["many","one","other"] EI:=by
 refine F.ok Qq (fun vs H Q E h=>?_) (fun dQ A outer s H vs Q E hr h=>?_)
 .obtain⟨n,a,b,rfl,_⟩:=h;rfl
 .obtain⟨n,a,b,rfl,a1,a2,b1,b2,jD,k⟩:=h;refine⟨_,al (aH (fL (aE HH hr aQ (aa (pv 0) (aa (pv 1) ag))) (fL (aE HH hr aQ (aa (pv 0) (aa (pv 2) ag))) (gm (dG sG (pv 1) (pv 2) (aO _)))))),?_⟩;refine⟨_,rfl,_,rfl,_,_,n,rfl,.int a,_,rfl,?_⟩;rw[ao (show iA (some a) 0 (n-1)=true by unfold iA;simp;lia)];refine⟨_,rfl,_,rfl,_,_,n,rfl,.int b,_,rfl,?_⟩;rw[ao (show iA (some b) 0 (n-1)=true by unfold iA;simp;lia)];refine⟨_,rfl,_,rfl,rfl,?_⟩;have e:(!decide (V.int a=V.int b))=true:=by simp[jD]
  rw[e];exact k
theorem Qr:aI ["many","thing"] ["many","thing"] (am Ml):=⟨rfl,rfl,rfl,by decide +kernel,rfl,by decide +kernel,by decide +kernel⟩
def EJ:Sp:=fun vs H Q _=>∃ (n:Int) (p:Addr) (a b:Int),vs=[.int n,.ref p]/\H p=some (.tup [.int a,.int b])/\0<=a/\a<n/\0<=b/\b<n/\a≠b/\Q (.bl true) H
theorem Mp(F:fX K "is_tie" "is_tie" Ml f fd)(R:cp P w K mg base be 1 "is_row" ["thing","length"] (EE K))(U:cp P w K mg base be 4 "are_unlike_houses" ["many","one","other"] EI):
  bz P w K mg base be 5 f fd ["many","thing"] EJ:=by
 refine F.ok Qr (fun vs H Q E h=>?_) (fun dQ A outer s H vs Q E hr h=>?_)
 .obtain⟨n,p,a,b,rfl,_⟩:=h;rfl
 .obtain⟨n,p,a,b,rfl,hp,a1,a2,b1,b2,jD,k⟩:=h;refine⟨_,al (aH (fL (aE R (hr.mono (by decide)) aQ (aa (pv 1) (aa aq ag)))
   (gm (aE U hr aQ (aa (pv 0) (aa (aA a9 (pv 1) aq (fun _ _=>rfl)) (aa (aA a9 (pv 1) aq (fun _ _=>rfl)) ag))))))),?_⟩
  refine⟨_,rfl,_,_,_,rfl,.tup hp,true,rfl,?_⟩;exact⟨_,rfl,_,rfl,p,_,_,_,rfl,rfl,cR.of hp,bO (j:=0) rfl,_,rfl,p,_,_,_,rfl,rfl,cR.of hp,bO (j:=1) rfl,n,a,b,rfl,a1,a2,b1,b2,jD,k⟩
theorem AU:aI ["many","ties","tie"] ["many","ties"] (am zJ):=⟨rfl,rfl,rfl,by decide +kernel,rfl,by decide +kernel,by decide +kernel⟩
theorem EK:PySem.W.kitOne K (.type "list") (.type "list")=some true:=by kernel_rfl
structure fw(H:Hp)(l:Addr)(n:Nat)(zs:Zs):Prop where
 km:eW n (zp zs)
 at_:H l=some (.lst (zr zs))
 po:PO H zs
theorem fw.same(h:fw H l n zs)(s:aM H H'):fw H' l n zs:=⟨h.km,s _ _ h.at_,h.po.same s⟩
def kR:Sp:=fun vs H Q _=>∃ (n:Nat) (l:Addr) (zs:Zs),vs=[.int n,.ref l]/\fw H l n zs/\∀H',aM H H'->Q .bJ H'
theorem EL(F:fX K "check_ties" "check_ties" zJ f fd)(B:Bl mg)(gF:∃t,mg "FEWEST_HOUSES"=some (.int 2 t))(gM:∃t,mg "MOST_HOUSES"=some (.int 32 t))(W:cp P w K mg base be 2 "is_whole_within" ["thing","least","most"] (gc K))(T:cp P w K mg base be 5 "is_tie" ["many","thing"] EJ):
  bz P w K mg base be 6 f fd ["many","ties"] kR:=by
 obtain⟨tF,gF⟩:=gF;obtain⟨tM,gM⟩:=gM;refine F.ok AU (fun vs H Q E h=>?_) (fun dQ A outer s H vs Q E hr h=>?_)
 .obtain⟨n,l,zs,rfl,_⟩:=h;rfl
 .refine⟨_,ah (bx (et (dE (aE W (hr.mono (by decide)) aQ (aa (pv 0) (aa (uH (v:=.int 2) rfl gF ⟨_,rfl⟩) (aa (uH (v:=.int 32) rfl gM ⟨_,rfl⟩) ag)))))) dO aS)
   (ah (bx (et (dE (au eV (by rfl) B.EB lf (aa (pv 1) (aa (fQ (v:=.ty "list") rfl B.lst ub rfl) ag))))) dO aS)
   (ah (dR eR rfl (cJ (pv 1)) (aF (i:=2) AU.nd rfl (Or.inl rfl)) (al (bx (et (dE (aE T hr aQ (aa (pv 0) (aa (pv 2) ag))))) dO aS)))
   (al (bx (aK sG (au wP (by rfl) B.len ce (aa (cV (B7 rfl (by have:=hr.un;show (A.deeper _).units+8<_;lia)) (by rfl) B.set PyProof.Rows.boot_set (aa (pv 1) ag)) ag)) (au aD (by rfl) B.len ce (aa (pv 1) ag)) (aO _)) dO aS)))),?_⟩
  obtain⟨n,l,zs,rfl,tt,k⟩:=h;obtain⟨fi,hl,po⟩:=id tt;have n1:=fi.n1;have n2:=fi.n2;refine⟨_,rfl,_,_,2,32,rfl,.int n,_,rfl,?_⟩;rw[show iA (some (n:Int)) 2 32=true by unfold iA;simp;lia];refine l5 ?_;refine⟨_,rfl,_,_,_,.type "list",true,rfl,⟨rfl,EK⟩,.of (.lst hl),_,rfl,l5 ?_⟩;refine⟨_,rfl,l,rfl,⟨_,aV.of hl⟩,jX (K:=K) (a:=l) (xs:=zr zs) (fun i σ H2=>H2=H/\∃v,σ=[some (.int n),some (.ref l),v]) ⟨rfl,none,rfl⟩ (fun i σ H2 _ ⟨e,_⟩=>by rw[e];exact aV.of hl) ?_ ?_⟩
  .rintro i x σ H2 hx ⟨rfl,v,rfl⟩;obtain⟨z,hz,rfl⟩:=zH hx;have Ko:z∈zs:=dW hz;have YW:z.2∈zp zs:=cf.mpr ⟨z,Ko,rfl⟩;have r:=fi.rg _ YW;exact⟨_,rfl,_,rfl,n,_,_,_,rfl,po z Ko,r.1.1,r.1.2,r.2.1,r.2.2,fi.ne _ YW,_,rfl,l5 ⟨rfl,_,rfl⟩⟩
  .rintro σ H2 ⟨rfl,v,rfl⟩;have eC:(zp zs).length<=256:=fi.len;refine⟨_,rfl,l,zs.map (·.1),zp zs,rfl,aV.of (by rw[<-vq];exact hl),by rw[aG,eO],fun i hi=>?_,fi.nd,fun y hy=>?_,by lia,fun D hD=>?_⟩
   .rw[eO] at hi;rw[EF hi,HW hi];exact cR.of (po _ (gJ hi))
   .have r:=fi.rg _ hy;lia
   .have nl:l≠D:=ak hl hD;refine⟨D,_,rfl,af,by lia,_,rfl,l,zr zs,rfl,.inl (aV.of (by rw[ai nl];exact hl)),rfl,_,rfl,?_⟩;have ez:(!decide (V.int (((zp zs).length:Nat):Int)=V.int (((zr zs).length:Nat):Int)))=false:=by rw[eO,kh];simp
    rw[ez];exact l5 (k _ (aj hD))
end
abbrev xj:Stmt:=gG 33
section
variable {P:Program} {w:World} {K:PySem.W.Frag} {mg:Str->Option Value} {base:Heap}
theorem oe(S:St->Prop)(p q:Int×Int->Int)(h:Int)(hD:H D=none)(hl:H l=some (.lst (zr zs)))(po:PO H zs)(hn:zs.length<=1000)(s0:S σB)(hg:∀z σ H2 (Kt:V->St->Hp->Prop) (Kf:St->Hp->Prop),z∈zs->S σ->H2 z.1=some (HU z.2)->(∀σ2,S σ2->p z.2=h->Kt (.int (q z.2)) σ2 H2)->(∀σ2,S σ2->p z.2≠h->Kf σ2 H2)->
   g (.ref z.1) σ H2 fun σ2 H2=>tt σ2 H2 fun b H3=>if b=true then te σ2 H3 fun v H4=>Kt v σ2 H4 else Kf σ2 H3)(hd:fin (upd H D (.lst (IV (((zp zs).filter fun y=>decide (p y=h)).map q))))):ig (Ds K l) g tt te D fin σB (upd H D (.lst [])):=by
 have nl:l≠D:=ak hl hD;have tk:∀ {i:Nat} {z:Addr×(Int×Int)},zs[i]?=some z->(zp zs).take (i+1)=(zp zs).take i++[z.2]:=fun {i z} hz=>by
  rw[hX,show (zp zs)[i]?=some z.2 by unfold zp;rw[bq,hz];rfl];rfl
 refine ff (xs:=zr zs) (fun i ys σ H2=>S σ/\ys=IV ((((zp zs).take i).filter fun y=>decide (p y=h)).map q)/\H2=upd H D (.lst ys)) ⟨s0,by simp,rfl⟩ (fun i ys σ H2 _ ⟨_,_,e⟩=>by rw[e];exact aV.of (by rw[ai nl];exact hl)) ?_ ?_
 .rintro i x ys σ H2 Kt Kf hx ⟨hS,ey,rfl⟩ kt kf;obtain⟨z,hz,rfl⟩:=zH hx;have Ko:z∈zs:=dW hz;have hp:=po z Ko;have na:z.1≠D:=ak hp hD;have hi:i<zs.length:=(cM.mp hz).1;refine hg z σ _ Kt Kf Ko hS (by rw[ai na];exact hp) (fun σ2 s2 e=>?_) (fun σ2 s2 e=>?_)
  .refine kt _ _ _ af ?_ ⟨s2,?_,?_⟩
   .rw[ey,aG,aG];exact gq (jG _ _) (gq (ym _ _) (bV (show i<1000 by lia) (by decide)))
   .rw[ey,tk hz,jJ,cP];have:decide (p z.2=h)=true:=by simp[e]
    simp[jL,this]
   .rw[ie]
  .refine kf _ _ ⟨s2,?_,rfl⟩;have:decide (p z.2=h)=false:=by simp[e]
   rw[ey,tk hz,jJ];simp[jL,this]
 .rintro ys σ H2 ⟨_,ey,rfl⟩;rw[kh,<-eO,h9] at ey;rw[ey];exact hd
theorem Ox:(["one","other","house"]:List Str).Nodup:=by decide +kernel
theorem AV:aI ["many","ties","house","leading_out","leading_in"] ["many","ties"] (am Mm):=⟨rfl,rfl,rfl,by decide +kernel,rfl,by decide +kernel,by decide +kernel⟩
theorem Mq(F:fX K "check_balance" "check_balance" Mm f fd)(B:Bl mg)(gM:∃t,mg "MOST_TIES_OUT"=some (.int 8 t)):
  bz P w K mg base be 1 f fd ["many","ties"] kR:=by
 obtain⟨tM,gM⟩:=gM;refine F.ok AV (fun vs H Q E h=>?_) (fun dQ A outer s H vs Q E hr h=>?_)
 .obtain⟨n,l,zs,rfl,_⟩:=h;rfl
 .obtain⟨n,l,zs,rfl,T,k⟩:=h;have fi:=T.km;have n1:=fi.n1;have n2:=fi.n2;have eC:zs.length<=256:=by have:=fi.len;rw[eO] at this;exact this
  refine'⟨_,al (dR eR rfl (dP rfl B.range (aa (pv 0) ag)) (aF (i:=2) AV.nd rfl (Or.inr rfl))
   (ah (aL (i:=3) AV.nd rfl (Or.inl rfl) (au aD (by rfl) B.len ce (aa ?c1 ag)))
   (ah (aL (i:=4) AV.nd rfl (Or.inl rfl) (au aD (by rfl) B.len ce (aa ?c2 ag)))
   (ah (bx (aK sG (pv 3) (pv 4) (aO _)) dO aS)
   (al (bx (aK Dx (pv 3) (uH (v:=.int 8) rfl gM ⟨_,rfl⟩) (aO _)) dO aS)))))),?_⟩
  case c1=>
   refine' cK (g:=wn K 2 (gK (bH 0) (gK (bH 1) wg))) (NB:=["one","other","house"]) (src:=[none,none,some 2]) (cj (by kernel_rfl)) rfl (cJ (pv 1)) ?g ?t ?e;case g=>exact fun cl C s₃ H₃ fp=>gL (n:=2) rfl (bu (aF (i:=0) Ox rfl (Or.inl rfl) (Or.inr rfl)) (bu (aF (i:=1) Ox rfl (Or.inl rfl) (Or.inr rfl)) ft))
   case t=>exact fun cl C s₃ H₃ fp=>eF (aK eM (pv 0) (pv 2) (aO _))
   case e=>exact fun cl C s₃ H₃ fp=>pv 0
  case c2=>
   refine' cK (g:=wn K 2 (gK (bH 0) (gK (bH 1) wg))) (NB:=["one","other","house"]) (src:=[none,none,some 2]) (cj (by kernel_rfl)) rfl (cJ (pv 1)) ?g ?t ?e;case g=>exact fun cl C s₃ H₃ fp=>gL (n:=2) rfl (bu (aF (i:=0) Ox rfl (Or.inl rfl) (Or.inr rfl)) (bu (aF (i:=1) Ox rfl (Or.inl rfl) (Or.inr rfl)) ft))
   case t=>exact fun cl C s₃ H₃ fp=>eF (aK eM (pv 1) (pv 2) (aO _))
   case e=>exact fun cl C s₃ H₃ fp=>pv 1
  refine⟨_,rfl,n,rfl,by lia,by lia,eE (n:=n) (lo:=0) (fun i σ H2=>aM H H2/\∃a b c,σ=[some (.int n),some (.ref l),a,b,c]) ⟨aM.refl _,none,none,none,rfl⟩ ?_ ?_⟩
  .rintro i σ H2 hi ⟨sm,a,b,c,rfl⟩;have T2:=T.same sm;refine⟨_,rfl,l,rfl,⟨_,aV.of T2.at_⟩,fun D hD=>oe (fun σ=>∃a b,σ=[a,b,some (.int (0+(i:Int)))]) (·.1) (·.1) (0+(i:Int)) hD T2.at_ T2.po (by lia) ⟨_,_,rfl⟩ ?_ ?_⟩
   .rintro z σ H3 Kt Kf hj ⟨x,y,rfl⟩ ha kt kf;refine⟨z.1,_,rfl,cR.of ha,rfl,_,_,rfl,_,_,rfl,rfl,?_⟩;refine⟨_,rfl,_,rfl,rfl,_,rfl,?_⟩;refine bR (fun e=>?_) (fun e=>?_)
    .exact⟨_,rfl,kt _ ⟨_,_,rfl⟩ (by simpa using e)⟩
    .exact kf _ ⟨_,_,rfl⟩ (by simpa using e)
   .refine⟨D,_,rfl,.inl (aV.of af),?_⟩;have Qs:=bU (o:=.lst (IV (((zp zs).filter fun y=>decide (y.1=0+(i:Int))).map (·.1)))) (sm.trans (aM.refl _)) (H:=H) (by cases z:H D with|none=>rfl|some o=>rw[sm _ _ z] at hD;cases hD);have T3:=T.same Qs;refine⟨_,rfl,l,rfl,⟨_,aV.of T3.at_⟩,fun D' Qt=>oe (fun σ=>∃a b,σ=[a,b,some (.int (0+(i:Int)))]) (·.2) (·.2) (0+(i:Int)) Qt T3.at_ T3.po (by lia) ⟨_,_,rfl⟩ ?_ ?_⟩
    .rintro z σ H3 Kt Kf hj ⟨x,y,rfl⟩ ha kt kf;refine⟨z.1,_,rfl,cR.of ha,rfl,_,_,rfl,_,_,rfl,rfl,?_⟩;refine⟨_,rfl,_,rfl,rfl,_,rfl,?_⟩;refine bR (fun e=>?_) (fun e=>?_)
     .exact⟨_,rfl,kt _ ⟨_,_,rfl⟩ (by simpa using e)⟩
     .exact kf _ ⟨_,_,rfl⟩ (by simpa using e)
    .refine⟨D',_,rfl,.inl (aV.of af),?_⟩;rw[jS] at *;have q1:(IV (((zp zs).filter fun y=>decide (y.1=(i:Int))).map (·.1))).length=(IV (((zp zs).filter fun y=>decide (y.2=(i:Int))).map (·.2))).length:=by
      rw[aG,aG,aG,aG];exact fi.Ez i
     have q2:(IV (((zp zs).filter fun y=>decide (y.1=(i:Int))).map (·.1))).length<=8:=by
      rw[aG,aG];exact fi.most i
     refine⟨_,rfl,_,rfl,rfl,_,rfl,?_⟩;rw[<-q1];rw[show (!decide (V.int (((IV (((zp zs).filter fun y=>decide (y.1=(i:Int))).map (·.1))).length:Nat):Int)=V.int (((IV (((zp zs).filter fun y=>decide (y.1=(i:Int))).map (·.1))).length:Nat):Int)))=false by simp];refine l5 ?_;refine⟨_,rfl,_,_,rfl,rfl,_,rfl,?_⟩;rw[show decide ((((IV (((zp zs).filter fun y=>decide (y.1=(i:Int))).map (·.1))).length:Nat):Int) > 8)=false by rw[decide_eq_false_iff_not];lia];exact l5 ⟨Qs.trans (aj Qt),_,_,_,rfl⟩
  .rintro σ H2 ⟨sm,a,b,c,rfl⟩;exact k H2 sm
end
def Ie:Expr:=match (bZ xj).getD 1 (.Pass ⟨0,0,0,0⟩) with
 |.Return (some (.Call _ _ (k::_) _)) _=>k.value
 |_=>.Name "x" ⟨0,0,0,0⟩
def Ig:Arguments:=match Ie with
 |.Lambda a _ _ _=>a
 |_=>{ posonlyargs:=[],args:=[],vararg:=none,kwonlyargs:=[],kw_defaults:=[],kwarg:=none,defaults:=[] }
def Ih:Expr:=match Ie with
 |.Lambda _ b _ _=>b
 |e=>e
def Qu:Scope:=match Ie with
 |.Lambda _ _ s _=>s
 |_=>{ kind:=.function,names:=[],isGenerator:=false,isCoroutine:=false }
def Mr:Pos:=match Ie with
 |.Lambda _ _ _ p=>p
 |_=>⟨0,0,0,0⟩
def Kq:Str:=("houses_out":Str)++".<locals>."++"<lambda>"
abbrev pI(Pt:Addr)(H:Hp):Prop:=j6 Mr Kq Pt H
def cg(Pt:Addr)(H H':Hp):Prop:=∀b o,H b=some o->b≠Pt->H' b=some o
theorem cg.trans{Pt:Addr}{H H1 H2:Hp}(a:cg Pt H H1)(b:cg Pt H1 H2):cg Pt H H2:=fun c o h n=>b c o (a c o h n) n
theorem cg.of(a:aM H H'):cg Pt H H':=fun c o h _=>a c o h
theorem pI.not(t:pI Pt H)(h:H b=some o)(n:∀ps,o≠.nA ps):b≠Pt:=by
 rintro rfl;rcases t with z|⟨c,z,_⟩ <;> · rw[h] at z;exact n _ (aY z)
theorem pI.same(t:pI Pt H)(e:aM H H'):pI Pt H':=by
 rcases t with z|⟨c,z,y⟩
 .exact .inl (e _ _ z)
 .exact .inr ⟨c,e _ _ z,e _ _ y⟩
theorem Ii{n a b h:Int}(hn:0<n)(a0:0<=a)(a1:a<n)(b0:0<=b)(b1:b<n)(e:(a-h) % n=(b-h) % n):a=b:=by
 have h1:=Int.emod_emod_of_dvd (a-h) (Int.dvd_refl n);have q:(a-b) % n=0:=by
  have:a-b=(a-h)-(b-h):=by lia
  rw[this,Int.sub_emod,e,Int.sub_self,Int.zero_emod]
 obtain⟨c,hc⟩:=Int.dvd_of_emod_eq_zero q;have c0:c=0:=by
  rcases Int.lt_trichotomy c 0 with z|z|z
  .have:n*c<=n*(-1):=C9 (by lia) (by lia);lia
  .exact z
  .have:n*1<=n*c:=C9 (by lia) (by lia);lia
 rw[c0] at hc;lia
theorem sg{ts:Ts}{h:Int}(nd:ts.Nodup):((ts.filter fun y=>decide (y.1=h)).map (·.2)).Nodup:=by
 refine L2.nY (nd.filter _) fun x hx y hy e=>?_;have a:=(bX.mp hx).2;have b:=(bX.mp hy).2;simp at a b;exact Prod.ext (a.trans b.symm) e
theorem Cz{n:Nat}{ts:Ts}{h:Nat}(F:eW n ts)(hh:h<n){out:List Int}(ko:LQ (h:Int) (n:Int) ((ts.filter fun y=>decide (y.1=(h:Int))).map (·.2)) out):out.map V.int=NV (fg n ts h):=by
 obtain⟨ps,hp,rfl,hs⟩:=ko;have Cb:(ps.map (·.2)).Perm ((ts.filter fun y=>decide (y.1=(h:Int))).map (·.2)):=by
  have:=hp.map (·.2);rw[ic] at this;refine this.trans (uy ?_);conv=>rhs;rw[<-lU ((ts.filter fun y=>decide (y.1=(h:Int))).map (·.2))]
  rfl
 have mem:∀z,z∈ps.map (·.2)↔((h:Int),z)∈ts:=fun z=>by
  rw[Cb.mem_iff,cf];constructor
  .rintro⟨y,hy,rfl⟩;obtain⟨y1,y2⟩:=bX.mp hy;have:y.1=(h:Int):=by simpa using y2
   rw[<-this];exact y1
  .intro hz;exact⟨_,bX.mpr ⟨hz,by simp⟩,rfl⟩
 have nd:(ps.map (·.2)).Nodup:=Cb.nodup_iff.mpr (sg F.nd);have key:∀q∈ps,q.1=(q.2-(h:Int)) % (n:Int):=fun q hq=>by
  obtain⟨z,_,e⟩:=cf.mp (hp.mem_iff.mp hq);rw[<-e]
 have hn:(0:Int)<n:=by have:=F.n1;lia
 have sorted:(ps.map (·.2)).Pairwise fun x y=>(x-(h:Int)) % (n:Int)<(y-(h:Int)) % (n:Int):=by
  refine jq.mpr ?_;have nd2:=jq.mp nd;refine(hs.and nd2).imp_of_mem fun {x y} hx hy Go=>?_;have l1:=Go.1;rw[key x hx,key y hy] at l1;have ax:=F.rg _ ((mem x.2).mp (cf.mpr ⟨x,hx,rfl⟩));have ay:=F.rg _ ((mem y.2).mp (cf.mpr ⟨y,hy,rfl⟩));have ne:(x.2-(h:Int)) % (n:Int)≠(y.2-(h:Int)) % (n:Int):=fun z=>Go.2 (Ii hn ax.2.1 ax.2.2 ay.2.1 ay.2.2 z);lia
 have e:ps.map (·.2)=(fg n ts h).map fun (o:Nat)=>(o:Int):=by
  refine oT (k:=fun z=>(z-(h:Int)) % (n:Int)) sorted ?_ fun z=>?_
  .refine jq.mpr ?_;exact xh hh
  .rw[mem,cf];constructor
   .intro hz;have r:=F.rg _ hz;refine⟨z.toNat,(kd F hh).mpr ?_,by lia⟩;show (((h:Nat):Int),((z.toNat:Nat):Int))∈ts;rw[show ((z.toNat:Nat):Int)=z by lia];exact hz
   .rintro⟨o,ho,rfl⟩;exact(kd F hh).mp ho
 rw[e,ic];rfl
section
variable {P:Program} {w:World} {K:PySem.W.Frag} {mg:Str->Option Value} {base:Heap}
theorem EM:aI ["many","ties","house","others"] ["many","ties","house"] (am xj):=⟨rfl,rfl,rfl,by decide +kernel,rfl,by decide +kernel,by decide +kernel⟩
def vv(Pt:Addr):Sp:=fun vs H Q _=>∃ (n:Nat) (l:Addr) (h:Nat) (zs:Zs),vs=[.int n,.ref l,.int h]/\h<n/\fw H l n zs/\pI Pt H/\
 ∀ (r:Addr) (H':Hp),pI Pt H'->cg Pt H H'->H r=none->H' r=some (.lst (NV (fg n (zp zs) h)))->Q (.ref r) H'
theorem Ij(F:wS K "houses_out" "houses_out" xj f fd c)(B:Bl mg)(kb:K.In base)(hb:r9 mg base)(hc:PySem.W.codeHdIn K c Pt=true):
  bz P w K mg base be 1 f fd ["many","ties","house"] (vv Pt):=by
 refine F.ok EM (fun vs H Q E h=>?_) (fun A outer s H vs Q E hr h=>?_)
 .obtain⟨n,l,h,zs,rfl,_⟩:=h;rfl
 .obtain⟨n,l,h,zs,rfl,hh,T,tb,k⟩:=h;have fi:=T.km;have n1:=fi.n1;have eC:zs.length<=256:=by have:=fi.len;rw[eO] at this;exact this
  have LS:P0 (uQ be P w K mg base ["many","ties","house","others"] "houses_out" (am xj) f (.ref c) A outer s H E).JW Kq Ig Ih Qu "other" "house" "many" 2 0:=
   ⟨⟨_,_,_,_,_,rfl⟩,fun _ _ _ _ _=>rfl,rfl,rfl,rfl,rfl,rfl,rfl,rfl,by decide +kernel,by decide +kernel,by decide +kernel,rfl,rfl,rfl,by decide,⟨by decide,by decide⟩,⟨by decide,by decide⟩⟩
  refine'⟨_,ah (gQ (i:=3) (g:=wn K 2 (gK (bH 0) (gK (bH 1) wg))) (NB:=["one","other","house"]) (src:=[none,none,some 2]) (cj (by kernel_rfl)) rfl (cJ (pv 1)) ?g ?t ?e EM.nd rfl rfl rfl)
   (al (aH (B_ (zu LS hr) rfl B.sorted Dg (aa (pv 3) ag) (GY (D9 (NB:=["other","house","many"]) (src:=[none,some 2,some 0]) (AA kb hb hc) (cj (by kernel_rfl))) Lq)))),?_⟩
  case g=>exact fun cl C s₃ H₃ fp=>gL (n:=2) rfl (bu (aF (i:=0) Ox rfl (Or.inl rfl) (Or.inr rfl)) (bu (aF (i:=1) Ox rfl (Or.inl rfl) (Or.inr rfl)) ft))
  case t=>exact fun cl C s₃ H₃ fp=>eF (aK eM (pv 0) (pv 2) (aO _))
  case e=>exact fun cl C s₃ H₃ fp=>pv 1
  refine⟨_,rfl,l,rfl,⟨_,aV.of T.at_⟩,fun D hD=>oe (fun σ=>∃a b,σ=[a,b,some (.int (h:Int))]) (·.1) (·.2) (h:Int) hD T.at_ T.po (by lia) ⟨_,_,rfl⟩ ?_ ?_⟩
  .rintro z σ H3 Kt Kf hj ⟨x,y,rfl⟩ ha kt kf;refine⟨z.1,_,rfl,cR.of ha,rfl,_,_,rfl,_,_,rfl,rfl,?_⟩;refine⟨_,rfl,_,rfl,rfl,_,rfl,?_⟩;refine bR (fun e=>?_) (fun e=>?_)
   .exact⟨_,rfl,kt _ ⟨_,_,rfl⟩ (by simpa using e)⟩
   .exact kf _ ⟨_,_,rfl⟩ (by simpa using e)
  .generalize YX:((zp zs).filter fun y=>decide (y.1=(h:Int))).map (·.2)=os;have Kd:os.length<=8:=by rw[<-YX,aG];exact fi.most h
   have sm:aM H (upd H D (.lst (IV os))):=aj hD;refine⟨_,rfl,tb.same sm,fun f' c' H2 VD old Dn B4=>?_⟩;have t2:pI Pt H2:=VD;have m5:H2 D=some (.lst (IV os)):=old _ _ af ((tb.same sm).not af (by intro ps z;cases z));refine⟨D,f',c',os,h,n,rfl,rfl,aV.of m5,(by lia),B4,Dn,rfl,rfl,by lia,fun r out vU ko=>?_⟩;rw[<-YX] at ko;rw[Cz fi hh ko];have Qs:aM H2 (upd H2 r (.lst (NV (fg n (zp zs) h)))):=aj vU;refine k r _ (t2.same Qs) (fun b o e hb=>Qs _ _ (old b o (sm _ _ e) hb)) ?_ af;cases z:H r with
   |none=>rfl
   |some o=>
    by_cases hP:r=Pt
    .rcases t2 with q|⟨_,q,_⟩ <;> · rw[<-hP,vU] at q;cases q
    .rw[old r o (sm _ _ z) hP] at vU;cases vU
end
abbrev EN:Stmt:=gG 34
abbrev zK:Stmt:=gG 35
def k_(n:Nat)(R:List Nat)(f:Nat->Nat):List V:=(List.range n).map fun x=>if x∈R then V.int ((f x:Nat):Int) else .bJ
theorem kn:(k_ n R f).length=n:=by unfold k_;rw[aG,fq]
theorem kq(h:x<n):(k_ n R f)[x]?=some (if x∈R then V.int ((f x:Nat):Int) else .bJ):=by
 unfold k_;rw[bq,oE h];rfl
theorem zM(hs:s<n):(List.replicate n V.bJ).set s (V.int 0)=k_ n [s] (fun _=>0):=by
 apply yx;intro x;by_cases hx:x<n
 .rw[kq hx];by_cases e:x=s
  .subst e;rw[pX (by rw[pR];exact hx),ao (by simp)];rfl
  .rw[ui (fun z=>e z.symm),xZ,ao hx,ap (by simp[e])]
 .rw[hV (by rw[lM,pR];lia),hV (by rw[kn];lia)]
theorem EO(hv:v<n):(k_ n R f).set v (V.int ((k:Nat):Int))=k_ n (R++[v]) (put f v k):=by
 apply yx;intro x;by_cases hx:x<n
 .rw[kq hx];by_cases e:x=v
  .subst e;rw[pX (by rw[kn];exact hx),ao (by simp),gR]
  .rw[ui (fun z=>e z.symm),kq hx,eY e];by_cases h:x∈R
   .rw[ao h,ao (hW _ h)]
   .rw[ap h,ap (fun z=>(bg.mp z).elim h fun z=>e (by simpa using z))]
 .rw[hV (by rw[lM,kn];lia),hV (by rw[kn];lia)]
def Kr(σ:St):Nat:=match σ[4]? with
 |some (some (V.int z))=>z.toNat
 |_=>0
theorem nbO:(["others"]:List Str).Nodup:=by decide +kernel
def cU(H:Hp)(ol:Addr)(n:Nat)(ts:Ts):Prop:=∃bs:List Addr,H ol=some (.lst (bs.map V.ref))/\Holds H bs n (fun h=>.lst (NV (fg n ts h)))
theorem cU.same(x:cU H ol n ts)(e:aM H H'):cU H' ol n ts:=let ⟨bs,a,b⟩:=x;⟨bs,e _ _ a,b.mono fun _ _ z=>e _ _ z⟩
theorem Ks{as:List Addr}{i:Nat}{x:V}(h:(as.map V.ref)[i]?=some x):i<as.length/\x=.ref (as.getD i 0):=by
 rw[bq] at h;cases e:as[i]? with
 |none=>rw[e] at h;cases h
 |some a=>
  rw[e] at h;refine⟨(cM.mp e).1,?_⟩;rw[bQ,e];exact(aY h).symm
section
variable {P:Program} {w:World} {K:PySem.W.Frag} {mg:Str->Option Value} {base:Heap}
theorem mf:aI ["out_lists","start","distances","reached","at","house","other"] ["out_lists","start"] (am EN):=⟨rfl,rfl,rfl,by decide +kernel,rfl,by decide +kernel,by decide +kernel⟩
def vw:Sp:=fun vs H Q _=>∃ (ol:Addr) (n s:Nat) (ts:Ts),vs=[.ref ol,.int s]/\eW n ts/\s<n/\cU H ol n ts/\
 ∀ (r:Addr) (H':Hp),aM H H'->H r=none->H' r=some (.lst (NV ((List.range n).map (far ts s))))->Q (.ref r) H'
theorem Ik{f:Addr}{fd:FuncData}(F:fX K "distances_from" "distances_from" EN f fd)(B:Bl mg):bz P w K mg base be 1 f fd ["out_lists","start"] vw:=by
 refine F.ok mf (fun vs H Q E h=>?_) (fun dQ A outer s H vs Q E hr h=>?_)
 .obtain⟨ol,n,s,ts,rfl,_⟩:=h;rfl
 .obtain⟨ol,n,st,ts,rfl,fi,hs,O,k⟩:=h;have n1:=fi.n1;have n2:=fi.n2;refine'⟨_,ah (gQ (i:=2) (g:=bH 0) (NB:=["others"]) (src:=[none]) (cj (by kernel_rfl)) rfl (cJ (pv 0)) ?g ?t ?e mf.nd rfl rfl rfl)
   (ah (i9 aq (nJ (pv 2) (pv 1) iJ))
   (ah (aL (i:=3) mf.nd rfl (Or.inl rfl) (dS (aa (pv 1) ag)))
   (ah (aL (i:=4) mf.nd rfl (Or.inl rfl) aq)
   (ah (qw eR (aK oI (pv 4) (au aD (by rfl) B.len ce (aa (pv 3) ag)) (aO _))
    (ah (aL (i:=5) mf.nd rfl (Or.inl rfl) (aA aB (pv 3) (pv 4) (fun _ _=>rfl)))
    (ah (dR eR rfl (cJ (aA aB (pv 0) (pv 5) (fun _ _=>rfl))) (aF (i:=6) mf.nd rfl (Or.inl rfl))
     (al (bx (aK jY (aA aB (pv 2) (pv 6) (fun _ _=>rfl)) cu (aO _))
      (ah (i9 (bC dF (aA aB (pv 2) (pv 5) (fun _ _=>rfl)) aq) (nJ (pv 2) (pv 6) iJ))
      (al (cw (gO gI jp jo cC (pv 3) (aa (pv 6) ag))))) aS)))
    (al (Do (i:=4) mf.nd rfl (Or.inl rfl) aq Dp)))))
   (al (aH (pv 2))))))),?_⟩
  case g=>exact fun cl C s₃ H₃ fp=>aF (i:=0) nbO rfl (Or.inl rfl) (Or.inr rfl)
  case t=>exact fun cl C s₃ H₃ fp=>fT
  case e=>exact fun cl C s₃ H₃ fp=>cu
  obtain⟨bs,Kd,VE,Op⟩:=id O;refine⟨_,rfl,ol,rfl,⟨_,aV.of Kd⟩,fun D hD=>?_⟩;have nol:ol≠D:=ak Kd hD;refine ff (xs:=bs.map V.ref) (fun i ys σ H2=>(∃a,σ=[a])/\ys=List.replicate i V.bJ/\H2=upd H D (.lst ys)) ⟨⟨_,rfl⟩,rfl,rfl⟩ (fun i ys σ H2 _ ⟨_,_,e⟩=>by rw[e];exact aV.of (by rw[ai nol];exact Kd)) ?_ ?_
  .rintro i x ys σ H2 Kt Kf hx ⟨⟨a,rfl⟩,rfl,rfl⟩ kt kf;have hi:=(Ks hx).1;refine kt _ _ _ af ?_ ⟨⟨_,rfl⟩,?_,by rw[ie]⟩
   .rw[pR];exact bV hi (by rw[VE];exact bj n2 (by decide))
   .rw[List.replicate_succ']
  .rintro ys σ H2 ⟨_,rfl,rfl⟩;rw[aG,VE];refine⟨_,rfl,_,rfl,D,_,st,st,rfl,rfl,af,by rw[pR];exact kN hs,?_⟩;rw[ie,zM hs];refine⟨_,rfl,by show 1<=sizeLine;decide,fun R hR=>?_⟩;have Ku:D≠R:=ak (H:=upd H D (.lst (k_ n [st] (fun _=>0)))) af hR;have Qv:H R=none:=by rw[ai Ku.symm] at hR;exact hR
   refine wr (fun σ H2=>∃ (i:Nat) (Rs:List Nat) (f:Nat->Nat),i<=Rs.length/\xQ n ts st i Rs f/\(∃a b,σ=[some (.ref ol),some (.int st),some (.ref D),some (.ref R),some (.int (i:Int)),a,b])/\aM H H2/\H2 D=some (.lst (k_ n Rs f))/\H2 R=some (.lst (NV Rs)))
    (fun σ _=>n-Kr σ) ⟨0,[st],fun _=>0,dv _,xQ.start hs,⟨none,none,rfl⟩,bU (aj hD) Qv,?_,af⟩ ?_ ?_
   .rw[ai Ku,af]
   .rintro σ H2 ⟨i,Rs,f,hi,Bf,⟨a,b,rfl⟩,sm,m5,Oy⟩;have hRn:Rs.length<=n:=eJ Bf.nd Bf.lt;refine⟨_,rfl,_,rfl,R,_,rfl,.inl (aV.of Oy),_,_,rfl,rfl,_,rfl,?_⟩;rw[re];by_cases tE:i<Rs.length
    .rw[show decide ((i:Int)<((Rs.length:Nat):Int))=true by simp;lia];refine G9 ?_;have hu:Rs[i]?=some Rs[i]:=bY tE;generalize Rs[i]=u at hu;have Il:u<n:=Bf.lt u (dW hu);have Tf:(NV Rs)[i]?=some (.int (u:Int)):=by rw[bq,hu];rfl
     refine⟨_,rfl,_,rfl,R,_,_,_,rfl,rfl,aV.of Oy,bO Tf,?_⟩;have Qw:(bs.map V.ref)[u]?=some (.ref (bs.getD u 0)):=by
      rw[bq,bQ,bY (by rw[VE];exact Il)];rfl
     have Ms:=sm _ _ (Op _ Il);refine⟨_,rfl,_,rfl,ol,_,_,_,rfl,rfl,aV.of (sm _ _ Kd),bO Qw,_,rfl,⟨_,aV.of Ms⟩,?_⟩;have nbD:bs.getD u 0≠D:=ak (Op _ Il) hD;have nbR:bs.getD u 0≠R:=ak (Op _ Il) Qv;refine jX (K:=K) (xs:=NV (fg n ts u)) (fun j σ H3=>∃ (gp:List Nat) (f':Nat->Nat),xQ n ts st i gp f'/\gp[i]?=some u/\(∀v∈(fg n ts u).take j,v∈gp/\f' v<=f' u+1)/\
      (∃b,σ=[some (.ref ol),some (.int st),some (.ref D),some (.ref R),some (.int (i:Int)),some (.int (u:Int)),b])/\aM H H3/\H3 D=some (.lst (k_ n gp f'))/\H3 R=some (.lst (NV gp)))
      ⟨Rs,f,Bf,hu,fun v hv=>by simp at hv,⟨_,rfl⟩,sm,m5,Oy⟩ (fun j σ H3 _ ⟨_,_,_,_,_,_,si,_⟩=>aV.of (si _ _ (Op _ Il))) ?_ ?_
     .rintro j x σ H3 hx ⟨gp,f',tJ,wI,dn,⟨b',rfl⟩,si,jE,vV⟩;rw[bq] at hx;cases hv:(fg n ts u)[j]? with
      |none=>rw[hv] at hx;cases hx
      |some v=>
       rw[hv] at hx;obtain rfl:V.int ((v:Nat):Int)=x:=aY hx;have Oz:v∈fg n ts u:=dW hv;have EQ:v<n:=AR fi Il Oz;have VF:T ts u v:=(kd fi Il).mp Oz;have tk:(fg n ts u).take (j+1)=(fg n ts u).take j++[v]:=by rw[hX,hv];rfl
       have ER:u∈gp:=dW wI;refine⟨_,rfl,_,rfl,D,_,_,_,rfl,rfl,aV.of jE,bO (kq EQ),rfl,_,rfl,?_⟩;by_cases zN:v∈gp
       .rw[ao zN];refine l5 ⟨gp,f',tJ,wI,fun x hx=>?_,⟨_,rfl⟩,si,jE,vV⟩;rw[tk] at hx;rcases bg.mp hx with z|z
        .exact dn x z
        .simp at z;subst z;exact⟨zN,tJ.bd u wI _ zN⟩
       .rw[ap zN];refine G9 ?_;have hg2:(k_ n gp f')[u]?=some (.int ((f' u:Nat):Int)):=by rw[kq Il,ao ER]
        refine⟨_,rfl,_,rfl,D,_,_,_,rfl,rfl,aV.of jE,bO hg2,_,_,rfl,rfl,_,rfl,_,rfl,D,_,_,_,rfl,rfl,jE,by rw[kn];exact kN EQ,?_⟩;have e1:(k_ n gp f').set v (.int (((f' u:Nat):Int)+1))=k_ n (gp++[v]) (put f' v (f' u+1)):=by
         rw[show ((f' u:Nat):Int)+1=((f' u+1:Nat):Int) by lia,EO EQ]
        rw[e1];have rO:(upd H3 D (.lst (k_ n (gp++[v]) (put f' v (f' u+1))))) R=some (.lst (NV gp)):=by rw[ai Ku.symm];exact vV
        have ES:gp.length<=n:=eJ tJ.nd tJ.lt;refine⟨_,rfl,.inl ⟨rfl,_,aV.of rO⟩,_,rfl,R,_,_,rfl,rfl,rO,by rw[re];exact bV (show gp.length<33 by lia) (by decide),?_⟩;have mn:i<gp.length:=(cM.mp wI).1;have VG:u≠v:=fun z=>zN (z ▸ ER);refine⟨gp++[v],put f' v (f' u+1),tJ.add wI EQ VF zN,by rw[iC mn];exact wI,fun x hx=>?_,⟨_,rfl⟩,bU (bU si hD) Qv,?_,?_⟩
        .rw[eY VG];rw[tk] at hx;rcases bg.mp hx with z|z
         .obtain⟨q1,q2⟩:=dn x z;exact⟨hW _ q1,by rw[eY (fun (z:x=v)=>zN (z ▸ q1))];exact q2⟩
         .simp at z;subst z;exact⟨by simp,by rw[gR];exact ba _⟩
        .rw[ai Ku,af]
        .rw[af];show _=some (HO.lst (NV (gp++[v])));rw[show NV (gp++[v])=NV gp++[.int (v:Int)] by unfold NV;rw[cP];rfl]
     .rintro σ H3 ⟨gp,f',tJ,wI,dn,⟨b',rfl⟩,si,jE,vV⟩;rw[re,h9] at dn;have mn:i<gp.length:=(cM.mp wI).1;have ES:gp.length<=n:=eJ tJ.nd tJ.lt;refine⟨_,rfl,_,_,rfl,rfl,⟨⟨i+1,gp,f',mn,tJ.next wI (fun v t=>dn v ((kd fi Il).mpr t)),⟨_,_,rfl⟩,si,jE,vV⟩,?_⟩⟩;show n-((i:Int)+1).toNat<n-(i:Int).toNat;lia
    .rw[show decide ((i:Int)<((Rs.length:Nat):Int))=false by rw[decide_eq_false_iff_not];lia];have e:k_ n Rs f=NV ((List.range n).map (far ts st)):=by
      unfold k_ NV;rw[ic];refine jI fun x hx=>?_;obtain⟨q1,q2⟩:=Bf.done fi (by lia) (bL.mp hx);rw[ao q1,q2];rfl
     rw[e] at m5;refine l5 ⟨_,rfl,k D H2 sm hD m5⟩
   .rintro σ H2 Q1 Q2 imp ⟨v,e1,v2,e2,p,ys,e3,e4,i1,i2,e5,e6,kk,e7,q⟩;exact⟨v,e1,v2,e2,p,ys,e3,e4,i1,i2,e5,e6,kk,e7,imp _ _ q⟩
end
theorem Qx:(["row"]:List Str).Nodup:=by decide +kernel
section
variable {P:Program} {w:World} {K:PySem.W.Frag} {mg:Str->Option Value} {base:Heap}
theorem Im:aI ["distances"] ["distances"] (am zK):=⟨rfl,rfl,rfl,by decide +kernel,rfl,by decide +kernel,by decide +kernel⟩
def vx:Sp:=fun vs H Q _=>∃ (l:Addr) (ds:List Addr) (n:Nat) (o:Nat->List V),vs=[.ref l]/\H l=some (.lst (ds.map V.ref))/\n<=32/\Holds H ds n (fun j=>.lst (o j))/\(∀j,j<n->∀x∈o j,∃i,x=.int i)/\∀H',aM H H'->Q .bJ H'
theorem ET(F:fX K "check_reached" "check_reached" zK f fd)(B:Bl mg):bz P w K mg base be 1 f fd ["distances"] vx:=by
 refine F.ok Im (fun vs H Q E h=>?_) (fun dQ A outer s H vs Q E hr h=>?_)
 .obtain⟨l,ds,n,o,rfl,_⟩:=h;rfl
 .obtain⟨l,ds,n,o,rfl,hl,n2,hh,hx,k⟩:=h;refine'⟨_,al (bx (dE (au (B8 rfl) (by rfl) B.any PyProof.Rows.boot_any (aa ?c ag))) dO aS),?_⟩;case c=>
   refine' cK (g:=bH 0) (te:=mE (SS K false) (tC .bJ) (bb 0)) (NB:=["row"]) (src:=[none]) (cj (by kernel_rfl)) rfl (cJ (pv 0)) ?g ?t ?e;case g=>exact fun cl C s₃ H₃ fp=>aF (i:=0) Qx rfl (Or.inl rfl) (Or.inr rfl)
   case t=>exact fun cl C s₃ H₃ fp=>fT
   case e=>exact fun cl C s₃ H₃ fp=>dG nR cu (pv 0) rfl
  refine⟨_,rfl,l,rfl,⟨_,aV.of hl⟩,fun D hD=>?_⟩;have nl:l≠D:=ak hl hD;refine ff (xs:=ds.map V.ref) (fun i ys σ H2=>(∃a,σ=[a])/\ys=(List.replicate i false).map V.bl/\H2=upd H D (.lst ys)) ⟨⟨_,rfl⟩,rfl,rfl⟩ (fun i ys σ H2 _ ⟨_,_,e⟩=>by rw[e];exact aV.of (by rw[ai nl];exact hl)) ?_ ?_
  .rintro i x ys σ H2 Kt Kf hxi ⟨⟨a,rfl⟩,rfl,rfl⟩ kt kf;obtain⟨hi,rfl⟩:=Ks hxi;rw[hh.1] at hi;have hd:=hh.2 i hi;have nd:ds.getD i 0≠D:=ak hd hD;have q1:(o i).all gv=true:=lL.mpr fun x s_=>by obtain⟨z,rfl⟩:=hx i hi x s_;rfl
   have q2:DK .bJ (o i)=false:=by
    unfold DK;rw[yy];intro x s_;obtain⟨z,rfl⟩:=hx i hi x s_;exact fun z=>by cases z
   refine⟨_,rfl,_,_,rfl,.inl (aV.of (by rw[ai nd];exact hd)),rfl,q1,?_⟩;refine kt _ _ _ af ?_ ⟨⟨_,rfl⟩,?_,by rw[ie]⟩
   .rw[aG,pR];exact bV hi (bj n2 (by decide))
   .rw[List.replicate_succ',cP,q2];rfl
  .rintro ys σ H2 ⟨_,rfl,rfl⟩;refine⟨D,_,rfl,aV.of af,_,rfl,?_⟩;have e:(List.replicate (ds.map V.ref).length false).any id=false:=by
    rw[yy];intro x s_;rw[(List.mem_replicate.mp s_).2];decide
   rw[e];exact l5 (k _ (aj hD))
end
theorem YY:(["one","other"]:List Str).Nodup:=by decide +kernel
theorem Qy:(["house","many","ties"]:List Str).Nodup:=by decide +kernel
theorem VH:(["house","self"]:List Str).Nodup:=by decide +kernel
def lB(p Pt:Addr)(H H':Hp):Prop:=∀b o,H b=some o->b≠p->b≠Pt->H' b=some o
theorem fw.mono(h:fw H l n zs)(e:lB p Pt H H')(hp:H p=some (.ins C dx fs))(tb:pI Pt H):fw H' l n zs:=
 ⟨h.km,e _ _ h.at_ (cA h.at_ hp (by intro z;cases z)) (tb.not h.at_ (by intro ps z;cases z)),fun z hz=>e _ _ (h.po z hz) (cA (h.po z hz) hp (by intro z;cases z)) (tb.not (h.po z hz) (by intro ps z;cases z))⟩
theorem pI.mono(t:pI Pt H)(e:∀b o,H b=some o->b≠p->H' b=some o)(hp:H p=some (.ins C dx fs)):pI Pt H':=by
 rcases t with z|⟨c,z,y⟩
 .exact .inl (e _ _ z (cA z hp (by intro q;cases q)))
 .exact .inr ⟨c,e _ _ z (cA z hp (by intro q;cases q)),e _ _ y (cA y hp (by intro q;cases q))⟩
theorem pI.full(t:pI Pt H):H Pt≠none:=by
 rcases t with z|⟨c,z,y⟩ <;> rw[z] <;> intro q <;> cases q
theorem lB.free(s:lB p Pt H H')(hp:H' p≠none)(tb:pI Pt H')(h:H' r=none):H r=none:=by
 cases z:H r with
 |none=>rfl
 |some o=>
  by_cases e1:r=p
  .subst e1;exact absurd h hp
  .by_cases e2:r=Pt
   .subst e2;exact absurd h tb.full
   .rw[s r o z e1 e2] at h;cases h
theorem Qz(h:k [] H):jB σ H k:=h
theorem kS{H:Hp}{p:Addr}{o:HO}(h:H p=some o):H p≠none:=by rw[h];intro z;cases z
section
variable {P:Program} {w:World} {K:PySem.W.Frag} {mg:Str->Option Value} {base:Heap}
theorem Mt:aI ["self","many","ties"] ["self","many","ties"] (am AS):=⟨rfl,rfl,rfl,by decide +kernel,rfl,by decide +kernel,by decide +kernel⟩
def vy(C Pt:Addr):Sp:=fun vs H Q E=>∃ (p dx:Addr) (n:Nat) (l:Addr) (zs:Zs),vs=[.ref p,.int n,.ref l]/\H p=some (.ins C dx [])/\fw H l n zs/\pI Pt H/\
  ∀H',cZ C H' (fun a=>H a=none) p n (zp zs)->pI Pt H'->lB p Pt H H'->Q .bJ H'
theorem Io{f C Pt:Addr}{fd:FuncData}(F:fX K "__init__" "Net.__init__" AS f fd)(T:NT K mg C)(B:Bl mg)(CT:cp P w K mg base be 6 "check_ties" ["many","ties"] kR)(CB:cp P w K mg base be 1 "check_balance" ["many","ties"] kR)(HO':cp P w K mg base be 1 "houses_out" ["many","ties","house"] (vv Pt))(DF:cp P w K mg base be 1 "distances_from" ["out_lists","start"] vw)(CR:cp P w K mg base be 1 "check_reached" ["distances"] vx):
  bz P w K mg base be 7 f fd ["self","many","ties"] (vy C Pt):=by
 refine F.ok Mt (fun vs H Q E h=>?_) (fun dQ A outer s H vs Q E hr h=>?_)
 .obtain⟨p,dx,n,l,zs,rfl,_⟩:=h;rfl
 .have Mu:b_ 1 _:=hr.mono (by decide);refine'⟨_,ah (cw (aE CT hr aQ (aa (pv 1) (aa (pv 2) ag))))
   (ah (cw (aE CB Mu aQ (aa (pv 1) (aa (pv 2) ag))))
   (ah (uO (pv 0) (pv 1) rfl)
   (ah (uO (pv 0) (au zD (by rfl) B.sorted Dg (aa ?c1 ag)) rfl)
   (ah (uO (pv 0) ?c2 rfl)
   (ah (uO (pv 0) ?c3 rfl)
   (al (cw (aE CR Mu aQ (aa (nN (pv 0) rfl) ag))))))))),?_⟩
  case c1=>
   refine' cK (g:=wn K 2 (gK (bH 0) (gK (bH 1) wg))) (te:=y3 (bT (bb 0) (bT (bb 1) jB))) (NB:=["one","other"]) (src:=[none,none]) (cj (by kernel_rfl)) rfl (cJ (pv 2)) ?g ?t ?e;case g=>exact fun cl C s₃ H₃ fp=>gL (n:=2) rfl (bu (aF (i:=0) YY rfl (Or.inl rfl) (Or.inr rfl)) (bu (aF (i:=1) YY rfl (Or.inl rfl) (Or.inr rfl)) ft))
   case t=>exact fun cl C s₃ H₃ fp=>fT
   case e=>exact fun cl C s₃ H₃ fp=>fN (aa (pv 0) (aa (pv 1) ag))
  case c2=>
   refine' cK (g:=bH 0) (te:=qB (vv Pt) [] E0 (bT (bb 1) (bT (bb 2) (bT (bb 0) jB)))) (NB:=["house","many","ties"]) (src:=[none,some 1,some 2]) (cj (by kernel_rfl)) rfl (dP rfl B.range (aa (pv 1) ag)) ?g ?t ?e;case g=>exact fun cl C s₃ H₃ fp=>aF (i:=0) Qy rfl (Or.inl rfl) (Or.inr rfl)
   case t=>exact fun cl C s₃ H₃ fp=>fT
   case e=>exact fun cl C s₃ H₃ fp=>aE HO' Mu aQ (aa (pv 1) (aa (pv 2) (aa (pv 0) ag)))
  case c3=>
   refine' cK (g:=bH 0) (te:=qB vw [] E0 (bT (Ll K (bb 1) "out_lists") (bT (bb 0) jB))) (NB:=["house","self"]) (src:=[none,some 0]) (cj (by kernel_rfl)) rfl (dP rfl B.range (aa (pv 1) ag)) ?g ?t ?e;case g=>exact fun cl C s₃ H₃ fp=>aF (i:=0) VH rfl (Or.inl rfl) (Or.inr rfl)
   case t=>exact fun cl C s₃ H₃ fp=>fT
   case e=>exact fun cl C s₃ H₃ fp=>aE DF Mu aQ (aa (nN (pv 1) rfl) (aa (pv 0) ag))
  obtain⟨p,dx,n,l,zs,rfl,hp,TT,tb,k⟩:=h;have fi:=TT.km;have n1:=fi.n1;have n2:=fi.n2;have eC:zs.length<=256:=by have:=fi.len;rw[eO] at this;exact this
  refine⟨_,rfl,_,rfl,n,l,zs,rfl,TT,fun H1 s1=>?_⟩;refine⟨_,rfl,_,rfl,n,l,zs,rfl,TT.same s1,fun H2 s2=>?_⟩;have Mv:aM H H2:=s1.trans s2;refine⟨_,rfl,_,rfl,p,C,dx,[],rfl,Mv _ _ hp,T.cl,T.nH,(by show 0<1000;decide),?_⟩
  let G1:Hp:=upd H2 p (.ins C dx (dI "house_count" (.int n) []))
  have d1:lB p Pt H G1:=fun b o e h1 _=>by show upd _ _ _ _=_;rw[ai h1];exact Mv _ _ e
  have Tg:G1 p=some (.ins C dx (dI "house_count" (.int n) [])):=af;have VI:fw G1 l n zs:=TT.mono d1 hp tb;have Kv:pI Pt G1:=tb.mono (fun b o e h1=>by show upd _ _ _ _=_;rw[ai h1];exact Mv _ _ e) hp;refine⟨_,rfl,l,rfl,⟨_,aV.of VI.at_⟩,fun D hD=>?_⟩;refine EG (fun y=>y) (fun σ=>∃a b,σ=[a,b]) VI.at_ VI.po hD (by lia) ⟨_,_,rfl⟩ ?_ ?_
  .rintro z σ H3 R Kf hz ⟨a,b,rfl⟩ ha kk;refine⟨_,_,rfl,cR.of ha,rfl,_,_,rfl,_,_,rfl,rfl,?_⟩;exact⟨_,rfl,_,rfl,by show 2<=sizeLine;decide,fun t ht=>kk _ _ ⟨_,_,rfl⟩ ht⟩
  .intro YZ H3 sm jE AW ez fr2;rw[List.map_id'] at ez;have UK:YZ.length=zs.length:=by rw[<-eO,ez,eO]
   refine Qz ?_;refine HX jE AW (by lia) (fun u hu=>by have:=(fi.rg u (ez ▸ hu)).2;lia) fun tl OB VJ pm ord=>?_;have VL:H tl=none:=d1.free (kS Tg) Kv (sm.free VJ);have Le:∀z∈OB,H z.1=none:=fun z hz=>d1.free (kS Tg) Kv (fr2 z (pm.mem_iff.mp hz));have VM:H3 p=some (.ins C dx (dI "house_count" (.int n) [])):=sm _ _ Tg;have Mw:p≠tl:=ak VM VJ;refine⟨_,rfl,p,C,dx,_,rfl,by rw[ai Mw];exact VM,T.cl,T.nT,by show 1<1000;decide,?_⟩
   let G2:Hp:=upd (upd H3 tl (.lst (zr OB))) p (.ins C dx (dI "tie_list" (.ref tl) (dI "house_count" (.int n) [])))
   have q2:∀b o,H3 b=some o->b≠p->G2 b=some o:=fun b o e h1=>by
    show upd _ _ _ _=_;rw[ai h1,ai (ak e VJ)];exact e
   have d2:lB p Pt H G2:=fun b o e h1 h2=>q2 _ _ (sm _ _ (d1 _ _ e h1 h2)) h1;have Y0:G2 tl=some (.lst (zr OB)):=by show upd _ _ _ _=_;rw[ai Mw.symm,af]
   have VN:PO G2 OB:=fun z hz=>q2 _ _ (AW z (pm.mem_iff.mp hz)) (cA (AW z (pm.mem_iff.mp hz)) VM (by intro z;cases z));have Mx:G2 p=some (.ins C dx (dI "tie_list" (.ref tl) (dI "house_count" (.int n) []))):=af;have TT2:fw G2 l n zs:=TT.mono d2 hp tb;have AX:pI Pt G2:=Kv.mono (fun b o e h1=>q2 _ _ (sm _ _ e) h1) Tg;refine⟨_,rfl,n,rfl,by lia,by lia,fun D2 m5=>?_⟩;refine jc (n:=n) (lo:=0) (fun i ys σ H4=>(∃a,σ=[a,some (.int n),some (.ref l)])/\∃bs:List Addr,ys=bs.map V.ref/\(∀b∈bs,H b=none)/\Holds H4 bs i (fun h=>.lst (NV (fg n (zp zs) h)))/\cg Pt G2 H4/\pI Pt H4/\H4 D2=some (.lst ys)/\∀b∈bs,b≠D2)
    ⟨⟨_,rfl⟩,[],rfl,(fun _ h=>nomatch h),Holds.nil,cg.of (aj m5),AX.same (aj m5),af,(fun _ h=>nomatch h)⟩ ?_ ?_
   .rintro i ys σ H4 Kt Kf hi ⟨⟨a,rfl⟩,bs,rfl,VO,hb,rf,Kw,tK,VP⟩ kt kf;have TT4:fw H4 l n zs:=TT2.mono (p:=p) (fun b o e _ h2=>rf _ _ e h2) Mx AX;have OC:=rf _ _ Mx (AX.not Mx (by intro ps z;cases z));refine⟨_,rfl,_,rfl,_,rfl,n,l,i,zs,by rw[jS];rfl,hi,TT4,Kw,fun r H5 t5 Ae Th hr5=>?_⟩;have VQ:H r=none:=lB.free (fun b o e h1 h2=>rf _ _ (d2 _ _ e h1 h2) h2) (kS OC) Kw Th;have Ti:H5 D2=some (.lst (bs.map V.ref)):=Ae _ _ tK (Kw.not tK (by intro ps z;cases z));have QA:r≠D2:=by rintro rfl;rw[tK] at Th;cases Th
    have lC:∀b o o7,H5 b=some o->b≠D2->(upd H5 D2 o7) b=some o:=fun b o o7 e h=>by rw[ai h];exact e
    refine kt _ _ _ Ti (by rw[aG,hb.1];exact bV hi (bj n2 (by decide))) ⟨⟨_,rfl⟩,bs++[r],by rw[cP];rfl,?_,?_,?_,?_,af,?_⟩
    .intro b o6;rcases bg.mp o6 with z|z
     .exact VO b z
     .rw[bK.mp z];exact VQ
    .refine Holds.snoc (hb.mono fun j hj e=>?_) (lC _ _ _ hr5 QA);refine lC _ _ _ (Ae _ _ e (Kw.not e (by intro ps z;cases z))) (VP _ ?_);rw[bQ,bY (by rw[hb.1];exact hj)];exact gJ _
    .intro b o e h;exact lC _ _ _ (Ae _ _ (rf _ _ e h) h) (ak e m5)
    .rcases t5 with z|⟨c,z,y⟩
     .exact .inl (lC _ _ _ z (cA z Ti (by intro q;cases q)))
     .exact .inr ⟨c,lC _ _ _ z (cA z Ti (by intro q;cases q)),lC _ _ _ y (cA y Ti (by intro q;cases q))⟩
    .intro b o6;rcases bg.mp o6 with z|z
     .exact VP b z
     .rw[bK.mp z];exact QA
   .rintro ys σ H4 ⟨_,bs,rfl,VO,hb,rf,Kw,tK,VP⟩;have OC:H4 p=some (.ins C dx (dI "tie_list" (.ref tl) (dI "house_count" (.int n) []))):=rf _ _ Mx (AX.not Mx (by intro ps z;cases z));have VR:H D2=none:=d2.free (kS Mx) AX m5;refine⟨_,rfl,p,C,dx,_,rfl,OC,T.cl,T.nO,by have h1:=eB "tie_list" (V.ref tl) (dI "house_count" (V.int n) []);have h2:=eB "house_count" (V.int n) [];simp at h2;lia,?_⟩
    let G3:Hp:=upd H4 p (.ins C dx (dI "out_lists" (.ref D2) (dI "tie_list" (.ref tl) (dI "house_count" (.int n) []))))
    have q3:∀b o,H4 b=some o->b≠p->G3 b=some o:=fun b o e h1=>by show upd _ _ _ _=_;rw[ai h1];exact e
    have My:G3 p=some (.ins C dx (dI "out_lists" (.ref D2) (dI "tie_list" (.ref tl) (dI "house_count" (.int n) [])))):=af;have d3:lB p Pt H G3:=fun b o e h1 h2=>q3 _ _ (rf _ _ (d2 _ _ e h1 h2) h2) h1;have Gr:pI Pt G3:=Kw.mono q3 OC;have Y1:Holds G3 bs n (fun h=>.lst (NV (fg n (zp zs) h))):=hb.mono fun j hj e=>q3 _ _ e (cA e OC (by intro z;cases z));have VS:G3 D2=some (.lst (bs.map V.ref)):=q3 _ _ tK (cA tK OC (by intro z;cases z));have O3:cU G3 D2 n (zp zs):=⟨bs,VS,Y1⟩
    refine⟨_,rfl,n,rfl,by lia,by lia,fun D3 Mz=>?_⟩;refine jc (n:=n) (lo:=0) (fun i ys σ H6=>(∃a,σ=[a,some (.ref p)])/\∃ds:List Addr,ys=ds.map V.ref/\(∀b∈ds,H b=none)/\Holds H6 ds i (fun s=>.lst (NV ((List.range n).map (far (zp zs) s))))/\aM G3 H6/\H6 D3=some (.lst ys)/\∀b∈ds,b≠D3)
     ⟨⟨_,rfl⟩,[],rfl,(fun _ h=>nomatch h),Holds.nil,aj Mz,af,(fun _ h=>nomatch h)⟩ ?_ ?_
    .rintro i ys σ H6 Kt Kf hi ⟨⟨a,rfl⟩,ds,rfl,VT,hd,C3,EU,Pg⟩ kt kf;refine⟨_,rfl,p,C,dx,_,_,rfl,C3 _ _ My,T.cl,T.nO,by rw[bn,ao rfl],_,rfl,D2,n,i,zp zs,by rw[jS];rfl,fi,hi,O3.same C3,fun r H7 VU VW hr7=>?_⟩;have e7D:H7 D3=some (.lst (ds.map V.ref)):=VU _ _ EU;have QA:r≠D3:=by rintro rfl;rw[EU] at VW;cases VW
     have VQ:H r=none:=lB.free (fun b o e h1 h2=>C3 _ _ (d3 _ _ e h1 h2)) (kS (C3 _ _ My)) (Gr.same C3) VW;have lC:∀b o o7,H7 b=some o->b≠D3->(upd H7 D3 o7) b=some o:=fun b o o7 e h=>by rw[ai h];exact e
     refine kt _ _ _ e7D (by rw[aG,hd.1];exact bV hi (bj n2 (by decide))) ⟨⟨_,rfl⟩,ds++[r],by rw[cP];rfl,?_,?_,?_,af,?_⟩
     .intro b o6;rcases bg.mp o6 with z|z
      .exact VT b z
      .rw[bK.mp z];exact VQ
     .refine Holds.snoc (hd.mono fun j hj e=>?_) (lC _ _ _ hr7 QA);refine lC _ _ _ (VU _ _ e) (Pg _ ?_);rw[bQ,bY (by rw[hd.1];exact hj)];exact gJ _
     .intro b o e;exact lC _ _ _ (VU _ _ (C3 _ _ e)) (ak e Mz)
     .intro b o6;rcases bg.mp o6 with z|z
      .exact Pg b z
      .rw[bK.mp z];exact QA
    .rintro ys σ H6 ⟨_,ds,rfl,VT,hd,C3,EU,Pg⟩;have QB:=C3 _ _ My;refine⟨_,rfl,p,C,dx,_,rfl,QB,T.cl,T.nD,by have h1:=eB "tie_list" (V.ref tl) (dI "house_count" (V.int n) []);have h2:=eB "house_count" (V.int n) [];have h3:=eB "out_lists" (V.ref D2) (dI "tie_list" (V.ref tl) (dI "house_count" (V.int n) []));simp at h2;lia,?_⟩;have q4:∀b o u,H6 b=some o->b≠p->(upd H6 p u) b=some o:=fun b o u e h1=>by rw[ai h1];exact e
     refine⟨_,rfl,p,C,dx,_,_,rfl,af,T.cl,T.nD,by rw[bn,ao rfl],D3,ds,n,fun s=>NV ((List.range n).map (far (zp zs) s)),rfl,q4 _ _ _ EU (cA EU QB (by intro z;cases z)),n2,hd.mono fun j hj e=>q4 _ _ _ e (cA e QB (by intro z;cases z)),fun j hj x hx=>?_,fun H8 s8=>?_⟩
     .obtain⟨y,hy,rfl⟩:=cf.mp hx;exact⟨_,rfl⟩
     .have up:∀b o,G3 b=some o->b≠p->H8 b=some o:=fun b o e h1=>s8 _ _ (q4 _ _ _ (C3 _ _ e) h1);have VX:H D3=none:=d3.free (kS My) Gr Mz;have Y2:∀b o,G2 b=some o->b≠p->b≠Pt->H8 b=some o:=fun b o e h1 h2=>up _ _ (q3 _ _ (rf _ _ e h2) h1) h1;refine k H8 ⟨fi,dx,tl,D2,D3,s8 _ _ af,VR,VX,⟨bs,up _ _ VS (cA VS My (by intro z;cases z)),VO,Y1.mono fun j hj e=>up _ _ e (cA e My (by intro z;cases z))⟩,
       ⟨ds,s8 _ _ (q4 _ _ _ EU (cA EU QB (by intro z;cases z))),VT,hd.mono fun j hj e=>s8 _ _ (q4 _ _ _ e (cA e QB (by intro z;cases z)))⟩,
       ⟨VL,OB,Y2 _ _ Y0 Mw.symm (AX.not Y0 (by intro ps z;cases z)),fun z hz=>Y2 _ _ (VN z hz) (cA (VN z hz) Mx (by intro z;cases z)) (AX.not (VN z hz) (by intro ps z;cases z)),Le,((show (zp OB).Perm (zp YZ) from pm.map _).trans (uy ez)),ord⟩⟩ ?_ fun b o e h1 h2=>up _ _ (d3 _ _ e h1 h2) h1
      exact Gr.mono up My
end
end dU
namespace xk
open PySem L2
def gG(i:Nat):Stmt:=PySem.Challenge.pw_neverwait_k63_whole_trees_by_eager_handi.main.body.getD i (.Pass ⟨0,0,0,0⟩)
abbrev MA:Stmt:=gG 37
abbrev EV:Stmt:=gG 38
abbrev EW:Stmt:=gG 39
structure Bl(mg:Str->Option Value):Prop where
 EB:mg "isinstance"=none
 int:mg "int"=none
 bool:mg "bool"=none
 lst:mg "list"=none
 tup:mg "tuple"=none
 dict:mg "dict"=none
 len:mg "len"=none
 range:mg "range"=none
 enum:mg "enumerate"=none
 all:mg "all"=none
 abs:mg "abs"=none
 max:mg "max"=none
 min:mg "min"=none
 repr:mg "repr"=none
def aW(H:Hp)(p:Addr):Prop:=∃a b:Int,H p=some (.lst [.int a,.int b])/\0<=a/\0<=b/\b<2147483647
theorem aW.same{H H':Hp}{p:Addr}(h:aW H p)(s:aM H H'):aW H' p:=let ⟨a,b,e,r⟩:=h;⟨a,b,s _ _ e,r⟩
theorem aW.upd{H:Hp}{p:Addr}{a b:Int}(h1:0<=a)(h2:0<=b)(h3:b<2147483647):aW (upd H p (.lst [.int a,.int b])) p:=⟨a,b,af,h1,h2,h3⟩
section
variable {P:Program} {w:World} {K:PySem.W.Frag} {mg:Str->Option Value} {base:Heap}
theorem AY:aI ["_law_script","_law_k","_law_cell","_law_mixed"] ["_law_script","_law_k"] (am MA):=⟨rfl,rfl,rfl,by decide +kernel,rfl,by decide +kernel,by decide +kernel⟩
def EX(K:PySem.W.Frag):Sp:=fun vs H Q _=>∃ (a:Addr) (ns:List Int) (k:Nat),vs=[.ref a,.int k]/\aV K H a (ns.map V.int)/\k<64/\∀ (r:Addr) (H':Hp),aM H H'->H r=none->aW H' r->Q (.ref r) H'
theorem EY{x:Int}(h0:0<=x)(h1:x<2 ^ 63):x.natAbs<2 ^ 64:=by lia
theorem MB{f:Addr}{fd:FuncData}(F:fX K "_law_pot" "_law_pot" MA f fd)(B:Bl mg):bz P w K mg base be 1 f fd ["_law_script","_law_k"] (EX K):=by
 refine F.ok AY (fun vs H Q E h=>?_) (fun dQ A outer s H vs Q E hr h=>?_)
 .obtain⟨a,ns,k,rfl,_⟩:=h;rfl
 .obtain⟨a,ns,k,rfl,hS,hk,q⟩:=h;refine⟨_,ah (aL (i:=2) AY.nd rfl (Or.inl rfl) aq)
   (ah (bx (aK oI (pv 1) (au aD (by rfl) B.len ce (aa (pv 0) ag)) (aO _)) (al (aL (i:=2) AY.nd rfl (Or.inl rfl) (aA aB (pv 0) (pv 1) (fun _ _=>rfl)))) aS)
   (ah (aL (i:=3) AY.nd rfl (Or.inl rfl) (bC gN (bC Dv (bC dF (bC dF (bC gN (au DA (by rfl) B.abs PyProof.Rows.boot_abs (aa (pv 2) ag)) aq) (bC yS aq (pv 1))) aq) aq) aq))
   (al (aH (dS (aa (au (sH rfl) (by rfl) B.max PyProof.Rows.boot_max (aa aq (aa (bC qz (pv 2) (bC Dv aq aq)) ag))) (aa (pv 3) ag))))))),?_⟩
  refine⟨_,rfl,_,rfl,a,ns.map V.int,rfl,.inl hS,_,_,rfl,rfl,_,rfl,?_⟩;have fin:∀c:Int,0<=(if c<0 then -c else c):=fun c=>by split <;> lia
  refine bR (fun e=>?_) (fun e=>?_)
  .have d9:k<ns.length:=by
    have:(k:Int)<((ns.map V.int).length:Int):=by simpa using e
    rw[aG] at this;lia
   refine⟨_,rfl,_,rfl,a,_,_,_,rfl,rfl,hS,bO (v:=.int ns[k]) (by rw[bq,bY d9];rfl),?_⟩;have m0:0<=(if ns[k]<0 then -ns[k] else ns[k]) % 2147483587:=iS _ (by decide);have m1:(if ns[k]<0 then -ns[k] else ns[k]) % 2147483587<2147483587:=mw _ (by decide);refine⟨_,rfl,_,rfl,_,_,rfl,rfl,(by show (0:Int)<2147483587;decide),_,rfl,_,_,rfl,rfl,.inl ⟨by decide,by decide⟩,_,_,rfl,rfl,_,_,rfl,rfl,_,_,rfl,rfl,⟨by decide,by decide,EY (by lia) (by lia)⟩,_,_,rfl,rfl,(by show (0:Int)<2147483629;decide),?_⟩;refine⟨_,rfl,_,_,rfl,rfl,⟨by decide,by decide,by decide⟩,_,_,rfl,rfl,0,_,rfl,_,rfl,by show 2<=sizeLine;decide,fun r vU=>?_⟩;refine q r _ (aj vU) vU ⟨_,_,af,?_,iS _ (by decide),Int.lt_trans (mw _ (by decide)) (by decide)⟩;split <;> lia
  .have m0:0<=(if (0:Int)<0 then -0 else (0:Int)) % 2147483587:=by decide
   have m1:(if (0:Int)<0 then -0 else (0:Int)) % 2147483587<2147483587:=by decide
   refine⟨_,rfl,_,rfl,_,_,rfl,rfl,(by show (0:Int)<2147483587;decide),_,rfl,_,_,rfl,rfl,.inl ⟨by decide,by decide⟩,_,_,rfl,rfl,_,_,rfl,rfl,_,_,rfl,rfl,⟨by decide,by decide,EY (by lia) (by lia)⟩,_,_,rfl,rfl,(by show (0:Int)<2147483629;decide),?_⟩;refine⟨_,rfl,_,_,rfl,rfl,⟨by decide,by decide,by decide⟩,_,_,rfl,rfl,0,_,rfl,_,rfl,by show 2<=sizeLine;decide,fun r vU=>?_⟩;refine q r _ (aj vU) vU ⟨_,_,af,?_,iS _ (by decide),Int.lt_trans (mw _ (by decide)) (by decide)⟩;split <;> lia
theorem EZ:aI ["_law_pot_here","_law_many","_law_digit"] ["_law_pot_here","_law_many"] (am EV):=⟨rfl,rfl,rfl,by decide +kernel,rfl,by decide +kernel,by decide +kernel⟩
def ku:Sp:=fun vs H Q _=>∃ (p:Addr) (m:Int),vs=[.ref p,.int m]/\0<m/\m<1000000/\aW H p/\∀ (d a b:Int),0<=d->d<m->0<=a->0<=b->b<2147483647->Q (.int d) (upd H p (.lst [.int a,.int b]))
theorem Ip{f:Addr}{fd:FuncData}(F:fX K "_law_take" "_law_take" EV f fd):bz P w K mg base be 1 f fd ["_law_pot_here","_law_many"] ku:=by
 refine F.ok EZ (fun vs H Q E h=>?_) (fun dQ A outer s H vs Q E hr h=>?_)
 .obtain⟨p,m,rfl,_⟩:=h;rfl
 .obtain⟨p,m,rfl,m0,m1,⟨a,b,hp,a0,b0,b1⟩,q⟩:=h;refine⟨_,ah (bx (aK Dx (aA aB (pv 0) aq (fun _ _=>rfl)) aq (aO _))
    (ah (aL (i:=2) EZ.nd rfl (Or.inl rfl) (bC gN (aA aB (pv 0) aq (fun _ _=>rfl)) (pv 1)))
    (ah (i9 (bC Af (aA aB (pv 0) aq (fun _ _=>rfl)) (pv 1)) (nJ (pv 0) aq iJ))
    (al (aH (pv 2))))) aS)
   (ah (i9 (bC gN (bC dF (bC yS (aA aB (pv 0) aq (fun _ _=>rfl)) aq) aq) aq) (nJ (pv 0) aq iJ))
   (al (aH (bC gN (bC Af (bC gN (bC yS (aA aB (pv 0) aq (fun _ _=>rfl)) (aA aB (pv 0) aq (fun _ _=>rfl))) aq) aq) (pv 1))))),?_⟩
  have g0:fR [V.int a,V.int b] 0=some (.int a):=bO (j:=0) rfl;have g1:fR [V.int a,V.int b] 1=some (.int b):=bO (j:=1) rfl;refine⟨_,rfl,p,_,_,_,rfl,rfl,aV.of hp,g0,_,_,rfl,rfl,_,rfl,?_⟩;refine bR (fun e=>?_) (fun e=>?_)
  .refine⟨_,rfl,p,_,_,_,rfl,rfl,aV.of hp,g0,_,rfl,_,_,rfl,rfl,m0,?_⟩;refine⟨_,rfl,p,_,_,_,rfl,rfl,aV.of hp,g0,_,rfl,_,_,rfl,rfl,⟨m0,by lia⟩,?_⟩;refine⟨_,rfl,p,_,0,0,rfl,rfl,hp,kN (j:=0) (by show 0<2;decide),?_⟩;refine⟨_,rfl,?_⟩;exact q _ _ _ (iS _ (by lia)) (mw _ m0) (Int.ediv_nonneg a0 (by lia)) b0 b1
  .refine⟨_,rfl,p,_,_,_,rfl,rfl,aV.of hp,g1,_,_,rfl,rfl,.inl ⟨by lia,by lia⟩,_,_,rfl,rfl,_,_,rfl,rfl,(by show (0:Int)<2147483647;decide),?_⟩;refine⟨_,rfl,p,_,1,1,rfl,rfl,hp,kN (j:=1) (by show 1<2;decide),?_⟩;have c0:0<=(b*39373+20011) % 2147483647:=iS _ (by decide);have c1:(b*39373+20011) % 2147483647<2147483647:=mw _ (by decide);refine⟨_,rfl,p,_,_,_,rfl,rfl,aV.of af,bO (j:=1) rfl,_,rfl,p,_,_,_,rfl,rfl,aV.of af,bO (j:=1) rfl,_,_,rfl,rfl,.inl ⟨by lia,by lia⟩,_,_,rfl,rfl,(by show (0:Int)<2147483563;decide),_,_,rfl,rfl,⟨by decide,by decide⟩,_,rfl,_,_,rfl,rfl,m0,?_⟩;exact q _ _ _ (iS _ (by lia)) (mw _ m0) a0 c0 c1
theorem zO:aI ["_law_pot_here","_law_some","_law_found","_law_one"] ["_law_pot_here","_law_some"] (am EW):=⟨rfl,rfl,rfl,by decide +kernel,rfl,by decide +kernel,by decide +kernel⟩
def vz(K:PySem.W.Frag):Sp:=fun vs H Q _=>∃ (p l:Addr) (xs:List V),vs=[.ref p,.ref l]/\aW H p/\H l=some (.lst xs)/\l≠p/\xs.length<4096/\∀ (r:Addr) (ys:List V) (H':Hp),ys.Perm xs->aR p H H'->aW H' p->H r=none->H' r=some (.lst ys)->Q (.ref r) H'
theorem Iq{f:Addr}{fd:FuncData}(F:fX K "_law_shuffled" "_law_shuffled" EW f fd)(B:Bl mg)(T:cp P w K mg base be 1 "_law_take" ["_law_pot_here","_law_many"] ku):bz P w K mg base be 2 f fd ["_law_pot_here","_law_some"] (vz K):=by
 refine F.ok zO (fun vs H Q E h=>?_) (fun dQ A outer s H vs Q E hr h=>?_)
 .obtain⟨p,l,xs,rfl,_⟩:=h;rfl
 .obtain⟨p,l,xs,rfl,hp,hl,hlp,hz,q⟩:=h;refine⟨_,ah (aL (i:=2) zO.nd rfl (Or.inl rfl) (dS ag))
   (ah (dR eR rfl (cJ (pv 1)) (aF (i:=3) zO.nd rfl (Or.inl rfl))
    (al (cw (gO gI PySem.F.slot_list_insert PySem.F.type_list_insert Cg (pv 2) (aa (aE T hr aQ (aa (pv 0) (aa (bC dF (au aD (by rfl) B.len ce (aa (pv 2) ag)) aq) ag))) (aa (pv 3) ag))))))
   (al (aH (pv 2)))),?_⟩
  refine⟨by show 0<=sizeLine;decide,fun D hD=>?_⟩;have nl:l≠D:=ak hl hD;have np:p≠D:=by obtain⟨a,b,e,_⟩:=hp;exact ak e hD
  refine⟨_,rfl,l,rfl,⟨_,aV.of (by rw[ai nl];exact hl)⟩,jX (K:=K) (a:=l) (xs:=xs) (fun i σ H2=>(∃v,σ=[some (.ref p),some (.ref l),some (.ref D),v])/\aR p H H2/\aW H2 p/\∃ys,H2 D=some (.lst ys)/\ys.Perm (xs.take i)) ⟨⟨_,rfl⟩,aR.of (aj hD),hp.same (aj hD),[],af,by simp⟩ (fun i σ H2 _ ⟨_,sm,_⟩=>aV.of (sm _ _ hl hlp)) ?_ ?_⟩
  .rintro i x σ H2 hx ⟨⟨v,rfl⟩,sm,p2,ys,m5,pm⟩;have hi:=(cM.mp hx).1;have hly:ys.length=i:=by rw[pm.length_eq,iG];lia
   refine⟨_,rfl,.inl ⟨rfl,_,aV.of m5⟩,_,rfl,_,rfl,D,ys,rfl,.inl (aV.of m5),_,_,rfl,rfl,p,_,rfl,by lia,by lia,p2,fun d a b d0 d1 a0 b0 b1=>?_⟩;refine⟨_,rfl,D,ys,d,d.toNat,x,rfl,rfl,by lia,by rw[ai np.symm];exact m5,by lia,by lia,?_⟩;refine⟨⟨_,rfl⟩,fun b' o e h=>?_,⟨a,b,by rw[ai np,af],a0,b0,b1⟩,_,af,?_⟩
   .rw[ai (ak e hD),ai h];exact sm _ _ e h
   .have e1:xs.take (i+1)=xs.take i++[x]:=by rw[hX,hx];rfl
    rw[e1];have e2:(ys.take d.toNat++[x]++ys.drop d.toNat).Perm (ys++[x]):=by
     have h1:(ys.take d.toNat++[x]++ys.drop d.toNat).Perm (ys.take d.toNat++(ys.drop d.toNat++[x])):=by
      rw[jr];exact List.Perm.append_left _ oB
     rw[<-jr,yd] at h1;exact h1
    exact e2.trans (pm.append_right [x])
  .rintro σ H2 ⟨⟨v,rfl⟩,sm,p2,ys,m5,pm⟩;rw[h9] at pm;exact⟨_,rfl,q D ys H2 pm sm p2 hD m5⟩
end
abbrev NV(js:List Nat):List V:=js.map fun (j:Nat)=>V.int j
def inn(g:Nat->List Nat)(n x:Nat):Nat:=(List.range n).countP fun o=>decide (x∈g o)
def dZ(g:Nat->List Nat)(p:Nat×Nat):Nat->List Nat:=fun h=>if h=p.1 then g h++[p.2] else g h
theorem kT{g:Nat->List Nat}{a b:Nat}:dZ g (a,b) a=g a++[b]:=by unfold dZ;rw[ao rfl]
theorem fz{g:Nat->List Nat}{p:Nat×Nat}{h:Nat}(e:h≠p.1):dZ g p h=g h:=by unfold dZ;rw[ap e]
theorem E2{g:Nat->List Nat}{p:Nat×Nat}{x:Nat}:(dZ g p x).length=(g x).length+(if p.1=x then 1 else 0):=by
 unfold dZ;by_cases e:x=p.1
 .rw[ao e,ao e.symm,cr];rfl
 .rw[ap e,ap (fun z=>e z.symm)];lia
theorem AZ{g:Nat->List Nat}{a b x:Nat}(hb:b∉g a):∀n,inn (dZ g (a,b)) n x=inn g n x+(if a<n/\b=x then 1 else 0)
 |0=>by simp[inn]
 |n+1=>by
  have ih:=AZ (x:=x) hb n;unfold inn at ih |-;rw[mB,yr,yr,ih];have e1:∀g:Nat->List Nat,List.countP (fun o=>decide (x∈g o)) [n]=if x∈g n then 1 else 0:=by
   intro g;rw[List.countP_singleton];simp
  rw[e1,e1];by_cases ha:a=n
  .subst ha;rw[kT];by_cases hx:b=x
   .subst hx;have i1:b∈g a++[b]:=bg.mpr (.inr (bK.mpr rfl));have i2:¬ (a<a/\b=b):=fun z=>absurd z.1 (jw _);have i3:a<a+1/\b=b:=⟨jK _,rfl⟩
    rw[ap hb,ao i1,ap i2,ao i3]
   .have h1:(x∈g a++[b])↔x∈g a:=by
     rw[bg,bK];exact⟨fun h=>h.elim id (fun z=>absurd z.symm hx),.inl⟩
    simp only[h1];have i2:¬ (a<a/\b=x):=fun z=>hx z.2;have i3:¬ (a<a+1/\b=x):=fun z=>hx z.2;simp only[ap i2,ap i3];lia
  .rw[fz (fun z=>ha z.symm)];have:(a<n/\b=x)↔(a<n+1/\b=x):=by lia
   simp only[this];lia
structure fh(n:Nat)(g:Nat->List Nat):Prop where
 nd:∀h,h<n->(g h).Nodup
 lt:∀h,h<n->∀o∈g h,o<n/\o≠h
 le:∀h,h<n->(g h).length<=8
 Ez:∀h,h<n->(g h).length=inn g n h
theorem Kx:∀ (ps:List (Nat×Nat)) (g:Nat->List Nat) (n:Nat),(ps.map (·.1)).Nodup->(∀p∈ps,p.1<n/\p.2<n/\p.2≠p.1/\p.2∉g p.1/\(g p.1).length<8)->
  (∀h,h<n->(g h).Nodup)->(∀h,h<n->∀o∈g h,o<n/\o≠h)->(∀h,h<n->(g h).length<=8)->
  (∀h,h<n->(ps.foldl dZ g h).Nodup)/\(∀h,h<n->∀o∈ps.foldl dZ g h,o<n/\o≠h)/\(∀h,h<n->(ps.foldl dZ g h).length<=8)/\
  (∀h,(ps.foldl dZ g h).length=(g h).length+(ps.map (·.1)).count h)/\(∀h,inn (ps.foldl dZ g) n h=inn g n h+(ps.map (·.2)).count h)/\(∀h,h∉ps.map (·.1)->ps.foldl dZ g h=g h)
 |[],g,n,_,_,a,b,c=>⟨a,b,c,fun h=>by simp,fun h=>by simp,fun h _=>rfl⟩
 |(x,y)::ps,g,n,hn,hp,a,b,c=>by
  obtain⟨h1,h2,h3,h4,h5⟩:=hp (x,y) cq;dsimp only at h1 h2 h3 h4 h5;have hx:x∉ps.map (·.1):=(dq.mp hn).1;have nx:∀p∈ps,p.1≠x:=fun p hp z=>hx (z ▸ yk hp);obtain⟨r1,r2,r3,r4,r5,r6⟩:=Kx ps (dZ g (x,y)) n (dq.mp hn).2
   (fun p q=>by
    rw[fz (nx p q)];exact hp p (cy _ q))
   (fun h hh=>by
    by_cases e:h=x
    .subst e;rw[kT];exact iF.mpr ⟨a _ hh,(dq.mpr ⟨(fun z=>nomatch z),h_⟩),fun u hu v hv z=>h4 (by rw[bK] at hv;rw[<-hv,<-z];exact hu)⟩
    .rw[fz e];exact a h hh)
   (fun h hh o ho=>by
    by_cases e:h=x
    .subst e;rw[kT] at ho;rcases bg.mp ho with q|q
     .exact b _ hh o q
     .rw[bK.mp q];exact⟨h2,h3⟩
    .rw[fz e] at ho;exact b h hh o ho)
   (fun h hh=>by
    by_cases e:h=x
    .subst e;rw[kT,cr];exact h5
    .rw[fz e];exact c h hh)
  refine⟨r1,r2,r3,fun h=>?_,fun h=>?_,fun h hh=>?_⟩
  .rw[jO,r4,E2,cQ,yG];simp only[gu];lia
  .rw[jO,r5,AZ h4,cQ,yG];simp only[gu];have:(x<n/\y=h)↔y=h:=⟨fun z=>z.2,fun z=>⟨h1,z⟩⟩
   simp only[this];lia
  .rw[jO,r6 h (fun z=>hh (cy _ z)),fz (fun z=>hh (by rw[z];exact cq))]
def Ir(row:List Nat):List Nat:=row.getLast?.toList++row.dropLast
theorem gf{row:List Nat}:(Ir row).Perm row:=by
 rcases pZ row with e|⟨l,x,e⟩
 .subst e;exact .refl _
 .subst e;rw[p9];unfold Ir;rw[List.getLast?_concat,List.dropLast_concat];exact oB
def zP(row:List Nat):List (Nat×Nat):=List.zip (Ir row) row
theorem mS{row:List Nat}:(zP row).map (·.1)=Ir row:=by
 unfold zP;rw[<-List.unzip_fst,List.unzip_zip_left (by rw[gf.length_eq];exact ba _)]
theorem A0{row:List Nat}:(zP row).map (·.2)=row:=by
 unfold zP;rw[<-List.unzip_snd,List.unzip_zip_right (by rw[gf.length_eq];exact ba _)]
theorem Iu{row:List Nat}:(zP row).length=row.length:=by unfold zP;rw[List.length_zip,gf.length_eq];exact Nat.min_self _
theorem ME{row:List Nat}{k:Nat}(h:k<row.length):(zP row)[k]?=some ((Ir row).getD k 0,row.getD k 0):=by
 unfold zP;rw[Df];have h2:k<(Ir row).length:=by rw[gf.length_eq];exact h
 dsimp only;constructor
 .rw[bQ,bY h2];rfl
 .rw[bQ,bY h];rfl
theorem MH{row:List Nat}(hn:row.Nodup)(h2:2<=row.length):∀p∈zP row,p.2≠p.1:=by
 intro p hp e;obtain⟨k,hk⟩:=List.getElem?_of_mem hp;have VY:k<row.length:=by rw[<-Iu];exact(cM.mp hk).1
 rw[ME VY] at hk;have Gm:=aY hk;subst Gm;dsimp only at e;rcases pZ row with z|⟨l,x,z⟩
 .subst z;exact absurd h2 (by decide)
 .subst z;rw[p9] at *;have er:Ir (l++[x])=x::l:=by unfold Ir;rw[List.getLast?_concat,List.dropLast_concat];rfl
  rw[er] at e;obtain⟨n1,n2,n3⟩:=iF.mp hn;rw[cr] at h2 VY;have hl:1<=l.length:=by simp at h2;lia
  cases k with
  |zero=>
   rw[List.getD_cons_zero,bQ,iC (by lia),bY (by lia)] at e;exact n3 _ (gJ (h:=(by lia:0<l.length))) x (bK.mpr rfl) e
  |succ k=>
   have wX:k<l.length:=by simp at VY;lia
   rw[yn,bQ,bQ,bY wX] at e;by_cases Eo:k+1<l.length
   .rw[iC Eo,bY Eo] at e;have:=(pT.mp n1 |> fun h=>(pQ.mp h) k (k+1) wX Eo (jK _)) (show l[k+1]=l[k] from e).symm;exact this.elim
   .have e3:k+1=l.length:=by lia
    rw[e3,oz (ba _),Nat.sub_self] at e;exact n3 _ (gJ (h:=wX)) x (bK.mpr rfl) (show x=l[k] from e).symm
def ji(g:Nat->List Nat)(row:List Nat):Bool:=(zP row).all fun p=>decide (p.2∉g p.1)&&decide ((g p.1).length<8)
def gT(g:Nat->List Nat)(row:List Nat):Nat->List Nat:=if ji g row=true then (zP row).foldl dZ g else g
theorem CC{g:Nat->List Nat}{row:List Nat}{n:Nat}(G:fh n g)(hn:row.Nodup)(h2:2<=row.length)(hl:∀x∈row,x<n):
  fh n (gT g row)/\(∀h,h∉row->gT g row h=g h)/\∀h,(gT g row h).length<=(g h).length+1:=by
 unfold gT;by_cases hc:ji g row=true
 .rw[ao hc];have Dn:=lL.mp hc;have nr:(Ir row).Nodup:=gf.nodup_iff.mpr hn;obtain⟨r1,r2,r3,r4,r5,r6⟩:=Kx (zP row) g n (by rw[mS];exact nr) (fun p hp=>by
   have:=Dn p hp;rw[dX,fc,fc] at this;refine⟨hl _ (gf.mem_iff.mp (by rw[<-mS];exact yk hp)),hl _ (by rw[<-A0 (row:=row)];exact yk hp),MH hn h2 p hp,this.1,this.2⟩) G.nd G.lt G.le
  refine⟨⟨r1,r2,r3,fun h hh=>?_⟩,fun h hh=>?_,fun h=>?_⟩
  .rw[r4,r5,mS,A0,gf.count_eq,G.Ez h hh]
  .refine r6 h (fun z=>hh ?_);rw[mS] at z;exact gf.mem_iff.mp z
  .rw[r4,mS];have:=List.nodup_iff_count.mp nr h;lia
 .rw[ap hc];exact⟨G,fun h _=>rfl,fun h=>by lia⟩
def dj(A:Nat->Addr)(ks:List Nat):List (dz×V):=ks.map fun (h:Nat)=>(Sum.inl (h:Int),V.ref (A h))
abbrev eZ(as:List Addr)(ks:List Nat):List (dz×V):=dj (fun h=>as.getD h 0) ks
theorem fP{A:Nat->Addr}{h:Nat}:∀ {ks:List Nat},iL (dj A ks) (.inl (h:Int))=if h∈ks then some (.ref (A h)) else none
 |[]=>rfl
 |y::ys=>by
  unfold dj;rw[cQ];by_cases e:y=h
  .subst e;rw[j7 rfl,ao cq]
  .have e2:¬ ((Sum.inl (y:Int):dz)=Sum.inl (h:Int)):=fun z=>e (eT (qp z));rw[j8 e2];have ih:=fP (A:=A) (h:=h) (ks:=ys);unfold dj at ih;rw[ih];by_cases m:h∈ys
   .rw[ao m,ao (cy _ m)]
   .rw[ap m,ap (fun z=>(bP.mp z).elim (fun q=>e q.symm) m)]
theorem bW{A:Nat->Addr}{ks:List Nat}:(dj A ks).length=ks.length:=aG _
theorem mT{A:Nat->Addr}{ks:List Nat}{i:Nat}{k:dz}{v:V}(h:(dj A ks)[i]?=some (k,v)):∃x,ks[i]?=some x/\k=.inl ((x:Nat):Int):=by
 unfold dj at h;rw[bq] at h;obtain⟨x,hx,e⟩:=oA.mp h;exact⟨x,hx,(congrArg Prod.fst e).symm⟩
theorem ky{A B:Nat->Addr}{ks:List Nat}(h:∀x∈ks,A x=B x):dj A ks=dj B ks:=jI fun x hx=>by rw[h x hx]
theorem oh{A:Nat->Addr}:∀ {ks:List Nat},ks.Nodup->jd [] (dj A ks)=dj A ks:=by
 intro ks;rcases pZ ks with e|⟨l,x,e⟩
 .intro _;rw[e];rfl
 .rw[p9] at e;subst e;intro nd;have e:dj A (l++[x])=dj A l++[(.inl (x:Int),.ref (A x))]:=by unfold dj;rw[cP];rfl
  obtain⟨n1,n2,n3⟩:=iF.mp nd;have ih:=oh (A:=A) n1;rw[e];unfold jd at ih |-;rw[List.foldl_append,ih];exact mL _ (by rw[fP,ap (fun z=>n3 x z x (bK.mpr rfl) rfl)])
 termination_by ks=>ks.length
 decreasing_by simp_all
def vX(ks:List Nat)(n:Nat):Prop:=ks.Perm (List.range n)
theorem vX.len{ks:List Nat}{n:Nat}(h:vX ks n):ks.length=n:=by rw[List.Perm.length_eq h,fq]
theorem vX.mem{ks:List Nat}{n x:Nat}(h:vX ks n):x∈ks↔x<n:=by rw[List.Perm.mem_iff h,bL]
theorem vX.nd{ks:List Nat}{n:Nat}(h:vX ks n):ks.Nodup:=(List.Perm.nodup_iff h).mpr jN
theorem vX.at_{ks:List Nat}{n i x:Nat}(h:vX ks n)(e:ks[i]?=some x):i<n/\x<n/\ks.take (i+1)=ks.take i++[x]/\x∉ks.take i:=by
 obtain⟨hi,ex⟩:=cM.mp e;refine⟨by rw[<-h.len];exact hi,h.mem.mp (dW e),by rw[hX,e];rfl,fun z=>?_⟩;obtain⟨j,hj,ej⟩:=t_.mp z;have:=pQ.mp (pT.mp h.nd) j i (by lia) hi (by lia);exact this (ej.trans ex.symm)
structure cU(H:Hp)(O:Addr)(as:List Addr)(n:Nat)(g:Nat->List Nat):Prop where
 dict:∃ks,vX ks n/\H O=some (.dK (eZ as ks))
 rows:Holds H as n (fun h=>.lst (NV (g h)))
 inj:∀i j,i<n->j<n->as.getD i 0=as.getD j 0->i=j
theorem cU.same{H H':Hp}{O:Addr}{as:List Addr}{n:Nat}{g:Nat->List Nat}(h:cU H O as n g)(s:aM H H'):cU H' O as n g:=⟨let ⟨ks,a,b⟩:=h.dict;⟨ks,a,s _ _ b⟩,h.rows.mono fun j _ e=>s _ _ e,h.inj⟩
structure sj(H:Hp)(F:Addr)(A:Nat->Addr)(ks:List Nat)(g:Nat->List Nat):Prop where
 dict:H F=some (.dK (dj A ks))
 rows:∀h∈ks,H (A h)=some (.lst (NV (g h)))
 inj:∀i∈ks,∀j∈ks,A i=A j->i=j
theorem sj.same{H H':Hp}{F:Addr}{A:Nat->Addr}{ks:List Nat}{g:Nat->List Nat}(p:sj H F A ks g)(s:aM H H'):sj H' F A ks g:=⟨s _ _ p.dict,fun h m=>s _ _ (p.rows h m),p.inj⟩
def hU(A:Nat->Addr)(x:Nat)(D:Addr):Nat->Addr:=fun y=>if y=x then D else A y
theorem sj.push{H:Hp}{F D:Addr}{A:Nat->Addr}{ks:List Nat}{g:Nat->List Nat}{x:Nat}(p:sj H F A ks g)(hx:x∉ks)(hD:H D=some (.lst (NV (g x))))(off:∀h∈ks,D≠A h):
  sj (upd H F (.dK (fZ (dj A ks) (.inl (x:Int)) (.ref D)))) F (hU A x D) (ks++[x]) g:=by
 have kU:hU A x D x=D:=by unfold hU;rw[ao rfl]
 have OD:∀h∈ks,hU A x D h=A h:=fun h m=>by unfold hU;rw[ap (fun (z:h=x)=>hx (by rw[<-z];exact m))]
 have DF:D≠F:=cA hD p.dict (by intro z;cases z);refine⟨?_,fun h m=>?_,fun i mi j mj e=>?_⟩
 .rw[af,mL _ (by rw[fP,ap hx])];have:dj (hU A x D) (ks++[x])=dj (hU A x D) ks++[(.inl (x:Int),.ref (hU A x D x))]:=by unfold dj;rw[cP];rfl
  rw[this,kU,ky OD]
 .rcases bg.mp m with m|m
  .rw[OD h m,ai (cA (p.rows h m) p.dict (by intro z;cases z))];exact p.rows h m
  .rw[bK.mp m,kU,ai DF];exact hD
 .rcases bg.mp mi with mi|mi <;> rcases bg.mp mj with mj|mj
  .rw[OD i mi,OD j mj] at e;exact p.inj i mi j mj e
  .rw[OD i mi,bK.mp mj,kU] at e;exact absurd e.symm (off i mi)
  .rw[OD j mj,bK.mp mi,kU] at e;exact absurd e (off j mj)
  .rw[bK.mp mi,bK.mp mj]
theorem gz{A:Nat->Addr}{n h:Nat}(hh:h<n):((List.range n).map A).getD h 0=A h:=by rw[bQ,bq,oE hh];rfl
theorem sj.done{H:Hp}{F:Addr}{A:Nat->Addr}{ks:List Nat}{g:Nat->List Nat}{n:Nat}(p:sj H F A ks g)(o:vX ks n):cU H F ((List.range n).map A) n g:=
 ⟨⟨ks,o,by rw[p.dict];exact congrArg (fun z=>some (HO.dK z)) (ky fun x hx=>(gz (o.mem.mp hx)).symm)⟩,⟨by rw[aG,fq],fun h hh=>by rw[gz hh];exact p.rows h (o.mem.mpr hh)⟩,fun i j hi hj e=>by rw[gz hi,gz hj] at e;exact p.inj i (o.mem.mpr hi) j (o.mem.mpr hj) e⟩
def OE(as:List Addr)(n:Nat)(p:Addr):Prop:=∀h,h<n->p≠as.getD h 0
theorem cU.dC{H H':Hp}{O p:Addr}{as:List Addr}{n:Nat}{g:Nat->List Nat}(h:cU H O as n g)(s:aR p H H')(hp:aW H p)(f:OE as n p):cU H' O as n g:=by
 obtain⟨a,b,e,_⟩:=hp;obtain⟨ks,o,d⟩:=h.dict;exact⟨⟨ks,o,s _ _ d (cA d e (by intro z;cases z))⟩,h.rows.mono fun j hj x=>s _ _ x (f j hj).symm,h.inj⟩
theorem cU.get{H:Hp}{O:Addr}{as:List Addr}{n:Nat}{g:Nat->List Nat}(h:cU H O as n g){x:Nat}(hx:x<n):iy H O (.int x) (some (.ref (as.getD x 0))):=by
 obtain⟨ks,o,d⟩:=h.dict;have:=iy.k (k:=.inl (x:Int)) d;rw[fP,ao (o.mem.mpr hx)] at this;exact this
theorem pJ{x:Nat}:∀ {js:List Nat},DK (.int x) (NV js)=decide (x∈js)
 |[]=>by simp[DK,NV]
 |j::js=>by
  have ih:=pJ (x:=x) (js:=js);unfold DK NV at ih |-;rw[cQ,jP,ih];have e:sQ (.int (j:Int)) (.int (x:Int))=decide (x=j):=by
   show ((j:Int)==(x:Int))=_;by_cases z:x=j
   .subst z;simp
   .rw[cH z,lq];lia
  rw[e];by_cases z:x=j
  .subst z;simp
  .simp[z]
theorem rh{js:List Nat}:(NV js).all gv=true:=by
 rw[lL];intro v hv;obtain⟨j,_,rfl⟩:=cf.mp hv;rfl
theorem mU{js:List Nat}{k:Nat}(h:k<js.length):fR (NV js) (k:Int)=some (.int (js.getD k 0:Nat)):=by
 refine bO ?_;rw[bq,bY h,bQ,bY h];rfl
section
variable {P:Program} {w:World} {K:PySem.W.Frag} {mg:Str->Option Value} {base:Heap}
end
theorem gH{p c:Addr}{H H2:Hp}{o:HO}(s:aR p H H2)(h:H c=none):aR p H (upd H2 c o):=fun b u e n=>by rw[ai (ak e h)];exact s b u e n
inductive Rc (g:Nat->List Nat):Nat->Nat->Prop where
 |refl (a:Nat):Rc g a a
 |step {a b c:Nat} (h:Rc g a b) (t:c∈g b):Rc g a c
theorem Rc.trans{g:Nat->List Nat}{a b:Nat}(h:Rc g a b):∀ {c:Nat},Rc g b c->Rc g a c:=by
 intro c k;induction k with
 |refl=>exact h
 |step _ t ih=>exact .step ih t
theorem Rc.mono{g g':Nat->List Nat}(m:∀a,∀o∈g a,o∈g' a){a b:Nat}(h:Rc g a b):Rc g' a b:=by
 induction h with
 |refl=>exact .refl _
 |step _ t ih=>exact .step ih (m _ _ t)
theorem Rc.one{g:Nat->List Nat}{a b:Nat}(h:b∈g a):Rc g a b:=.step (.refl _) h
def MJ(n:Nat)(g:Nat->List Nat):Prop:=∀a b,a<n->b<n->Rc g a b
theorem MJ.mono{n:Nat}{g g':Nat->List Nat}(h:MJ n g)(m:∀a,a<n->∀o∈g a,o∈g' a)(lt:∀a,a<n->∀o∈g a,o<n):MJ n g':=by
 intro a b ha hb;have h1:∀ {c:Nat},Rc g a c->Rc g' a c/\c<n:=by
  intro c k;induction k with
  |refl=>exact⟨.refl _,ha⟩
  |step _ t ih=>exact⟨.step ih.1 (m _ ih.2 _ t),lt _ ih.2 _ t⟩
 exact(h1 (h a b ha hb)).1
theorem rj{o h:Nat}:∀ (ps:List (Nat×Nat)) (g:Nat->List Nat),o∈ps.foldl dZ g h↔o∈g h\/(h,o)∈ps
 |[],g=>by simp
 |p::ps,g=>by
  rw[jO,rj ps,bP];have:o∈dZ g p h↔o∈g h\/(h,o)=p:=by
   unfold dZ;by_cases e:h=p.1
   .rw[ao e,bg,bK];constructor
    .rintro(z|z)
     .exact .inl z
     .exact .inr (by rw[e,z])
    .rintro(z|z)
     .exact .inl z
     .exact .inr (by rw[<-z])
   .rw[ap e];constructor
    .exact .inl
    .rintro(z|z)
     .exact z
     .exact absurd (by rw[<-z]) e
  rw[this,or_assoc]
theorem CD{g:Nat->List Nat}{row:List Nat}:∀a,∀o∈g a,o∈gT g row a:=by
 intro a o ho;unfold gT;split
 .exact(rj _ _).mpr (.inl ho)
 .exact ho
theorem xl{g:Nat->List Nat}{row:List Nat}(hc:ji g row=true){h o:Nat}(hp:(h,o)∈zP row):o∈gT g row h:=by
 unfold gT;rw[ao hc];exact(rj _ _).mpr (.inr hp)
def E3(names:List Nat)(k:Nat)(g:Nat->List Nat):Prop:=∀a∈names.take k,∀b∈names.take k,Rc g a b
theorem E4{names:List Nat}{g:Nat->List Nat}:E3 names 1 g:=by
 intro a ha b hb;cases names with
 |nil=>cases ha
 |cons x xs=>
  rw[List.take_succ_cons,List.take_zero,bK] at ha hb;rw[ha,hb];exact .refl _
theorem xm{g:Nat->List Nat}{n v:Nat}(h:inn g n v=0){s:Nat}(hs:s<n):v∉g s:=by
 unfold inn at h;rw[yp] at h;intro z;exact h s (bL.mpr hs) (bB z)
theorem tL{names:List Nat}{n i s:Nat}{g:Nat->List Nat}(G:fh n g)(Iv:∀x∈names,x<n)(hi:i+1<names.length)(U:E3 names (i+1) g)(hs:s∈names.take (i+1))(hv:g (names.getD (i+1) 0)=[])(hl:(g s).length<8):E3 names (i+2) (gT g [names.getD (i+1) 0,s]):=by
 have Oz:names.getD (i+1) 0∈names:=by rw[bQ,bY hi];exact gJ _
 have hsn:s<n:=Iv s (oC hs);have vn:names.getD (i+1) 0∉g s:=xm (by rw[<-G.Ez _ (Iv _ Oz),hv];rfl) hsn;have hp:zP [names.getD (i+1) 0,s]=[(s,names.getD (i+1) 0),(names.getD (i+1) 0,s)]:=rfl;have hc:ji g [names.getD (i+1) 0,s]=true:=by
  unfold ji;rw[hp];simp only[iW,List.all_nil,Bool.and_true,dX,lJ];refine⟨⟨vn,hl⟩,?_,?_⟩
  .rw[hv];simp
  .rw[hv];decide
 have e1:names.getD (i+1) 0∈gT g [names.getD (i+1) 0,s] s:=xl hc (by rw[hp];simp);have e2:s∈gT g [names.getD (i+1) 0,s] (names.getD (i+1) 0):=xl hc (by rw[hp];simp);have tk:names.take (i+2)=names.take (i+1)++[names.getD (i+1) 0]:=by
  rw[hX,bY hi,bQ,bY hi];rfl
 have old:∀a∈names.take (i+1),∀b∈names.take (i+1),Rc (gT g [names.getD (i+1) 0,s]) a b:=fun a ha b hb=>(U a ha b hb).mono CD;intro a ha b hb;rw[tk] at ha hb;rcases bg.mp ha with ha|ha
 .rcases bg.mp hb with hb|hb
  .exact old a ha b hb
  .rw[bK.mp hb];exact .step (old a ha s hs) e1
 .rw[bK.mp ha];rcases bg.mp hb with hb|hb
  .exact(Rc.one e2).trans (old s hs b hb)
  .rw[bK.mp hb];exact .refl _
theorem E5{names:List Nat}{n:Nat}{g:Nat->List Nat}(pm:names.Perm (List.range n))(U:E3 names n g):MJ n g:=by
 have e:names.take n=names:=uc (by rw[pm.length_eq,fq];exact ba _);intro a b ha hb;refine U a ?_ b ?_ <;> rw[e] <;> exact pm.mem_iff.mpr (bL.mpr (by assumption))
theorem E6{X:Cx}{es:List Expr}{t:TA}{i:Expr}{ti:TE}{p pos:Pos}(h:PA X es t)(hi:PE X i ti)(hs:Al i):PE X (.Subscript (.List es p) i pos) (mE (BN X.K) (Ln t) ti):=aA aB (dS h) hi hs
section
variable {P:Program} {w:World} {K:PySem.W.Frag} {mg:Str->Option Value} {base:Heap}
def E7(H H':Hp)(O:Addr)(as:List Addr)(n:Nat)(g:Nat->List Nat):Prop:=fh n g/\2<=n/\n<=32/\cU H' O as n g/\H O=none/\(∀h,h<n->H (as.getD h 0)=none)/\MJ n g
end
theorem VZ:(["_law_house"]:List Str).Nodup:=by decide +kernel
def Iw:V->Nat
 |.int i=>i.toNat
 |_=>0
theorem A1{ys:List V}{xs:List Nat}(h:ys.Perm (NV xs)):∃zs:List Nat,ys=NV zs/\zs.Perm xs:=by
 refine⟨ys.map Iw,?_,?_⟩
 .unfold NV;rw[ic];have:∀v∈ys,((fun (j:Nat)=>V.int j) ∘ Iw) v=v:=by
   intro v hv;obtain⟨j,_,rfl⟩:=cf.mp (h.mem_iff.mp hv);show V.int (((j:Int).toNat:Nat):Int)=_;rw[cN]
  conv=>lhs;rw[<-lU ys]
  exact jI fun v hv=>(this v hv).symm
 .have:=h.map Iw;unfold NV at this;rw[ic] at this;have e:xs.map (Iw ∘ fun (j:Nat)=>V.int j)=xs:=by
   conv=>rhs;rw[<-lU xs]
   exact jI fun j _=>cN j
  rw[e] at this;exact this
theorem aW.some{H:Hp}{p:Addr}(h:aW H p):H p≠none:=by obtain⟨a,b,e,_⟩:=h;rw[e];intro z;cases z
theorem CF{n:Nat}:fh n (fun _=>[]):=⟨fun _ _=>h_,fun _ _ o ho=>(nomatch ho),fun _ _=>by simp,fun h _=>by
 unfold inn;symm;rw[qh,yp];intro o _;simp⟩
theorem E8{js:List Nat}{k:Nat}:wz (NV js) none (some (k:Int))=NV (js.take k):=by
 have h1:HT.rW (NV js).length 0 none=0:=rfl;have h2:HT.rW (NV js).length (NV js).length (some (k:Int))=min k js.length:=by
  unfold HT.rW;simp;try lia
 unfold wz;rw[h1,h2,uz,Nat.sub_zero];unfold NV;rw[List.map_take,List.take_eq_take_iff];simp;try lia
theorem gU{js:List Nat}{k:Nat}(h:k<js.length):js.getD k 0∈js:=by rw[bQ,bY h];exact gJ h
theorem pK{js:List Nat}{k:Nat}(h:k<js.length):js.getD k 0=js[k]:=by rw[bQ,bY h];rfl
theorem E9{js:List Nat}(nn:js.Nodup){x y:Nat}(hx:x<js.length)(hy:y<js.length)(e:js.getD x 0=js.getD y 0):x=y:=by
 rw[pK hx,pK hy] at e;have:=pQ.mp (pT.mp nn);rcases Nat.lt_trichotomy x y with z|z|z
 .exact absurd e (this x y hx hy z)
 .exact z
 .exact absurd e.symm (this y x hy hx z)
theorem lD{js:List Nat}{k a:Nat}(h:a∈js.take k):∃x,x<k/\x<js.length/\js.getD x 0=a:=by
 obtain⟨x,hx,e⟩:=t_.mp h;exact⟨x,by lia,by lia,by rw[pK (by lia)];exact e⟩
section
variable {P:Program} {w:World} {K:PySem.W.Frag} {mg:Str->Option Value} {base:Heap}
end
abbrev Tj:Stmt:=gG 41
def CG(n:Nat)(g:Nat->List Nat)(h k:Nat):List Nat:=((List.range k).map fun s=>(h+(1+s)) % n).filter fun o=>decide (o∈g h)
def gr(n:Nat)(g:Nat->List Nat)(h:Nat):List Nat:=CG n g h (n-1)
theorem xo{n:Nat}{g:Nat->List Nat}{h k:Nat}:CG n g h (k+1)=CG n g h k++(if (h+(1+k)) % n∈g h then [(h+(1+k)) % n] else []):=by
 unfold CG;rw[mB,cP,jJ];congr 1;rw[cQ,lS];by_cases e:(h+(1+k)) % n∈g h
 .rw[ao e,List.filter_cons_of_pos (by simpa using e),List.filter_nil]
 .rw[ap e,List.filter_cons_of_neg (by simpa using e),List.filter_nil]
theorem vA{n h s:Nat}(hh:h<n)(hs:s<n-1):(h+(1+s)) % n=if h+(1+s)<n then h+(1+s) else h+(1+s)-n:=by
 by_cases e:h+(1+s)<n
 .rw[ao e,lK e]
 .rw[ap e,Nat.mod_eq_sub_mod (by lia),lK (by lia)]
theorem gA{n:Nat}{g:Nat->List Nat}(G:fh n g){h:Nat}(hh:h<n):(gr n g h).Perm (g h):=by
 have nd:(gr n g h).Nodup:=by
  unfold gr CG;refine m8 _ ?_;refine jq.mpr ?_;refine xY ?_ (jN (n:=n-1));intro a b ha hb Qm e;rw[vA hh (bL.mp ha),vA hh (bL.mp hb)] at e;have:=bL.mp ha;have:=bL.mp hb;split at e <;> split at e <;> lia
 refine(Db nd (G.nd h hh)).mpr fun o=>?_;unfold gr CG;rw[bX,fc];refine⟨fun z=>z.2,fun z=>⟨cf.mpr ?_,z⟩⟩;obtain⟨o1,o2⟩:=G.lt h hh o z;by_cases e:h<o
 .refine⟨o-h-1,bL.mpr (by lia),?_⟩;rw[vA hh (by lia),ao (by lia)];lia
 .refine⟨o+n-h-1,bL.mpr (by lia),?_⟩;rw[vA hh (by lia),ap (by lia)];lia
theorem A3{n:Nat}{g:Nat->List Nat}(G:fh n g):fh n (gr n g):=by
 refine⟨fun h hh=>(gA G hh).nodup_iff.mpr (G.nd h hh),fun h hh o ho=>G.lt h hh o ((gA G hh).mem_iff.mp ho),fun h hh=>by rw[(gA G hh).length_eq];exact G.le h hh,fun h hh=>?_⟩;rw[(gA G hh).length_eq,G.Ez h hh];unfold inn;refine List.countP_congr fun o ho=>?_;simp only[lJ];exact(gA G (bL.mp ho)).mem_iff.symm
theorem V0:(["_law_step","_law_house","_law_many","_law_outs"]:List Str).Nodup:=by decide +kernel
section
variable {P:Program} {w:World} {K:PySem.W.Frag} {mg:Str->Option Value} {base:Heap}
theorem Ix:aI ["_law_outs","_law_many","_law_found","_law_house"] ["_law_outs"] (am Tj):=⟨rfl,rfl,rfl,by decide +kernel,rfl,by decide +kernel,by decide +kernel⟩
def ML:Sp:=fun vs H Q _=>∃ (O:Addr) (as:List Addr) (n:Nat) (g:Nat->List Nat),vs=[.ref O]/\fh n g/\MJ n g/\2<=n/\n<=32/\cU H O as n g/\
 ∀ (O':Addr) (m6:List Addr) (g':Nat->List Nat) (H':Hp),E7 H H' O' m6 n g'->g'=gr n g->aR O H H'->H' O≠none->Q (.ref O') H'
theorem QC{f:Addr}{fd:FuncData}(F:fX K "_law_going_round" "_law_going_round" Tj f fd)(B:Bl mg):bz P w K mg base be 1 f fd ["_law_outs"] ML:=by
 refine F.ok Ix (fun vs H Q E h=>?_) (fun dQ A outer s H vs Q E hr h=>?_)
 .obtain⟨O,as,n,g,rfl,_⟩:=h;rfl
 .obtain⟨O,as,n,g,rfl,G,gC,n2,Ky,hO,q⟩:=h;have hu:(A.deeper (PyProof.Rows.envOfC "_law_going_round" (am Tj) s.heap.objs.size f dQ)).units+1<cLine:=by have:=hr.un;lia
  refine'⟨_,ah (aL (i:=1) Ix.nd rfl (Or.inr rfl) (au Cf (by rfl) B.len ce (aa (pv 0) ag)))
   (ah (aL (i:=2) Ix.nd rfl (Or.inl rfl) Eh)
   (ah (dR eR rfl (AF (pv 0)) (aF (i:=3) Ix.nd rfl (Or.inr rfl)) (al (pD hu (pv 2) (pv 3) ?c rfl)))
   (al (aH (pv 2))))),?_⟩
  case c=>
   refine' cK (g:=bH 0) (tt:=jZ (mE (SS K false) (mE (rI (fun _ j=>0<j) fun i j=>.int (i % j)) (mE (BF fun i j=>.int (i+j)) (bb 1) (bb 0)) (bb 2)) (qK (bb 3) (bb 1)))) (te:=mE (rI (fun _ j=>0<j) fun i j=>.int (i % j)) (mE (BF fun i j=>.int (i+j)) (bb 1) (bb 0)) (bb 2)) (NB:=["_law_step","_law_house","_law_many","_law_outs"]) (src:=[none,some 3,some 1,some 0]) (cj (by kernel_rfl)) rfl
    (nK rfl B.range (aa aq (aa (pv 1) ag))) ?g ?t ?e
   case g=>exact fun cl C s₃ H₃ fp=>aF (i:=0) V0 rfl (Or.inl rfl) (Or.inr rfl)
   case t=>exact fun cl C s₃ H₃ fp=>eF (aK nR (bC gN (bC dF (pv 1) (pv 0)) (pv 2)) (cx hu (pv 3) (pv 1) (fun _ _=>rfl)) (by rfl))
   case e=>exact fun cl C s₃ H₃ fp=>bC gN (bC dF (pv 1) (pv 0)) (pv 2)
  obtain⟨ks,OK,hd⟩:=hO.dict;have kl:=OK.len;refine⟨_,rfl,O,_,rfl,hd,?_⟩;change bH 1 (V.int (((eZ as ks).length:Nat):Int)) _ _ _;rw[bW,kl];intro F' hF;have Y3:O≠F':=ak hd hF;have QD:=aj (o:=.dK []) hF _ _ hd;refine⟨_,rfl,O,_,rfl,QD,fun o=>?_⟩;refine qT (fun i σ H3=>(∃v3,σ=[some (.ref O),some (.int n),some (.ref F'),v3])/\H3 O=some (.iR o (.dK (eZ as ks)))/\aR O H H3/\∃A,sj H3 F' A (ks.take i) (gr n g)/\∀h∈ks.take i,H (A h)=none)
   ⟨⟨_,rfl⟩,af,fun b u e jD=>by rw[ai jD,ai (ak e hF)];exact e,fun _=>0,⟨by rw[ai Y3.symm,af];rfl,fun h m=>by simp at m,fun h m=>by simp at m⟩,fun h m=>by simp at m⟩ (fun i σ H3 _ ⟨_,z,_⟩=>z) ?_ ?_
  .rintro j k v σ H3 hk ⟨⟨v3,rfl⟩,hf,se,A,hB,fr⟩;obtain⟨i,CI,rfl⟩:=mT hk;obtain⟨hj,hi,tk,ni⟩:=OK.at_ CI;have QE:Holds H3 as n (fun h=>.lst (NV (g h))):=hO.rows.mono fun j hj e=>se _ _ e (fun z=>by rw[z] at e;rw[hd] at e;cases e);change bH 3 (V.int (i:Int)) _ _ _;refine⟨_,rfl,1,n,rfl,⟨by decide,by decide,by lia,by lia⟩,fun D hD=>?_⟩;have Y4:((n:Int)-1).toNat=n-1:=by lia
   have V1:O≠D:=ak hf hD;have Y5:H D=none:=by
    cases z:H D with
    |none=>rfl
    |some u=>rw[se _ _ z V1.symm] at hD;cases hD
   refine jc (fun j ys σ H4=>(∃v,σ=[v,some (.int i),some (.int n),some (.ref O)])/\ys=NV (CG n g i j)/\H4=upd H3 D (.lst ys)) ⟨⟨_,rfl⟩,rfl,rfl⟩ ?_ ?_
   .rintro j ys σ H4 Kt Kf hj ⟨⟨v,rfl⟩,rfl,rfl⟩ kt kf;rw[Y4] at hj;have QF:Holds (upd H3 D (.lst (NV (CG n g i j)))) as n (fun h=>.lst (NV (g h))):=QE.mono fun x _ e=>aj hD _ _ e;have em:((i:Int)+(1+(j:Int))) % (n:Int)=(((i+(1+j)) % n:Nat):Int):=by
     rw[Int.natCast_emod];rfl
    have gt:iy (upd H3 D (.lst (NV (CG n g i j)))) O (.int (i:Int)) (some (.ref (as.getD i 0))):=.inl ⟨eZ as ks,.inl (i:Int),.inr ⟨o,by rw[ai V1];exact hf⟩,rfl,by rw[fP,ao (OK.mem.mpr hi)]⟩;refine⟨_,rfl,_,rfl,_,_,rfl,rfl,_,rfl,_,_,rfl,rfl,by lia,_,rfl,_,rfl,O,_,rfl,gt,as.getD i 0,NV (g i),rfl,.inl (aV.of (QF.2 i hi)),rfl,rh,_,rfl,?_⟩;have ei:DK (V.int (((i:Int)+(1+(j:Int))) % (n:Int))) (NV (g i))=decide ((i+(1+j)) % n∈g i):=by rw[em,pJ]
    refine bR (fun e=>?_) (fun e=>?_)
    .have e':(i+(1+j)) % n∈g i:=by
      have e2:DK (V.int (((i:Int)+(1+(j:Int))) % (n:Int))) (NV (g i))=true:=e;rw[ei] at e2;exact b9 e2
     refine⟨_,rfl,_,rfl,_,_,rfl,rfl,_,rfl,_,_,rfl,rfl,by lia,kt _ _ _ af ?_ ⟨⟨_,rfl⟩,?_,?_⟩⟩
     .rw[aG];unfold CG;refine gq (jG _ _) ?_;rw[aG,fq];exact bV (show j<32 by lia) (by decide)
     .rw[xo,ao e'];show _++[V.int (((i:Int)+(1+(j:Int))) % (n:Int))]=_;rw[em];unfold NV;rw[cP];rfl
     .rw[ie]
    .have e':¬ (i+(1+j)) % n∈g i:=by
      have e2:¬ DK (V.int (((i:Int)+(1+(j:Int))) % (n:Int))) (NV (g i))=true:=e;rw[ei] at e2;simpa using e2
     refine kf _ _ ⟨⟨_,rfl⟩,?_,rfl⟩;rw[xo,ap e',nu]
   .rintro ys σ H4 ⟨_,rfl,rfl⟩;rw[Y4];have off:∀h∈ks.take j,D≠A h:=fun h m=>(ak (hB.rows h m) hD).symm;have Oq:=hB.same (aj (o:=.lst (NV (CG n g i (n-1)))) hD);have hB5:=Oq.push ni (D:=D) af off;have nFD:F'≠D:=ak hB.dict hD;refine⟨_,rfl,_,rfl,F',_,rfl,r_.k (k:=.inl (i:Int)) Oq.dict (by rw[bW,iG];exact bV (show min j ks.length<33 by lia) (by decide)),⟨_,rfl⟩,?_,?_,hU A i D,by rw[tk];exact hB5,?_⟩
    .rw[ai Y3,ai V1];exact hf
    .intro b u e jD;rw[ai (ak e hF),ai (ak e Y5)];exact se _ _ e jD
    .intro h hh;rw[tk] at hh;unfold hU;by_cases e:h=i
     .rw[ao e];exact Y5
     .rw[ap e];rcases bg.mp hh with m|m
      .exact fr h m
      .exact absurd (bK.mp m) e
  .rintro σ H3 ⟨⟨v3,rfl⟩,hf,se,A,hB,fr⟩;rw[bW,h9] at hB fr;exact⟨_,rfl,q F' _ (gr n g) H3 ⟨A3 G,n2,Ky,hB.done OK,hF,fun h hh=>by rw[gz hh];exact fr h (OK.mem.mpr hh),gC.mono (fun a ha o ho=>(gA G ha).mem_iff.mpr ho) fun a ha o ho=>(G.lt a ha o ho).1⟩ rfl se (by rw[hf];intro z;cases z)⟩
end
end xk
namespace L2
open PySem PySem.Spec PyProof.Rows
section
variable {X:Cx} {tg:Expr}
theorem tO:eU X (.builtin "len") (fun xs H Q=>∃a kvs,xs=[V.ref a]/\(∃o,H a=some (.iR o (.dK kvs)))/\Q (.int kvs.length) H):=by
 intro ae s σ H xs us Q I r h;obtain⟨a,kvs,rfl,ha,q⟩:=h;obtain⟨u,rfl,ru⟩:=qA r;cases ru;exact Kk I (.inr ha) fun t s' I'=>⟨.int kvs.length,H,I',⟨t,rfl⟩,q⟩
def MM(tl:TE):TI:=fun σ H R=>tl σ H fun x H1=>∃d kvs o,x=.ref d/\H1 d=some (.iR o (.dK kvs))/\R (L8 d o kvs) H1
theorem xp{l:Expr}{tl:TE}(hl:PE X l tl):PI X tg l (MM tl):=by
 intro ae s σ H R I h;refine cm (hl ae s σ H _ I h) fun v s1 ⟨x,H1,I1,r1,q1⟩=>?_;obtain⟨d,kvs,o,e,hd,q⟩:=q1;subst e;cases r1;obtain⟨ho,z,hS,vs,kv,o',es,ep,g1,g2,g3,g4,g5,g6⟩:=I1.bE d _ hd;rw[ho] at g1;cases g1;have hm:s1.heap.DictAt (bv X.prog X.w) d vs ep:=⟨o,es,ho,g2,g3,g4,g5,g6⟩
 refine wpAny_pyIter_dict hS hm ?_;refine⟨s1.heap.objs.size,[s1.heap.objs.size],_,_,_,rfl,I1.kept (t':=s1.toks) fun b o e=>cD _ e,tD d _ o kvs es ep g3,⟨_,dh _ rfl,rfl,by rw[kv.length];rfl⟩,fun b hb=>?_,q⟩;have e:b=s1.heap.objs.size:=by simpa using hb
 subst e;exact I1.wo (ba _) (I1.bE.fresh (ba _))
end
theorem CJ{d D:Addr}{o:Obj}{kvs:List (dz×V)}{g:TG}{tt:TT}{te:TE}{fin:Hp->Prop}{σB:St}{H0:Hp}(Pv:Nat->List V->St->Hp->Prop)(h0:Pv 0 [] σB H0)(hl:∀i ys σ H,i<=kvs.length->Pv i ys σ H->H d=some (.iR o (.dK kvs)))(hs:∀i k v ys σ H (Kt:V->St->Hp->Prop) (Kf:St->Hp->Prop),kvs[i]?=some (k,v)->Pv i ys σ H->
   (∀v σ2 H4,H4 D=some (.lst ys)->ys.length<sizeLine->Pv (i+1) (ys++[v]) σ2 (upd H4 D (.lst (ys++[v])))->Kt v σ2 H4)->(∀σ2 H3,Pv (i+1) ys σ2 H3->Kf σ2 H3)->
   g (kV k) σ H fun σ2 H2=>tt σ2 H2 fun b H3=>if b=true then te σ2 H3 fun v H4=>Kt v σ2 H4 else Kf σ2 H3)(hd:∀ys σ H,Pv kvs.length ys σ H->fin H):ig (L8 d o kvs) g tt te D fin σB H0:=by
 refine⟨fun i m σ H=>m=kvs.length-i/\i<=kvs.length/\∃ys,Pv i ys σ H,⟨kvs.length,by simp,dv _,[],h0⟩,?_⟩;rintro i m σ H ⟨rfl,hi,ys,p⟩;have q:=hl i ys σ H hi p;by_cases d9:i<kvs.length
 .refine .inr ⟨⟨q,d9⟩,?_⟩;rintro x H' ⟨rfl,k,v,hk,rfl⟩;exact hs i k v ys σ _ (fun v σ2 H4=>∃ys,H4 D=some (.lst ys)/\ys.length<sizeLine/\∃m',m'<kvs.length-i/\m'=kvs.length-(i+1)/\i+1<=kvs.length/\∃o7,Pv (i+1) o7 σ2 (upd H4 D (.lst (ys++[v]))))
   (fun σ2 H3=>∃m',m'<kvs.length-i/\m'=kvs.length-(i+1)/\i+1<=kvs.length/\∃o7,Pv (i+1) o7 σ2 H3) hk p
   (fun v σ2 H4 z1 z2 z3=>⟨ys,z1,z2,_,by lia,rfl,d9,_,z3⟩) (fun σ2 H3 z=>⟨_,by lia,rfl,d9,_,z⟩)
 .have e:i=kvs.length:=by lia
  subst e;exact .inl ⟨⟨q,ba _⟩,hd ys σ H p⟩
end L2
namespace xk
open PySem L2
structure fA(H:Hp)(O:Addr)(as:List Addr)(n:Nat)(g:Nat->List Nat):Prop where
 dict:∃o ks,vX ks n/\H O=some (.iR o (.dK (eZ as ks)))
 rows:Holds H as n (fun h=>.lst (NV (g h)))
 inj:∀i j,i<n->j<n->as.getD i 0=as.getD j 0->i=j
theorem fA.same{H H':Hp}{O:Addr}{as:List Addr}{n:Nat}{g:Nat->List Nat}(h:fA H O as n g)(s:aM H H'):fA H' O as n g:=⟨let ⟨o,ks,a,e⟩:=h.dict;⟨o,ks,a,s _ _ e⟩,h.rows.mono fun j _ e=>s _ _ e,h.inj⟩
theorem fA.dC{H H':Hp}{O p:Addr}{as:List Addr}{n:Nat}{g:Nat->List Nat}(h:fA H O as n g)(s:aR p H H')(hp:aW H p)(f:OE as n p):fA H' O as n g:=by
 obtain⟨a,b,e,_⟩:=hp;obtain⟨o,ks,a0,d⟩:=h.dict;exact⟨⟨o,ks,a0,s _ _ d (cA d e (by intro z;cases z))⟩,h.rows.mono fun j hj x=>s _ _ x (f j hj).symm,h.inj⟩
theorem fA.get{H:Hp}{O:Addr}{as:List Addr}{n:Nat}{g:Nat->List Nat}(h:fA H O as n g){x:Nat}(hx:x<n):iy H O (.int x) (some (.ref (as.getD x 0))):=
 let ⟨o,ks,a,d⟩:=h.dict
 .inl ⟨eZ as ks,.inl (x:Int),.inr ⟨o,d⟩,rfl,by rw[fP,ao (a.mem.mpr hx)]⟩
abbrev Iy:Stmt:=gG 45
def jF:Option Nat->V
 |none=>.bJ
 |some h=>.int h
abbrev SV(s:List (Option Nat)):List V:=s.map jF
abbrev HV(s:List Int):List V:=s.map V.int
def eD(n:Nat)(g:Nat->List Nat)(s:List (Option Nat)):Prop:=(∀h,some h∈s->h<n)/\∀h,h<n->s.count (some h)<=(g h).length
theorem Iz{s:List (Option Nat)}:(SV s).all gv=true:=by
 rw[lL];intro v hv;obtain⟨j,_,rfl⟩:=cf.mp hv;cases j <;> rfl
theorem IA{a b:Option Nat}(h:jF a=jF b):a=b:=by
 cases a <;> cases b
 .rfl
 .cases h
 .cases h
 .have:=V.int.inj h;congr 1;lia
theorem xq{h:Nat}:∀ {s:List (Option Nat)},(SV s).countP (fun z=>sQ z (.int h))=s.count (some h)
 |[]=>rfl
 |x::s=>by
  have ih:=xq (h:=h) (s:=s);unfold SV at ih |-;rw[cQ,m_,ih,yG];have e:sQ (jF x) (.int (h:Int))=(x==some h):=by
   cases x with
   |none=>rfl
   |some y=>
    show ((y:Int)==(h:Int))=(some y==some h);rw[iT];simp;lia
  rw[e]
theorem QG{a b:Int}{c:Bool}:fR [V.int a,V.int b] (if c=true then 1 else 0)=some (V.int (if c=true then b else a)):=by cases c <;> rfl
theorem QH{a b w:Int}(h:0<=w):fR [V.int a,V.int b] (w % 2)=some (V.int (if w % 2=1 then b else a)):=by
 rcases(by lia:w % 2=0\/w % 2=1) with e|e <;> rw[e] <;> rfl
theorem A4{c:Prop}[Decidable c]{A:Prop}{C:St->Hp->Prop}{σ0:St}{H0:Hp}(G:St->Hp->Prop)(hC:∀σ H,G σ H->C σ H)(h1:c->(∀σ H,G σ H->C σ H)->A)(h2:¬ c->G σ0 H0):if c then A else C σ0 H0:=by
 by_cases h:c
 .rw[ao h];exact h1 h hC
 .rw[ap h];exact hC _ _ (h2 h)
theorem mV{A B:Prop}(h:A):if true=true then A else B:=by rw[ao rfl];exact h
theorem tP{A B:Prop}(h:B):if false=true then A else B:=by rw[ap (by decide)];exact h
theorem eD.push{n:Nat}{g:Nat->List Nat}{s:List (Option Nat)}{x:Option Nat}(h:eD n g s)(hx:∀y,x=some y->y<n/\s.count (some y)<(g y).length):eD n g (s++[x]):=by
 refine⟨fun y hy=>?_,fun y hy=>?_⟩
 .rcases bg.mp hy with z|z
  .exact h.1 y z
  .exact(hx y (bK.mp z).symm).1
 .rw[List.count_append,List.count_singleton];by_cases e:x=some y
  .have:=(hx y e).2;rw[ao (by rw[e];simp)];lia
  .rw[ap (by simpa using e)];exact h.2 y hy
def QI(n:Nat)(hs:List Int)(s:List (Option Nat)):Prop:=(∀h∈hs,0<=h/\h<n)/\∀i h,s.getD i none=some h->hs.getD i 0≠(h:Int)
section
variable {P:Program} {w:World} {K:PySem.W.Frag} {mg:Str->Option Value} {base:Heap}
theorem E_{α:Type}{l:List α}{x d:α}{n j:Nat}(h:l.length=n):(l++[x]).getD j d=if j=n then x else l.getD j d:=by
 rw[bQ,bQ];by_cases c:j=n
 .rw[ao c,oz (by lia),show j-l.length=0 by lia];rfl
 .rw[ap c];by_cases z:j<l.length
  .rw[iC z]
  .rw[hV (by rw[cr];simp;lia),hV (by lia)]
theorem IC{n x:Nat}{d:Int}(hx:x<n)(h0:0<=d)(h1:d<(n:Int)-1):((x:Int)+1+d) % (n:Int)≠(x:Int):=by
 by_cases c:(x:Int)+1+d<n
 .rw[ut (by lia) c];lia
 .rw[<-Int.sub_emod_right,ut (by lia) (by lia)];lia
theorem kA:aI ["_law_pot_here","_law_outs","_law_most","_law_many","_law_way","_law_first","_law_homes","_law_stand","_law_k","_law_start","_law_home"] ["_law_pot_here","_law_outs","_law_most"] (am Iy):=⟨rfl,rfl,rfl,by decide +kernel,rfl,by decide +kernel,by decide +kernel⟩
def Fa:Sp:=fun vs H Q _=>∃ (p O:Addr) (as:List Addr) (n:Nat) (g:Nat->List Nat),vs=[.ref p,.ref O,.int 12]/\aW H p/\fA H O as n g/\OE as n p/\2<=n/\n<=32/\
 ∀ (t a b:Addr) (hs:List Int) (s:List (Option Nat)) (H':Hp),H' t=some (.tup [.ref a,.ref b])->H' a=some (.tup (HV hs))->H' b=some (.tup (SV s))->hs.length=s.length->s.length<=16->eD n g s->QI n hs s->aR p H H'->aW H' p->Q (.ref t) H'
theorem MN{f:Addr}{fd:FuncData}(F:fX K "_law_letters" "_law_letters" Iy f fd)(B:Bl mg)(T:cp P w K mg base be 1 "_law_take" ["_law_pot_here","_law_many"] ku):bz P w K mg base be 2 f fd ["_law_pot_here","_law_outs","_law_most"] Fa:=by
 refine F.ok kA (fun vs H Q E h=>?_) (fun dQ A outer s H vs Q E hr h=>?_)
 .obtain⟨p,O,as,n,g,rfl,_⟩:=h;rfl
 .obtain⟨p,O,as,n,g,rfl,hp,hO,kB,n2,Ky,q⟩:=h;have hu:(A.deeper (PyProof.Rows.envOfC "_law_letters" (am Iy) s.heap.objs.size f dQ)).units+1<cLine:=by have:=hr.un;lia
  refine'⟨_,ah (aL (i:=3) kA.nd rfl (Or.inl rfl) (au tO (by rfl) B.len ce (aa (pv 1) ag)))
   (ah (aL (i:=4) kA.nd rfl (Or.inl rfl) (aE T hr aQ (aa (pv 0) (aa aq ag))))
   (ah (aL (i:=5) kA.nd rfl (Or.inl rfl) (aE T hr aQ (aa (pv 0) (aa (pv 3) ag))))
   (ah (aL (i:=6) kA.nd rfl (Or.inl rfl) (dS ag))
   (ah (aL (i:=7) kA.nd rfl (Or.inl rfl) (dS ag))
   (ah (dR eR rfl (dP rfl B.range (aa (aE T hr aQ (aa (pv 0) (aa (bC dF (pv 2) aq) ag))) ag)) (aF (i:=8) kA.nd rfl (Or.inl rfl))
    (ah (aL (i:=9) kA.nd rfl (Or.inl rfl) (bC gN (E6 (aa (bC dF (pv 5) (aE T hr aQ (aa (pv 0) (aa aq ag)))) (aa (aE T hr aQ (aa (pv 0) (aa (pv 3) ag))) ag)) (cV sI (by rfl) B.int pY (aa (dG oI (pv 4) aq (aO _)) ag)) (fun _ _=>rfl)) (pv 3)))
    (ah (aL (i:=10) kA.nd rfl (Or.inl rfl) (E6 (aa (pv 5) (aa (aE T hr aQ (aa (pv 0) (aa (pv 3) ag))) ag)) (cV sI (by rfl) B.int pY (aa (bC gN (pv 4) aq) ag)) (fun _ _=>rfl)))
    (ah (bx (aK eM (pv 10) (pv 9) (aO _)) (al (aL (i:=10) kA.nd rfl (Or.inl rfl) (bC gN (bC dF (bC dF (pv 10) aq) (aE T hr aQ (aa (pv 0) (aa (bC qz (pv 3) aq) ag)))) (pv 3)))) aS)
    (ah (bx (PW.pt (oH (aK eM (aE T hr aQ (aa (pv 0) (aa aq ag))) aq (aO _)) (l0 (aK eM (gO gI PySem.F.slot_list_count PySem.F.type_list_count Ek (pv 7) (aa (pv 9) ag)) (au aD (by rfl) B.len ce (aa (cx hu (pv 1) (pv 9) (fun _ _=>rfl)) ag)) (aO _)))))
     (al (aL (i:=9) kA.nd rfl (Or.inl rfl) cu)) aS)
    (ah (cw (gO gI jp jo cC (pv 6) (aa (pv 10) ag)))
    (al (cw (gO gI jp jo cC (pv 7) (aa (pv 9) ag))))))))))
   (al (aH (fN (aa (cV fS (by rfl) B.tup pV (aa (pv 6) ag)) (aa (cV fS (by rfl) B.tup pV (aa (pv 7) ag)) ag)))))))))),?_⟩
  obtain⟨oo,ks,OK,hd⟩:=hO.dict;refine⟨_,rfl,O,_,rfl,⟨oo,hd⟩,?_⟩;change bH 3 (V.int (((eZ as ks).length:Nat):Int)) _ _ _;rw[bW,OK.len];refine⟨_,rfl,p,4,rfl,by decide,by decide,hp,fun A5 a b y0 y1 a0 b0 b1=>?_⟩;refine⟨_,rfl,_,rfl,p,n,rfl,by lia,by lia,aW.upd a0 b0 b1,fun first a2 b2 z0 z1 c0 c1 c2=>?_⟩;rw[ie];have Gs:aW (upd H p (.lst [.int a2,.int b2])) p:=aW.upd c0 c1 c2;have Kz:aR p H (upd H p (.lst [.int a2,.int b2])):=aR.upd;refine⟨by show 0<=sizeLine;decide,fun Lh V2=>⟨by show 0<=sizeLine;decide,fun Ls V3=>?_⟩⟩;have KA:Lh≠Ls:=ak af V3;have V4:(upd H p (.lst [.int a2,.int b2])) Ls=none:=(aj V2).free V3;have Y6:H Lh=none:=Kz.free Gs.some V2;have Y7:H Ls=none:=Kz.free Gs.some V4;have Y8:Lh≠p:=by rintro rfl;exact hp.some Y6
  have Y9:Ls≠p:=by rintro rfl;exact hp.some Y7
  have s3:=(aj (o:=.lst []) V2).trans (aj (o:=.lst []) V3)
  let J:List Int->List (Option Nat)->Hp->Prop:=fun hs st Hc=>aR p H Hc/\aW Hc p/\Hc Lh=some (.lst (HV hs))/\Hc Ls=some (.lst (SV st))
  have rl:∀hs st Hc H',J hs st Hc->aR p Hc H'->aW H' p->J hs st H':=by
   rintro hs st Hc H' ⟨o1,o2,o3,o4⟩ se po;exact⟨o1.trans se,po,se _ _ o3 Y8,se _ _ o4 Y9⟩
  have xr:∀hs st Hc H',J hs st Hc->aM Hc H'->J hs st H':=fun hs st Hc H' i s=>rl hs st Hc H' i (aR.of s) (i.2.1.same s);have outs:∀hs st Hc,J hs st Hc->fA Hc O as n g:=fun hs st Hc j=>hO.dC j.1 hp kB;have J0:J [] [] (upd (upd (upd H p (.lst [.int a2,.int b2])) Lh (.lst [])) Ls (.lst [])):=⟨Kz.trans (aR.of s3),Gs.same s3,by rw[ai KA];exact af,af⟩
  refine⟨_,rfl,_,rfl,_,_,rfl,rfl,p,_,rfl,by decide,by decide,J0.2.1,fun d a3 b3 d0 d1 k0 k1 k2=>⟨d,rfl,by lia,by lia,eE (n:=d.toNat) (lo:=0) (fun i σ H3=>(∃v8 v9 Gu,σ=[some (.ref p),some (.ref O),some (.int 12),some (.int n),some (.int A5),some (.int first),some (.ref Lh),some (.ref Ls),v8,v9,Gu])/\∃hs st,J hs st H3/\hs.length=i/\st.length=i/\eD n g st/\QI n hs st)
   ⟨⟨_,_,_,rfl⟩,[],[],rl _ _ _ _ J0 aR.upd (aW.upd k0 k1 k2),rfl,rfl,⟨fun h hh=>(nomatch hh),fun h hh=>by simp⟩,⟨fun h hh=>(nomatch hh),fun i h e=>by cases e⟩⟩ ?_ ?_⟩⟩
  .rintro i σ H3 hi ⟨⟨v8,v9,Gu,rfl⟩,hs,st,J3,lh,ls,R,BH⟩;have Y_:i<17:=by
    have:d<17:=Int.lt_of_lt_of_le d1 (by decide);lia
   refine⟨_,rfl,_,rfl,p,3,rfl,by decide,by decide,J3.2.1,fun d4 a4 b4 p4 q4 r4 s4 t4=>⟨_,_,rfl,rfl,_,rfl,_,rfl,p,n,rfl,by lia,by lia,aW.upd r4 s4 t4,fun d5 a5 b5 p5 q5 r5 s5 t5=>⟨by show 2<=sizeLine;decide,fun L1 Vv=>?_⟩⟩⟩;have J5:=xr _ _ _ _ (rl _ _ _ _ (rl _ _ _ _ J3 aR.upd (aW.upd r4 s4 t4)) aR.upd (aW.upd r5 s5 t5)) (aj (o:=.lst [.int (first+d4),.int d5]) Vv);refine⟨_,rfl,_,_,rfl,rfl,.inr ⟨_,rfl,L1,_,_,_,rfl,rfl,aV.of af,QG,_,rfl,_,_,rfl,rfl,by lia,?_⟩⟩;obtain⟨x,hx⟩:∃x:Nat,(x:Int)=(if (decide (A5<2))=true then d5 else first+d4) % (n:Int):=⟨((if (decide (A5<2))=true then d5 else first+d4) % (n:Int)).toNat,Int.toNat_of_nonneg (iS _ (by lia))⟩
   have xn:x<n:=by
    have:=mw (if (decide (A5<2))=true then d5 else first+d4) (show (0:Int)<n by lia);lia
   change bH 9 (V.int ((if (decide (A5<2))=true then d5 else first+d4) % (n:Int))) _ _ _;rw[<-hx];revert J5;generalize upd _ L1 _=H5;intro J5;refine⟨_,rfl,_,rfl,_,rfl,p,n,rfl,by lia,by lia,J5.2.1,fun d6 a6 b6 p6 q6 r6 s6 t6=>⟨by show 2<=sizeLine;decide,fun L2 Tl=>?_⟩⟩;have J6:=xr _ _ _ _ (rl _ _ _ _ J5 aR.upd (aW.upd r6 s6 t6)) (aj (o:=.lst [.int first,.int d6]) Tl);refine⟨_,rfl,_,_,rfl,rfl,by show (0:Int)<2;decide,.inl ⟨_,rfl,L2,_,_,_,rfl,rfl,aV.of af,QH y0,?_⟩⟩;change bH 10 (V.int (if A5 % 2=1 then d6 else first)) _ _ _;have hb:0<=(if A5 % 2=1 then d6 else first)/\(if A5 % 2=1 then d6 else first)<n:=by split <;> lia
   revert hb;generalize (if A5 % 2=1 then d6 else first)=home;intro hb;revert J6;generalize upd _ L2 _=H6;intro J6;refine⟨_,rfl,_,rfl,rfl,_,rfl,?_⟩;refine A4 (fun σ Hc=>∃hm,σ=[some (.ref p),some (.ref O),some (.int 12),some (.int n),some (.int A5),some (.int first),some (.ref Lh),some (.ref Ls),some (.int (0+(i:Int))),some (.int x),some (.int hm)]/\((0<=hm/\hm<n)/\hm≠(x:Int))/\J hs st Hc) ?_ (fun e kc=>?_) (fun e=>⟨_,rfl,⟨hb,fun z=>e (by rw[z];exact bB rfl)⟩,J6⟩)
   .rintro σ H7 ⟨hm,rfl,Za,J7⟩;refine⟨_,rfl,p,9,rfl,by decide,by decide,J7.2.1,fun d8 a8 b8 p8 q8 r8 s8 t8=>⟨rfl,_,rfl,?_⟩⟩;have J8:=rl _ _ _ _ J7 aR.upd (aW.upd r8 s8 t8);have fin:∀ (y:Option Nat) (H9:Hp),J hs st H9->(∀z,y=some z->z<n/\st.count (some z)<(g z).length)->(∀z,y=some z->z=x)->J (hs++[hm]) (st++[y]) (upd (upd H9 Lh (.lst (HV hs++[.int hm]))) Ls (.lst (SV st++[jF y]))):=by
     rintro y H9 ⟨o1,o2,o3,o4⟩ _ _;refine⟨gH (gH o1 Y6) Y7,?_,?_,?_⟩
     .obtain⟨u,v,e,r⟩:=o2;exact⟨u,v,by rw[ai Y9.symm,ai Y8.symm];exact e,r⟩
     .rw[ai KA,af];unfold HV;rw[List.map_append];rfl
     .rw[af];unfold SV;rw[List.map_append];rfl
    have MO:∀ (y:Option Nat) (H9:Hp),J hs st H9->(∀z,y=some z->z<n/\st.count (some z)<(g z).length)->(∀z,y=some z->z=x)->∃hs' aU,J hs' aU (upd (upd H9 Lh (.lst (HV hs++[.int hm]))) Ls (.lst (SV st++[jF y])))/\hs'.length=i+1/\aU.length=i+1/\eD n g aU/\QI n hs' aU:=
     fun y H9 j9 hy Zb=>⟨_,_,fin y H9 j9 hy Zb,by rw[cr,lh];rfl,by rw[cr,ls];rfl,R.push hy,fun h hh=>by
      rcases bg.mp hh with z|z
      .exact BH.1 h z
      .rw[bK.mp z];exact Za.1,fun j h e=>by
      rw[E_ ls] at e;rw[E_ lh];by_cases c:j=i
      .rw[ao c] at e |-;rw[Zb h e];exact Za.2
      .rw[ap c] at e |-;exact BH.2 j h e⟩
    have V5:(HV hs).length<sizeLine:=by rw[aG,lh];exact bV Y_ (by decide)
    have V6:(SV st).length<sizeLine:=by rw[aG,ls];exact bV Y_ (by decide)
    refine bR (fun e=>?_) (fun e=>?_)
    .refine mV ?_;exact⟨_,rfl,.inl ⟨rfl,_,aV.of J8.2.2.1⟩,_,rfl,Lh,_,_,rfl,rfl,J8.2.2.1,V5,_,rfl,.inl ⟨rfl,_,aV.of (by rw[ai KA.symm];exact J8.2.2.2)⟩,_,rfl,Ls,_,_,rfl,rfl,by rw[ai KA.symm];exact J8.2.2.2,V6,⟨_,_,_,rfl⟩,MO none _ J8 (fun z hz=>by cases hz) (fun z hz=>by cases hz)⟩
    .have Zc:=outs _ _ _ J8;refine⟨_,rfl,.inl ⟨rfl,_,aV.of J8.2.2.2⟩,_,rfl,Ls,_,_,rfl,rfl,J8.2.2.2,rfl,Iz,_,rfl,_,rfl,O,_,rfl,Zc.get xn,as.getD x 0,NV (g x),rfl,.inl (aV.of (Zc.rows.2 x xn)),rfl,_,rfl,?_⟩;refine bR (fun e2=>?_) (fun e2=>?_)
     .exact⟨_,rfl,.inl ⟨rfl,_,aV.of J8.2.2.1⟩,_,rfl,Lh,_,_,rfl,rfl,J8.2.2.1,V5,_,rfl,.inl ⟨rfl,_,aV.of (by rw[ai KA.symm];exact J8.2.2.2)⟩,_,rfl,Ls,_,_,rfl,rfl,by rw[ai KA.symm];exact J8.2.2.2,V6,⟨_,_,_,rfl⟩,MO none _ J8 (fun z hz=>by cases hz) (fun z hz=>by cases hz)⟩
     .refine⟨_,rfl,.inl ⟨rfl,_,aV.of J8.2.2.1⟩,_,rfl,Lh,_,_,rfl,rfl,J8.2.2.1,V5,_,rfl,.inl ⟨rfl,_,aV.of (by rw[ai KA.symm];exact J8.2.2.2)⟩,_,rfl,Ls,_,_,rfl,rfl,by rw[ai KA.symm];exact J8.2.2.2,V6,⟨_,_,_,rfl⟩,MO (some x) _ J8 (fun z hz=>?_) (fun z hz=>(aY hz).symm)⟩;cases hz;refine⟨xn,?_⟩;have:=R.2 x xn;refine Nat.lt_of_le_of_ne this fun z=>e2 (bB ?_);rw[xq,z,aG]
   .refine⟨_,rfl,_,_,rfl,rfl,_,rfl,_,rfl,_,_,rfl,rfl,p,_,rfl,by lia,by lia,J6.2.1,fun d7 a7 b7 p7 q7 r7 s7 t7=>⟨_,_,rfl,rfl,_,rfl,_,_,rfl,rfl,by lia,kc _ _ ⟨_,rfl,⟨⟨iS _ (by lia),mw _ (by lia)⟩,?_⟩,rl _ _ _ _ J6 aR.upd (aW.upd r7 s7 t7)⟩⟩⟩;have e:home=(x:Int):=by have:=b9 e;injection this
    rw[e];exact IC xn p7 q7
  .rintro σ H3 ⟨⟨v8,v9,Gu,rfl⟩,hs,st,J3,lh,ls,R,BH⟩;refine⟨_,rfl,Lh,_,rfl,.inl ⟨aV.of J3.2.2.1,fun a hA=>?_⟩⟩;have J4:=xr _ _ _ _ J3 (aj (o:=.tup (HV hs)) hA);refine⟨_,rfl,Ls,_,rfl,.inl ⟨aV.of J4.2.2.2,fun b hB=>?_⟩⟩;have J5:=xr _ _ _ _ J4 (aj (o:=.tup (SV st)) hB);refine⟨by show 2<=sizeLine;decide,fun t ht=>?_⟩;have J6:=xr _ _ _ _ J5 (aj (o:=.tup [.ref a,.ref b]) ht);have:d<17:=Int.lt_of_lt_of_le d1 (by decide);exact q t a b hs st _ af (aj ht _ _ (aj hB _ _ af)) (aj ht _ _ af) (by lia) (by lia) R BH J6.1 J6.2.1
end
abbrev MP:Stmt:=gG 46
def KB(hs:List Int)(i:Nat):Option Nat->Option Nat
 |none=>none
 |some h=>if (h:Int)=hs.getD i 0 then none else some h
def Fb(hs:List Int)(gs:List (Option Nat))(k:Nat):List (Option Nat):=(List.range k).map fun i=>KB hs i (gs.getD i none)
def bh(hs:List Int)(gs:List (Option Nat)):List (Option Nat):=Fb hs gs gs.length
theorem Fc{hs:List Int}{gs:List (Option Nat)}{k:Nat}:Fb hs gs (k+1)=Fb hs gs k++[KB hs k (gs.getD k none)]:=by unfold Fb;rw[mB,cP];rfl
theorem vB{hs:List Int}{gs:List (Option Nat)}{k:Nat}:(Fb hs gs k).length=k:=by unfold Fb;rw[aG,fq]
theorem zQ{s:List (Option Nat)}{i:Nat}{x:V}(h:(SV s)[i]?=some x):i<s.length/\x=jF (s.getD i none):=by
 rw[bq] at h;cases e:s[i]? with
 |none=>rw[e] at h;cases h
 |some a=>
  rw[e] at h;refine⟨(cM.mp e).1,?_⟩;rw[bQ,e];exact(aY h).symm
theorem dM{s:List (Option Nat)}{i:Nat}(h:i<s.length):fR (SV s) (i:Int)=some (jF (s.getD i none)):=by
 refine bO ?_;rw[bq,bY h,bQ,bY h];rfl
theorem jy{s:List Int}{i:Nat}(h:i<s.length):fR (HV s) (i:Int)=some (.int (s.getD i 0)):=by
 refine bO ?_;rw[bq,bY h,bQ,bY h];rfl
theorem ID{s:List (Option Nat)}{o:Option Nat}:SV (s++[o])=SV s++[jF o]:=by unfold SV;rw[cP];rfl
theorem KC:(["_law_i","_law_house","_law_homes"]:List Str).Nodup:=by decide +kernel
section
variable {P:Program} {w:World} {K:PySem.W.Frag} {mg:Str->Option Value} {base:Heap}
theorem QJ:aI ["_law_homes","_law_stand","_law_gone"] ["_law_homes","_law_stand","_law_gone"] (am MP):=⟨rfl,rfl,rfl,by decide +kernel,rfl,by decide +kernel,by decide +kernel⟩
def Fd:Sp:=fun vs H Q _=>∃ (a c:Addr) (y:V) (hs:List Int) (gs:List (Option Nat)),vs=[.ref a,y,.ref c]/\H a=some (.tup (HV hs))/\H c=some (.tup (SV gs))/\gs.length=hs.length/\gs.length<=16/\
 ∀ (r:Addr) (H':Hp),aM H H'->H' r=some (.tup (SV (bh hs gs)))->Q (.ref r) H'
theorem MQ{f:Addr}{fd:FuncData}(F:fX K "_law_behind" "_law_behind" MP f fd)(B:Bl mg):bz P w K mg base be 1 f fd ["_law_homes","_law_stand","_law_gone"] Fd:=by
 refine F.ok QJ (fun vs H Q E h=>?_) (fun dQ A outer s H vs Q E hr h=>?_)
 .obtain⟨a,c,y,hs,gs,rfl,_⟩:=h;rfl
 .obtain⟨a,c,y,hs,gs,rfl,ha,hc,hl,OG,q⟩:=h;refine'⟨_,al (aH (cV fS (by rfl) B.tup pV (aa ?c ag))),?_⟩;case c=>
   refine' cK (g:=wn K 2 (gK (bH 0) (gK (bH 1) wg))) (te:=Yh (Yg (tB (O0 (bb 1))) (jZ (mE SN (bb 1) (mE (BO K) (bb 2) (bb 0))))) (tC .bJ) (bb 1)) (NB:=["_law_i","_law_house","_law_homes"]) (src:=[none,none,some 0]) (cj (by kernel_rfl)) rfl
    (qO rfl B.enum (aa (pv 2) ag)) ?g ?t ?e
   case g=>exact fun cl C s₃ H₃ fp=>gL (n:=2) rfl (bu (aF (i:=0) KC rfl (Or.inl rfl) (Or.inr rfl)) (bu (aF (i:=1) KC rfl (Or.inl rfl) (Or.inr rfl)) ft))
   case t=>exact fun cl C s₃ H₃ fp=>fT
   case e=>exact fun cl C s₃ H₃ fp=>wd (PW.pt (oH (uI (K_ (pv 1))) (l0 (aK eM (pv 1) (aA a9 (pv 2) (pv 0) (fun _ _=>rfl)) (aO _))))) cu (pv 1)
  refine⟨_,rfl,c,_,rfl,cR.of hc,fun D hD=>?_⟩;have fin:∀i ys H3 t o,ys=SV (Fb hs gs i)->aM H H3->H3 D=some (.lst ys)->H3 t=none->i<gs.length->KB hs i (gs.getD i none)=o->
    (upd H3 t (.tup [.int (i:Int),jF (gs.getD i none)])) D=some (.lst ys)/\ys.length<sizeLine/\ys++[jF o]=SV (Fb hs gs (i+1))/\aM H (upd (upd H3 t (.tup [.int (i:Int),jF (gs.getD i none)])) D (.lst (ys++[jF o])))/\(upd (upd H3 t (.tup [.int (i:Int),jF (gs.getD i none)])) D (.lst (ys++[jF o]))) D=some (.lst (ys++[jF o])):=by
   rintro i ys H3 t o rfl sm jE ht hi rfl;refine⟨aj ht _ _ jE,?_,?_,fun b u e=>?_,af⟩
   .rw[aG,vB];exact bV (show i<17 by lia) (by decide)
   .rw[Fc,ID]
   .rw[ai (ak e hD)];exact aj ht _ _ (sm _ _ e)
  refine qP (K:=K) (a:=c) (xs:=SV gs) (fun i ys σ H3=>(∃u v,σ=[u,v,some (.ref a)])/\ys=SV (Fb hs gs i)/\aM H H3/\H3 D=some (.lst ys)) ⟨⟨_,_,rfl⟩,rfl,aj hD,af⟩ (fun i ys σ H3 _ z=>cR.of (z.2.2.1 _ _ hc)) ?_ ?_
  .rintro i x t ys σ H3 Kt Kf hx ⟨⟨u,v,rfl⟩,V7,sm,jE⟩ ht kt kf;obtain⟨hi,rfl⟩:=zQ hx;refine⟨_,_,rfl,cR.of af,rfl,_,_,rfl,_,_,rfl,rfl,?_⟩;refine⟨_,rfl,_,rfl,?_⟩;cases ho:gs.getD i none with
   |none=>
    obtain⟨f1,f2,f3,f4,f5⟩:=fin i ys H3 t none V7 sm jE ht hi (by rw[ho];rfl);rw[ho] at f1 f4 f5;refine bR (fun e=>?_) (fun e=>absurd (bB rfl) e);exact mV (kt _ _ _ f1 f2 ⟨⟨_,_,rfl⟩,f3,f4,f5⟩)
   |some h=>
    refine bR (fun e=>absurd (b9 e) (by intro z;cases z)) (fun e=>?_);refine⟨_,rfl,_,rfl,_,rfl,a,_,_,_,rfl,rfl,cR.of (aj ht _ _ (sm _ _ ha)),jy (by lia),rfl,_,rfl,?_⟩;refine bR (fun e2=>?_) (fun e2=>?_)
    .have e3:(h:Int)=hs.getD i 0:=V.int.inj (b9 e2);obtain⟨f1,f2,f3,f4,f5⟩:=fin i ys H3 t none V7 sm jE ht hi (by rw[ho];exact ao e3);rw[ho] at f1 f4 f5;exact kt _ _ _ f1 f2 ⟨⟨_,_,rfl⟩,f3,f4,f5⟩
    .have e3:¬ (h:Int)=hs.getD i 0:=fun z=>e2 (bB (by show V.int (h:Int)=V.int (hs.getD i 0);rw[z]));obtain⟨f1,f2,f3,f4,f5⟩:=fin i ys H3 t (some h) V7 sm jE ht hi (by rw[ho];exact ap e3);rw[ho] at f1 f4 f5;exact⟨_,rfl,kt _ _ _ f1 f2 ⟨⟨_,_,rfl⟩,f3,f4,f5⟩⟩
  .rintro ys σ H3 ⟨_,rfl,sm,jE⟩;rw[show (SV gs).length=gs.length from aG _] at jE;exact⟨D,_,rfl,.inl ⟨aV.of jE,fun r hr=>q r _ (sm.trans (aj hr)) af⟩⟩
end
theorem tQ:∀ {l m:List Nat},l.Nodup->(∀x∈l,x∈m)->l.length<=m.length
 |[],m,_,_=>dv _
 |a::l,m,nd,sub=>by
  have ha:a∈m:=sub a cq;have ih:=tQ (l:=l) (m:=m.erase a) (dq.mp nd).2 fun x hx=>(yf (show x≠a from fun z=>(dq.mp nd).1 (by rw[<-z];exact hx))).mpr (sub x (cy _ hx));rw[xW ha] at ih;have:=pW ha;rw[cG];lia
theorem xt{s:List (Option Nat)}{a:Option Nat}:s.count a=((List.range s.length).filter fun i=>s.getD i none==a).length:=by
 have e:(List.range s.length).map (fun i=>s.getD i none)=s:=by
  apply yx;intro i;rw[bq];by_cases hi:i<s.length
  .rw[oE hi,bY hi];show some (s.getD i none)=_;rw[bQ,bY hi];rfl
  .rw[hV (by rw[fq];lia),hV (by lia)];rfl
 conv=>lhs;rw[<-e]
 rw[List.count_eq_countP,List.countP_map,C_];rfl
structure dk(g:Nat->List Nat)(s gs:List (Option Nat)):Prop where
 len:gs.length=s.length
 bJ:∀i,s.getD i none=none->gs.getD i none=none
 tie:∀i h,s.getD i none=some h->∃o,gs.getD i none=some o/\o∈g h
 Tn:∀i j h o,s.getD i none=some h->s.getD j none=some h->gs.getD i none=some o->gs.getD j none=some o->i=j
theorem aT{s:List (Option Nat)}{i h:Nat}(e:s.getD i none=some h):i<s.length/\some h∈s:=by
 rw[bQ] at e;cases z:s[i]? with
 |none=>rw[z] at e;cases e
 |some a=>
  rw[z] at e;have e':a=some h:=e;exact⟨(cM.mp z).1,e' ▸ dW z⟩
theorem zR{s:List (Option Nat)}{h:Nat}(e:some h∈s):∃i,i<s.length/\s.getD i none=some h:=by
 obtain⟨i,hi⟩:=List.getElem?_of_mem e;exact⟨i,(cM.mp hi).1,by rw[bQ,hi];rfl⟩
theorem dk.right{n:Nat}{g:Nat->List Nat}{s gs t:List (Option Nat)}(Hd:dk g s gs)(G:fh n g)(R:eD n g s)(hl:t.length=gs.length)(ht:∀i,t.getD i none=none\/t.getD i none=gs.getD i none):eD n g t:=by
 have key:∀i x,t.getD i none=some x->∃h,s.getD i none=some h/\h<n/\x∈g h/\gs.getD i none=some x:=by
  intro i x e;have e2:gs.getD i none=some x:=by
   rcases ht i with z|z
   .rw[z] at e;cases e
   .rw[<-z];exact e
  cases es:s.getD i none with
  |none=>rw[Hd.bJ i es] at e2;cases e2
  |some h=>
   obtain⟨o,o1,o2⟩:=Hd.tie i h es;rw[e2] at o1;cases o1;exact⟨h,rfl,R.1 h (aT es).2,o2,e2⟩
 refine⟨fun x hx=>?_,fun x hx=>?_⟩
 .obtain⟨i,_,e⟩:=zR hx;obtain⟨h,_,hn,ho,_⟩:=key i x e;exact(G.lt h hn x ho).1
 .rw[xt,G.Ez x hx];unfold inn;rw[C_,<-aG (f:=fun i=>(s.getD i none).getD 0)];refine tQ ?_ fun y hy=>?_
  .refine jq.mpr ?_;refine xY ?_ (m8 _ (jN (n:=t.length)));intro i j hi hj HD e;have ei:=eq_of_beq (bX.mp hi).2;have ej:=eq_of_beq (bX.mp hj).2;obtain⟨h1,a1,_,_,b1⟩:=key i x ei;obtain⟨h2,a2,_,_,b2⟩:=key j x ej;have e':(s.getD i none).getD 0=(s.getD j none).getD 0:=e;rw[a1,a2] at e';have e'':h1=h2:=e';subst e'';exact HD (Hd.Tn i j h1 x a1 a2 b1 b2)
  .obtain⟨i,hi,rfl⟩:=cf.mp hy;obtain⟨h,a,hn,ho,_⟩:=key i x (eq_of_beq (bX.mp hi).2);refine bX.mpr ⟨?_,?_⟩
   .rw[a];exact bL.mpr hn
   .rw[a];exact bB ho
theorem KD{hs:List Int}{gs:List (Option Nat)}(i:Nat):(bh hs gs).getD i none=none\/(bh hs gs).getD i none=gs.getD i none:=by
 by_cases hi:i<gs.length
 .have e:(bh hs gs).getD i none=KB hs i (gs.getD i none):=by
   unfold bh Fb;rw[bQ,bq,oE hi];rfl
  rw[e];cases gs.getD i none with
  |none=>exact .inl rfl
  |some h=>
   unfold KB;dsimp only;by_cases z:(h:Int)=hs.getD i 0
   .rw[ao z];exact .inl rfl
   .rw[ap z];exact .inr rfl
 .left;rw[bQ,hV (by unfold bh;rw[vB];lia)];rfl
theorem vC{hs:List Int}{gs:List (Option Nat)}:(bh hs gs).length=gs.length:=vB
def lc(p:Nat×Nat):List dz:=[.inl (p.1:Int),.inl (p.2:Int)]
def CK(ps:List (Nat×Nat)):List (List dz×V):=ps.map fun p=>(lc p,V.bl true)
theorem Fe{p q:Nat×Nat}(h:lc p=lc q):p=q:=by
 obtain⟨a,b⟩:=p;obtain⟨c,d⟩:=q;unfold lc at h;have h1:=(yK h).1;have h2:=(yK (yK h).2).1;have e1:=qp h1;have e2:=qp h2;dsimp only at e1 e2;congr 1 <;> lia
theorem kW{p:Nat×Nat}:∀ {ps:List (Nat×Nat)},(iL (CK ps) (lc p)).isSome=decide (p∈ps)
 |[]=>by simp[CK,iL]
 |q::ps=>by
  have ih:=kW (p:=p) (ps:=ps);unfold CK iL at ih |-;rw[cQ,lN];by_cases e:q=p
  .subst e;simp
  .have:(decide (lc q=lc p))=false:=cH fun z=>e (Fe z);simp only[this];rw[ih];have e':¬ p=q:=fun z=>e z.symm;simp[e']
theorem Ff{p:Nat×Nat}{ps:List (Nat×Nat)}(h:p∉ps):iL (CK ps) (lc p)=none:=by
 have:=kW (p:=p) (ps:=ps);rw[cH h] at this;cases e:iL (CK ps) (lc p) with
 |none=>rfl
 |some v=>rw[e] at this;cases this
theorem Fg{p:Nat×Nat}{ps:List (Nat×Nat)}:CK (ps++[p])=CK ps++[(lc p,V.bl true)]:=by unfold CK;rw[cP];rfl
theorem Fh{m:Nat}:(List.replicate m [V.bJ]).flatten=SV (List.replicate m none):=by
 induction m with
 |zero=>rfl
 |succ m ih=>
  rw[lG,qb,ih,lG];rfl
def Gv(s:List (Option Nat))(k:Nat):List Nat:=(List.range k).filter fun i=>(s.getD i none).isSome
theorem IE{s:List (Option Nat)}{k:Nat}:(Gv s k).length<=k:=by
 unfold Gv;refine bj (jG _ _) ?_;rw[fq];exact ba _
def gg(s gl:List (Option Nat))(pre:List Nat):List (Nat×Nat):=pre.map fun i=>((s.getD i none).getD 0,(gl.getD i none).getD 0)
structure C4(g:Nat->List Nat)(s gl:List (Option Nat))(pre:List Nat):Prop where
 len:gl.length=s.length
 out:∀i,i∉pre->gl.getD i none=none
 inn:∀i∈pre,∃h o,s.getD i none=some h/\gl.getD i none=some o/\o∈g h
 nd:(gg s gl pre).Nodup
theorem kM{n:Nat}{g:Nat->List Nat}{s gl:List (Option Nat)}{pre:List Nat}{i h:Nat}(M:C4 g s gl pre)(np:(pre++[i]).Nodup)(R:eD n g s)(G:fh n g)(hs:s.getD i none=some h):0<((g h).filter fun o=>decide ((h,o)∉gg s gl pre)).length:=by
 refine Nat.pos_of_ne_zero fun z=>?_;have hn:h<n:=R.1 h (aT hs).2;have all:∀o∈g h,(h,o)∈gg s gl pre:=by
  intro o ho;by_cases e:(h,o)∈gg s gl pre
  .exact e
  .have:o∈(g h).filter fun o=>decide ((h,o)∉gg s gl pre):=bX.mpr ⟨ho,bB e⟩;rw[C8 z] at this;cases this
 have h1:(g h).length<=((gg s gl pre).filter fun p=>p.1==h).length:=by
  rw[<-aG (f:=fun p:Nat×Nat=>p.2)];refine tQ (G.nd h hn) fun o ho=>cf.mpr ⟨(h,o),bX.mpr ⟨all o ho,by simp⟩,rfl⟩
 have h2:((gg s gl pre).filter fun p=>p.1==h).length=(pre.filter fun i=>(s.getD i none).getD 0==h).length:=by
  unfold gg;rw[xT,aG];rfl
 have h3:(i::pre.filter fun i=>(s.getD i none).getD 0==h).length<=s.count (some h):=by
  rw[xt];obtain⟨n1,n2,n3⟩:=iF.mp np;refine tQ (dq.mpr ⟨fun z=>n3 i (bX.mp z).1 i (bK.mpr rfl) rfl,m8 _ n1⟩) fun x hx=>?_;rcases bP.mp hx with rfl|hx
  .exact bX.mpr ⟨bL.mpr (aT hs).1,by rw[hs];simp⟩
  .obtain⟨p1,p2⟩:=bX.mp hx;obtain⟨h',o,a,_,_⟩:=M.inn x p1;rw[a] at p2;have p3:h'=h:=eq_of_beq p2;subst p3;exact bX.mpr ⟨bL.mpr (aT a).1,by rw[a];simp⟩
 rw[cG] at h3;have:=R.2 h hn;lia
theorem dJ{gl:List (Option Nat)}{i j:Nat}{x:Option Nat}(h:i<gl.length):(gl.set i x).getD j none=if j=i then x else gl.getD j none:=by
 rw[bQ,bQ,List.getElem?_set];by_cases e:i=j
 .subst e;rw[ao rfl,ao h,ao rfl];rfl
 .rw[ap e,ap (fun z=>e z.symm)]
theorem IF{s gl:List (Option Nat)}{pre:List Nat}{i:Nat}{x:Option Nat}(h:i<gl.length)(hp:i∉pre):gg s (gl.set i x) pre=gg s gl pre:=by
 unfold gg;refine jI fun j hj=>?_;have V8:j≠i:=by rintro rfl;exact hp hj
 rw[dJ h,ap V8]
theorem C4.step{g:Nat->List Nat}{s gl:List (Option Nat)}{pre:List Nat}{i h o:Nat}(M:C4 g s gl pre)(hp:i∉pre)(hs:s.getD i none=some h)(ho:o∈g h)(hf:(h,o)∉gg s gl pre):C4 g s (gl.set i (some o)) (pre++[i])/\gg s (gl.set i (some o)) (pre++[i])=gg s gl pre++[(h,o)]:=by
 have hi:i<gl.length:=by rw[M.len];exact(aT hs).1
 have e:gg s (gl.set i (some o)) (pre++[i])=gg s gl pre++[(h,o)]:=by
  have:gg s (gl.set i (some o)) (pre++[i])=gg s (gl.set i (some o)) pre++gg s (gl.set i (some o)) [i]:=by unfold gg;rw[cP]
  rw[this,IF hi hp];congr 1;unfold gg;rw[cQ,lS,dJ hi,ao rfl,hs];rfl
 refine⟨⟨by rw[lM];exact M.len,fun j hj=>?_,fun j hj=>?_,?_⟩,e⟩
 .rw[dJ hi,ap (fun z=>hj (bg.mpr (.inr (bK.mpr z))))];exact M.out j (fun z=>hj (bg.mpr (.inl z)))
 .rw[dJ hi];rcases bg.mp hj with z|z
  .have V8:j≠i:=by rintro rfl;exact hp z
   rw[ap V8];exact M.inn j z
  .rw[ao (bK.mp z),bK.mp z];exact⟨h,o,hs,rfl,ho⟩
 .rw[e];exact iF.mpr ⟨M.nd,dq.mpr ⟨(fun z=>nomatch z),h_⟩,fun u hu v hv z=>hf (by rw[bK] at hv;rw[<-hv,<-z];exact hu)⟩
theorem C4.done{g:Nat->List Nat}{s gl:List (Option Nat)}{pre:List Nat}(M:C4 g s gl pre)(hp:pre.Perm (Gv s s.length)):dk g s gl:=by
 have mem:∀i h,s.getD i none=some h->i∈pre:=fun i h e=>hp.mem_iff.mpr (bX.mpr ⟨bL.mpr (aT e).1,by rw[e];rfl⟩);refine⟨M.len,fun i e=>?_,fun i h e=>?_,fun i j h o a b c d=>?_⟩
 .refine M.out i fun z=>?_;obtain⟨h,_,y,_⟩:=M.inn i z;rw[e] at y;cases y
 .obtain⟨h',o,a,b,c⟩:=M.inn i (mem i h e);rw[e] at a;cases a;exact⟨o,b,c⟩
 .have n1:=M.nd;unfold gg at n1;by_cases z:i=j
  .exact z
  .have hn:=jq.mp n1;have hi:=mem i h a;have hj:=mem j h b;obtain⟨x,hx,ex⟩:=m7.mp hi;obtain⟨y,hy,ey⟩:=m7.mp hj;have hq:=pQ.mp hn;rcases Nat.lt_trichotomy x y with l|l|l
   .refine absurd ?_ (hq x y hx hy l);rw[ex,ey,a,b,c,d]
   .subst l;rw[ex] at ey;exact ey
   .refine absurd ?_ (hq y x hy hx l);rw[ex,ey,a,b,c,d]
theorem C4.nil{g:Nat->List Nat}{s:List (Option Nat)}:C4 g s (List.replicate s.length none) []:=by
 refine⟨pR,fun i _=>?_,fun i hi=>(nomatch hi),h_⟩;rw[bQ,xZ];split <;> rfl
section
variable {P:Program} {w:World} {K:PySem.W.Frag} {mg:Str->Option Value} {base:Heap}
end
def oV(f:Nat->List (Option Nat))(k:Nat)(x:List (Option Nat)):Nat->List (Option Nat):=fun j=>if j=k then x else f j
theorem gW{f:Nat->List (Option Nat)}{k:Nat}{x:List (Option Nat)}:oV f k x k=x:=by unfold oV;rw[ao rfl]
theorem gX{f:Nat->List (Option Nat)}{k j:Nat}{x:List (Option Nat)}(h:j≠k):oV f k x j=f j:=by unfold oV;rw[ap h]
structure iN(n:Nat)(g:Nat->List Nat)(hs:List Int)(L:Nat)(ss ls:Nat->List (Option Nat))(ns:List Int):Prop where
 tie:∀b,b<L->dk g (ss b) (ls b)
 next:∀b,b<L->∀i,(ss b).getD i none≠none->(ss (b+1)).getD i none=KB hs i ((ls b).getD i none)
 fresh:∀z:Nat,(z:Int)∈ns->∀b,b<=L->(ss b).getD z none=none
 out:∀b,b<L->∀i,(ss b).getD i none≠none->(ss (b+1)).getD i none=none->∀c,b<c->c<=L->(ss c).getD i none=none
 lt:∀b,b<=L->∀i h,(ss b).getD i none=some h->h<n
theorem vD{hs:List Int}{gs:List (Option Nat)}{i:Nat}:(bh hs gs).getD i none=KB hs i (gs.getD i none):=by
 unfold bh Fb;by_cases h:i<gs.length
 .rw[bQ,bq,oE h];rfl
 .rw[bQ,bq,hV (by rw[fq];lia),bQ,hV (by lia)];rfl
theorem iN.start{n:Nat}{g:Nat->List Nat}{hs ns:List Int}{s:List (Option Nat)}{ls:Nat->List (Option Nat)}(h1:∀z:Nat,(z:Int)∈ns->s.getD z none=none)(h2:∀i h,s.getD i none=some h->h<n):iN n g hs 0 (fun _=>s) ls ns:=
 ⟨fun b hb=>absurd hb (by lia),fun b hb=>absurd hb (by lia),fun z hz b _=>h1 z hz,fun b hb=>absurd hb (by lia),fun b _=>h2⟩
theorem iN.push{n:Nat}{g:Nat->List Nat}{hs ns V9:List Int}{L:Nat}{ss ls:Nat->List (Option Nat)}{gs s':List (Option Nat)}(R:iN n g hs L ss ls ns)(Hd:dk g (ss L) gs)(k:∀i:Nat,(i:Int)∉ns->s'.getD i none=(bh hs gs).getD i none)(m:∀z∈V9,z∈ns)(f:∀z:Nat,(z:Int)∈V9->s'.getD z none=none)(l:∀i h,s'.getD i none=some h->h<n):iN n g hs (L+1) (oV ss (L+1) s') (oV ls L gs) V9:=by
 have eS:∀b,b<=L->oV ss (L+1) s' b=ss b:=fun b hb=>gX (by lia);have KE:∀b,b<=L->∀i,(ss b).getD i none≠none->(i:Int)∉ns:=fun b hb i h z=>h (R.fresh i z b hb);refine⟨fun b hb=>?_,fun b hb i h=>?_,fun z hz b hb=>?_,fun b hb i h1 h2 c hc1 QK=>?_,fun b hb i h e=>?_⟩
 .rw[eS b (by lia)];by_cases e:b=L
  .subst e;rw[gW];exact Hd
  .rw[gX e];exact R.tie b (by lia)
 .rw[eS b (by lia)] at h;by_cases e:b=L
  .subst e;rw[gW,gW,k i (KE b (ba _) i h),vD]
  .rw[gX e,eS (b+1) (by lia)];exact R.next b (by lia) i h
 .by_cases e:b=L+1
  .rw[e,gW];exact f z hz
  .rw[gX e];exact R.fresh z (m _ hz) b (by lia)
 .rw[eS b (by lia)] at h1;by_cases e:c=L+1
  .subst e;by_cases e2:b=L
   .subst e2;exact h2
   .rw[eS (b+1) (by lia)] at h2;have z:=R.out b (by lia) i h1 h2 L (by lia) (ba _);rw[gW,k i (KE b (by lia) i h1),vD,Hd.bJ i z];rfl
  .rw[gX e];rw[eS (b+1) (by lia)] at h2;exact R.out b (by lia) i h1 h2 c hc1 (by lia)
 .by_cases e':b=L+1
  .rw[e',gW] at e;exact l i h e
  .rw[gX e'] at e;exact R.lt b (by lia) i h e
section
variable {P:Program} {w:World} {K:PySem.W.Frag} {mg:Str->Option Value} {base:Heap}
end
def Fj(s l:List (Option Nat)):Prop:=l.length=s.length/\(∀i,s.getD i none=none->l.getD i none=none)/\∀i h,s.getD i none=some h->∃o,l.getD i none=some o/\o≠h
def cS(H:Hp)(SA LA:Addr)(bA bp:List Addr)(m L:Nat)(ss ls:Nat->List (Option Nat)):Prop:=
 H SA=some (.lst (bA.map V.ref))/\H LA=some (.lst (bp.map V.ref))/\Holds H bA (L+1) (fun b=>.tup (SV (ss b)))/\Holds H bp L (fun b=>.tup (SV (ls b)))/\(∀b,b<=L->(ss b).length=m)/\∀b,b<L->Fj (ss b) (ls b)
def rm(H H':Hp):Prop:=∀b xs,H b=some (.tup xs)->H' b=some (.tup xs)
theorem rm.trans{H H1 H2:Hp}(a:rm H H1)(b:rm H1 H2):rm H H2:=fun c o h=>b c o (a c o h)
theorem rm.of{H H':Hp}(s:aM H H'):rm H H':=fun b xs e=>s _ _ e
theorem rm.Zd{H H':Hp}{p:Addr}(s:aR p H H')(hp:aW H p):rm H H':=fun b xs e=>s _ _ e (by rintro rfl;obtain⟨u,v,z,_⟩:=hp;rw[z] at e;cases e)
theorem rm.upd{H:Hp}{c:Addr}{o:HO}{ys:List V}(h:H c=some (.lst ys)):rm H (upd H c o):=fun b xs e=>by rw[ai (by rintro rfl;rw[h] at e;cases e)];exact e
abbrev xu:=oV
theorem jj{f:Nat->List (Option Nat)}{k:Nat}{x:List (Option Nat)}:xu f k x k=x:=gW
theorem io{f:Nat->List (Option Nat)}{k j:Nat}{x:List (Option Nat)}(h:j≠k):xu f k x j=f j:=gX h
theorem tR{H H':Hp}{as:List Addr}{L:Nat}{f:Nat->List (Option Nat)}{r:Addr}{x:List (Option Nat)}(h:Holds H as L (fun b=>.tup (SV (f b))))(kt:rm H H')(hr:H' r=some (.tup (SV x))):Holds H' (as++[r]) (L+1) (fun b=>.tup (SV (xu f L x b))):=by
 refine Holds.snoc ⟨h.1,fun j hj=>?_⟩ (by rw[jj];exact hr);show _=some (HO.tup (SV (xu f L x j)));rw[io (by lia)];exact kt _ _ (h.2 j hj)
theorem cS.push{H H':Hp}{SA LA r r2:Addr}{bA bp:List Addr}{m L:Nat}{ss ls:Nat->List (Option Nat)}{gs s':List (Option Nat)}(h:cS H SA LA bA bp m L ss ls)(kt:rm H H')(hS:H' SA=some (.lst ((bA++[r2]).map V.ref)))(hL:H' LA=some (.lst ((bp++[r]).map V.ref)))(hr:H' r=some (.tup (SV gs)))(Os:H' r2=some (.tup (SV s')))(hm:s'.length=m)(mv:Fj (ss L) gs):cS H' SA LA (bA++[r2]) (bp++[r]) m (L+1) (xu ss (L+1) s') (xu ls L gs):=by
 obtain⟨h1,h2,h3,h4,h5,h6⟩:=h;refine⟨hS,hL,tR h3 kt Os,tR h4 kt hr,fun b hb=>?_,fun b hb=>?_⟩
 .by_cases e:b=L+1
  .rw[e,jj];exact hm
  .rw[io e];exact h5 b (by lia)
 .rw[io (show b≠L+1 by lia)];by_cases e:b=L
  .rw[e,jj];exact mv
  .rw[io e];exact h6 b (by lia)
theorem mW{bA:List Addr}{k:Nat}(h:bA.length=k+1):fR (bA.map V.ref) (-1)=some (.ref (bA.getD k 0)):=by
 rcases pZ bA with e|⟨l,x,e⟩
 .subst e;cases h
 .subst e;rw[p9] at h |-;have hl:l.length=k:=by rw[cr] at h;simpa using h
  rw[cP,iM hl,ao rfl];exact wB _ _
theorem dk.moves{n:Nat}{g:Nat->List Nat}{s gs:List (Option Nat)}(Hd:dk g s gs)(G:fh n g)(R:eD n g s):Fj s gs:=by
 refine⟨Hd.len,Hd.bJ,fun i h e=>?_⟩;obtain⟨o,o1,o2⟩:=Hd.tie i h e;exact⟨o,o1,(G.lt h (R.1 h (aT e).2) o o2).2⟩
theorem vE{js:List Nat}:HV (js.map fun (i:Nat)=>(i:Int))=NV js:=by unfold HV NV;rw[ic];rfl
section
variable {P:Program} {w:World} {K:PySem.W.Frag} {mg:Str->Option Value} {base:Heap}
end
abbrev n8:Stmt:=gG 8
abbrev kO:Stmt:=gG 9
abbrev vF:Stmt:=gG 16
abbrev Fk:Stmt:=gG 23
theorem im{K:PySem.W.Frag}:PySem.W.kitOne K (.type "int") (.type "int")=some true:=by kernel_rfl
theorem gy{K:PySem.W.Frag}:PySem.W.kitOne K (.type "int") (.type "bool")=some false:=by kernel_rfl
theorem lE{K:PySem.W.Frag}:PySem.W.kitOne K (.type "list") (.type "list")=some true:=by kernel_rfl
def IG(lo hi i:Int):Bool:=decide (lo<=i)&&decide (i<=hi)
theorem kX{lo hi i:Int}:IG lo hi i=true↔lo<=i/\i<=hi:=by unfold IG;rw[dX,fc,fc]
def jh:Sp:=fun vs H Q _=>∃i:Int,vs=[.int i]/\Q (.bl true) H
def gc:Sp:=fun vs H Q _=>∃i lo hi:Int,vs=[.int i,.int lo,.int hi]/\Q (.bl (IG lo hi i)) H
def dY(m L:Nat)(ss:Nat->List (Option Nat))(i b:Int):Bool:=IG 0 ((L:Int)-1) b&&(IG 0 ((m:Int)-1) i&&((ss b.toNat).getD i.toNat none).isSome)
def kC:Sp:=fun vs H Q _=>∃ (SA LA:Addr) (bA bp:List Addr) (m L:Nat) (ss ls:Nat->List (Option Nat)) (i b:Int),vs=[.ref SA,.ref LA,.int i,.int b]/\cS H SA LA bA bp m L ss ls/\Q (.bl (dY m L ss i b)) H
def fH(m L:Nat)(ss:Nat->List (Option Nat))(i b:Int)(h:Nat):Bool:=dY m L ss i b&&decide ((ss b.toNat).getD i.toNat none=some h)
def zS:Sp:=fun vs H Q _=>∃ (SA LA:Addr) (bA bp:List Addr) (m L:Nat) (ss ls:Nat->List (Option Nat)) (i b:Int) (h:Nat),vs=[.ref SA,.ref LA,.int i,.int b,.int h]/\cS H SA LA bA bp m L ss ls/\Q (.bl (fH m L ss i b h)) H
theorem eQ{as:List Addr}{k:Nat}(h:k<as.length):fR (as.map V.ref) (k:Int)=some (.ref (as.getD k 0)):=by
 refine bO ?_;rw[bq,bY h,bQ,bY h];rfl
theorem gY{m L:Nat}{ss:Nat->List (Option Nat)}{i b:Int}(h:dY m L ss i b=true):∃ (j c:Nat) (x:Nat),i=j/\b=c/\j<m/\c<L/\(ss c).getD j none=some x:=by
 unfold dY at h;rw[dX,dX,kX,kX] at h;obtain⟨h1,h2,h3⟩:=h;obtain⟨x,hx⟩:=pU.mp h3;exact⟨i.toNat,b.toNat,x,by lia,by lia,by lia,by lia,hx⟩
theorem iI{m L:Nat}{ss:Nat->List (Option Nat)}{j c x:Nat}(hj:j<m)(hc:c<L)(h:(ss c).getD j none=some x):dY m L ss j c=true:=by
 unfold dY;rw[dX,dX,kX,kX];refine⟨⟨by lia,by lia⟩,⟨by lia,by lia⟩,?_⟩;rw[cN,cN,h];rfl
section
variable {P:Program} {w:World} {K:PySem.W.Frag} {mg:Str->Option Value} {base:Heap}
theorem vp:aI ["thing"] ["thing"] (am n8):=⟨rfl,rfl,rfl,by decide +kernel,rfl,by decide +kernel,by decide +kernel⟩
theorem q_{f:Addr}{fd:FuncData}(F:fX K "is_whole" "is_whole" n8 f fd)(B:Bl mg):bz P w K mg base be 1 f fd ["thing"] jh:=by
 refine F.ok vp (fun vs H Q E h=>?_) (fun dQ A outer s H vs Q E hr h=>?_)
 .obtain⟨i,rfl,_⟩:=h;rfl
 .obtain⟨i,rfl,k⟩:=h;refine⟨_,al (aH (fL (au eV (by rfl) B.EB lf (aa (pv 0) (aa (fQ (v:=.ty "int") rfl B.int pY rfl) ag)))
   (gm (yO (au eV (by rfl) B.EB lf (aa (pv 0) (aa (fQ (v:=.ty "bool") rfl B.bool x_ rfl) ag))))))),?_⟩
  refine⟨_,rfl,_,_,_,.type "int",true,rfl,⟨rfl,im⟩,.of (.int _),true,rfl,?_⟩;exact⟨_,rfl,_,_,_,.type "int",false,rfl,⟨rfl,gy⟩,.of (.int _),false,rfl,k⟩
theorem rc:aI ["thing","least","most"] ["thing","least","most"] (am kO):=⟨rfl,rfl,rfl,by decide +kernel,rfl,by decide +kernel,by decide +kernel⟩
theorem n9{f:Addr}{fd:FuncData}(F:fX K "is_whole_within" "is_whole_within" kO f fd)(W:cp P w K mg base be 1 "is_whole" ["thing"] jh):bz P w K mg base be 2 f fd ["thing","least","most"] gc:=by
 refine F.ok rc (fun vs H Q E h=>?_) (fun dQ A outer s H vs Q E hr h=>?_)
 .obtain⟨i,lo,hi,rfl,_⟩:=h;rfl
 .obtain⟨i,lo,hi,rfl,k⟩:=h;refine⟨_,al (aH (fL (aE W hr aQ (aa (pv 0) ag)) (gm (wt Ai Ai (pv 1) (pv 0) (pv 2))))),?_⟩;refine⟨_,rfl,i,rfl,true,rfl,_,rfl,_,rfl,_,_,rfl,rfl,_,rfl,?_⟩;show if decide (lo<=i)=true then _ else _
  have k':Q (.bl (decide (lo<=i)&&decide (i<=hi))) H:=k;by_cases h:lo<=i
  .rw[bB h] at k' |-;exact⟨_,rfl,_,_,rfl,rfl,k'⟩
  .rw[cH h] at k' |-;exact k'
theorem Fl:aI ["stands","log","letter","beat"] ["stands","log","letter","beat"] (am vF):=⟨rfl,rfl,rfl,by decide +kernel,rfl,by decide +kernel,by decide +kernel⟩
theorem CL{f:Addr}{fd:FuncData}(F:fX K "is_handed_on" "is_handed_on" vF f fd)(B:Bl mg)(W:cp P w K mg base be 2 "is_whole_within" ["thing","least","most"] gc):bz P w K mg base be 3 f fd ["stands","log","letter","beat"] kC:=by
 refine F.ok Fl (fun vs H Q E h=>?_) (fun dQ A outer s H vs Q E hr h=>?_)
 .obtain⟨SA,LA,bA,bp,m,L,ss,ls,i,b,rfl,_⟩:=h;rfl
 .obtain⟨SA,LA,bA,bp,m,L,ss,ls,i,b,rfl,LG,k⟩:=h;obtain⟨g1,g2,g3,g4,g5,g6⟩:=LG;refine'⟨_,ah (bx (et (dE (aE W hr aQ (aa (pv 3) (aa aq (aa (bC qz (au aD (by rfl) B.len ce (aa (pv 1) ag)) aq) ag)))))) (al (aH fW)) aS)
   (al (aH (fL (aE W hr aQ (aa (pv 2) (aa aq (aa (bC qz (au aD (by rfl) B.len ce (aa (aA aB (pv 0) (pv 3) (fun _ _=>rfl)) ag)) aq) ag))))
    (gm (La (GJ (aA a9 (aA aB (pv 0) (pv 3) (fun _ _=>rfl)) (pv 2) (fun _ _=>rfl)))))))),?_⟩
  refine⟨_,rfl,_,rfl,LA,_,rfl,.inl (aV.of g2),_,_,rfl,rfl,b,0,_,rfl,_,rfl,?_⟩;have OH:((((bp.map V.ref).length:Nat):Int)-1)=(L:Int)-1:=by rw[aG,g4.1]
  unfold dY at k;refine bR (fun e=>?_) (fun e=>?_)
  .have e':IG 0 ((L:Int)-1) b=false:=by
    rw[<-OH];simpa using e
   rw[e',nw] at k;exact k
  .have e':IG 0 ((L:Int)-1) b=true:=by
    rw[<-OH];simpa using e
   rw[e',jQ] at k;obtain⟨b0,b1⟩:=kX.mp e';obtain⟨c,rfl⟩:∃c:Nat,b=c:=⟨b.toNat,by lia⟩
   have hc:c<L:=by lia
   have sl:(ss c).length=m:=g5 c (by lia);have hS:=g3.2 c (by lia);have Ze:((((SV (ss c)).length:Nat):Int)-1)=(m:Int)-1:=by rw[aG,sl]
   rw[cN] at k;refine⟨_,rfl,_,rfl,_,rfl,SA,_,_,_,rfl,rfl,aV.of g1,eQ (by rw[g3.1];lia),bA.getD c 0,_,rfl,.inr (cR.of hS),_,_,rfl,rfl,i,0,_,rfl,_,rfl,?_⟩;refine bR (fun e2=>?_) (fun e2=>?_)
   .have e3:IG 0 ((m:Int)-1) i=true:=by rw[<-Ze];exact e2
    rw[e3,jQ] at k;obtain⟨i0,i1⟩:=kX.mp e3;obtain⟨j,rfl⟩:∃j:Nat,i=j:=⟨i.toNat,by lia⟩
    rw[cN] at k;refine⟨_,rfl,_,rfl,SA,_,_,_,rfl,rfl,aV.of g1,eQ (by rw[g3.1];lia),_,rfl,bA.getD c 0,_,_,_,rfl,rfl,cR.of hS,dM (by lia),?_⟩;have ee:(!decide (jF ((ss c).getD j none)=V.bJ))=((ss c).getD j none).isSome:=by
     cases (ss c).getD j none with
     |none=>rw[bB (show jF none=V.bJ from rfl)];rfl
     |some x=>rw[cH (show ¬ jF (some x)=V.bJ from fun z=>by cases z)];rfl
    show Q (V.bl (!decide (jF ((ss c).getD j none)=V.bJ))) H;rw[ee];exact k
   .have e3:IG 0 ((m:Int)-1) i=false:=by rw[<-Ze];simpa using e2
    rw[e3,nw] at k;exact k
theorem MR:aI ["stands","log","letter","beat","house"] ["stands","log","letter","beat","house"] (am Fk):=⟨rfl,rfl,rfl,by decide +kernel,rfl,by decide +kernel,by decide +kernel⟩
theorem IH{f:Addr}{fd:FuncData}(F:fX K "is_sent_from" "is_sent_from" Fk f fd)(HO:cp P w K mg base be 3 "is_handed_on" ["stands","log","letter","beat"] kC):bz P w K mg base be 4 f fd ["stands","log","letter","beat","house"] zS:=by
 refine F.ok MR (fun vs H Q E h=>?_) (fun dQ A outer s H vs Q E hr h=>?_)
 .obtain⟨SA,LA,bA,bp,m,L,ss,ls,i,b,hh,rfl,_⟩:=h;rfl
 .obtain⟨SA,LA,bA,bp,m,L,ss,ls,i,b,hh,rfl,LG,k⟩:=h;obtain⟨g1,g2,g3,g4,g5,g6⟩:=LG;refine'⟨_,ah (bx (et (dE (aE HO hr aQ (aa (pv 0) (aa (pv 1) (aa (pv 2) (aa (pv 3) ag))))))) (al (aH fW)) aS)
   (al (aH (fL (dG eM (aA a9 (aA aB (pv 0) (pv 3) (fun _ _=>rfl)) (pv 2) (fun _ _=>rfl)) (pv 4) (aO _))
    (gm (dG sG (aA a9 (aA aB (pv 1) (pv 3) (fun _ _=>rfl)) (pv 2) (fun _ _=>rfl)) (pv 4) (aO _)))))),?_⟩
  refine⟨_,rfl,_,rfl,_,rfl,_,rfl,SA,LA,bA,bp,m,L,ss,ls,i,b,rfl,⟨g1,g2,g3,g4,g5,g6⟩,_,rfl,?_⟩;unfold fH at k;refine bR (fun e=>?_) (fun e=>?_)
  .have e':dY m L ss i b=false:=by simpa using e
   rw[e',nw] at k;exact k
  .have e':dY m L ss i b=true:=by simpa using e
   rw[e',jQ] at k;obtain⟨j,c,x,rfl,rfl,hj,hc,hx⟩:=gY e';rw[cN,cN,hx] at k;have sl:(ss c).length=m:=g5 c (by lia);have kU:fR (SV (ss c)) (j:Int)=some (.int (x:Int)):=by rw[dM (by lia),hx];rfl
   obtain⟨mv1,mv2,V_⟩:=g6 c hc;obtain⟨o,ho,jD⟩:=V_ j x hx;have rP:fR (SV (ls c)) (j:Int)=some (.int (o:Int)):=by rw[dM (by lia),ho];rfl
   refine⟨_,rfl,_,rfl,SA,_,_,_,rfl,rfl,aV.of g1,eQ (by rw[g3.1];lia),_,rfl,bA.getD c 0,_,_,_,rfl,rfl,cR.of (g3.2 c (by lia)),kU,_,rfl,rfl,_,rfl,?_⟩;refine bR (fun e2=>?_) (fun e2=>?_)
   .have e3:x=hh:=by have:=V.int.inj (b9 e2);lia
    refine⟨_,rfl,_,rfl,LA,_,_,_,rfl,rfl,aV.of g2,eQ (by rw[g4.1];lia),_,rfl,bp.getD c 0,_,_,_,rfl,rfl,cR.of (g4.2 c hc),rP,_,rfl,rfl,?_⟩;rw[bB (show some x=some hh by rw[e3])] at k;rw[cH (show ¬ V.int (o:Int)=V.int (hh:Int) from fun z=>jD (by have:=V.int.inj z;lia))];exact k
   .have e3:¬ some x=some hh:=fun z=>e2 (bB (by cases z;rfl));rw[cH e3] at k;exact k
end
abbrev vG:Stmt:=gG 22
def c_(m L:Nat)(ss ls:Nat->List (Option Nat))(b h0:Nat)(zs:List Int):Nat->Option Nat
 |0=>some h0
 |k+1=>match c_ m L ss ls b h0 zs k with
  |none=>none
  |some h=>if fH m L ss (zs.getD k 0) ((b+k:Nat):Int) h=true then some (((ls (b+k)).getD (zs.getD k 0).toNat none).getD 0) else none
theorem tS{m L:Nat}{ss ls:Nat->List (Option Nat)}{b h0:Nat}{zs:List Int}{k h:Nat}(e:c_ m L ss ls b h0 zs k=some h)(s:fH m L ss (zs.getD k 0) ((b+k:Nat):Int) h=true):c_ m L ss ls b h0 zs (k+1)=some (((ls (b+k)).getD (zs.getD k 0).toNat none).getD 0):=by
 unfold c_;rw[e];exact ao s
theorem oj{m L:Nat}{ss ls:Nat->List (Option Nat)}{b h0:Nat}{zs:List Int}{k h:Nat}(e:c_ m L ss ls b h0 zs k=some h)(s:¬ fH m L ss (zs.getD k 0) ((b+k:Nat):Int) h=true):∀j,c_ m L ss ls b h0 zs (k+1+j)=none
 |0=>by
  show c_ m L ss ls b h0 zs (k+1)=none;unfold c_;rw[e];exact ap s
 |j+1=>by
  have ih:=oj e s j;show c_ m L ss ls b h0 zs (k+1+j+1)=none;unfold c_;rw[ih]
theorem CM{m L:Nat}{ss ls:Nat->List (Option Nat)}{b h0:Nat}{zs:List Int}{k h:Nat}(e:c_ m L ss ls b h0 zs (k+1)=some h):∃h',fH m L ss (zs.getD k 0) ((b+k:Nat):Int) h'=true:=by
 unfold c_ at e;split at e
 .cases e
 .rename_i h' _;by_cases s:fH m L ss (zs.getD k 0) ((b+k:Nat):Int) h'=true
  .exact⟨h',s⟩
  .rw[ap s] at e;cases e
def Fm(hs:List Int)(zs:List Int):Option Nat->Bool
 |none=>false
 |some h=>decide ((h:Int)=hs.getD (zs.getD (zs.length-1) 0).toNat 0)
def kD(hs:List Int)(m L:Nat)(ss ls:Nat->List (Option Nat))(i b:Int)(zs:List Int):Bool:=
 dY m L ss i b&&(!zs.isEmpty&&(!decide (zs.getD 0 0=i)&&Fm hs zs (c_ m L ss ls b.toNat (((ss b.toNat).getD i.toNat none).getD 0) zs zs.length)))
theorem cS.same{H H':Hp}{SA LA:Addr}{bA bp:List Addr}{m L:Nat}{ss ls:Nat->List (Option Nat)}(h:cS H SA LA bA bp m L ss ls)(s:aM H H'):cS H' SA LA bA bp m L ss ls:=by
 obtain⟨g1,g2,g3,g4,g5,g6⟩:=h;exact⟨s _ _ g1,s _ _ g2,g3.mono fun j _ e=>s _ _ e,g4.mono fun j _ e=>s _ _ e,g5,g6⟩
theorem rp{m L:Nat}{ss:Nat->List (Option Nat)}{i b:Int}{h:Nat}(s:fH m L ss i b h=true):∃ (j c:Nat),i=j/\b=c/\j<m/\c<L/\(ss c).getD j none=some h:=by
 unfold fH at s;rw[dX,fc] at s;obtain⟨j,c,x,rfl,rfl,h1,h2,h3⟩:=gY s.1;have:=s.2;rw[cN,cN] at this;exact⟨j,c,rfl,rfl,h1,h2,this⟩
theorem A6{m L:Nat}{ss:Nat->List (Option Nat)}{j c h:Nat}(hj:j<m)(hc:c<L)(e:(ss c).getD j none=some h):fH m L ss j c h=true:=by
 unfold fH;rw[iI hj hc e,jQ,cN,cN];exact bB e
theorem pL{zs:List Int}(h:zs≠[]):fR (HV zs) (-1)=some (.int (zs.getD (zs.length-1) 0)):=by
 rcases pZ zs with e|⟨l,x,e⟩
 .exact absurd e h
 .subst e;rw[p9];have:(l++[x]).getD ((l++[x]).length-1) 0=x:=by
   rw[bQ,cr];simp
  rw[this];unfold HV;rw[cP];exact wB _ _
section
variable {P:Program} {w:World} {K:PySem.W.Frag} {mg:Str->Option Value} {base:Heap}
theorem mX:aI ["homes","stands","log","letter","beat","thing","house","later","one"] ["homes","stands","log","letter","beat","thing"] (am vG):=⟨rfl,rfl,rfl,by decide +kernel,rfl,by decide +kernel,by decide +kernel⟩
def pM:Sp:=fun vs H Q _=>∃ (a SA LA Z:Addr) (bA bp:List Addr) (m L:Nat) (ss ls:Nat->List (Option Nat)) (hs zs:List Int) (i b:Int),vs=[.ref a,.ref SA,.ref LA,.int i,.int b,.ref Z]/\H a=some (.tup (HV hs))/\hs.length=m/\cS H SA LA bA bp m L ss ls/\H Z=some (.lst (HV zs))/\
 ∀H',aM H H'->Q (.bl (kD hs m L ss ls i b zs)) H'
theorem Fn{f:Addr}{fd:FuncData}(F:fX K "is_chain" "is_chain" vG f fd)(B:Bl mg)(HO:cp P w K mg base be 3 "is_handed_on" ["stands","log","letter","beat"] kC)(ST:cp P w K mg base be 4 "is_sent_from" ["stands","log","letter","beat","house"] zS):
  bz P w K mg base be 5 f fd ["homes","stands","log","letter","beat","thing"] pM:=by
 refine F.ok mX (fun vs H Q E h=>?_) (fun dQ A outer s H vs Q E hr h=>?_)
 .obtain⟨a,SA,LA,Z,bA,bp,m,L,ss,ls,hs,zs,i,b,rfl,_⟩:=h;rfl
 .obtain⟨a,SA,LA,Z,bA,bp,m,L,ss,ls,hs,zs,i,b,rfl,ha,hl,LG,hZ,q⟩:=h;have Zf:b_ 3 (A.deeper (PyProof.Rows.envOfC "is_chain" (am vG) s.heap.objs.size f dQ)):=hr.mono (by decide)
  refine'⟨_,ah (bx (PW.pt (oH (et (dE (aE HO Zf aQ (aa (pv 1) (aa (pv 2) (aa (pv 3) (aa (pv 4) ag)))))))
     (oH (et (dE (au eV (by rfl) B.EB lf (aa (pv 5) (aa (fQ (v:=.ty "list") rfl B.lst ub rfl) ag)))))
     (l0 (aK eM (au aD (by rfl) B.len ce (aa (pv 5) ag)) aq (aO _)))))) (al (aH fW)) aS)
   (ah (aL (i:=6) mX.nd rfl (Or.inl rfl) (aA a9 (aA aB (pv 1) (pv 4) (fun _ _=>rfl)) (pv 3) (fun _ _=>rfl)))
   (ah (dR eR rfl (Hw rfl B.enum (aa (pv 5) ag)) (gL (n:=2) rfl (bu (aF (i:=7) mX.nd rfl (Or.inl rfl)) (bu (aF (i:=8) mX.nd rfl (Or.inl rfl)) ft)))
    (ah (bx (et (dE (aE ST hr aQ (aa (pv 1) (aa (pv 2) (aa (pv 8) (aa (bC dF (pv 4) (pv 7)) (aa (pv 6) ag)))))))) (al (aH fW)) aS)
    (al (aL (i:=6) mX.nd rfl (Or.inl rfl) (aA a9 (aA aB (pv 2) (bC dF (pv 4) (pv 7)) (fun _ _=>rfl)) (pv 8) (fun _ _=>rfl))))))
   (al (aH (fL (dG sG (aA aB (pv 5) aq (fun _ _=>rfl)) (pv 3) (aO _))
    (gm (dG eM (pv 6) (aA a9 (pv 0) (aA aB (pv 5) (lv iw aq) (fun _ _=>rfl)) (fun _ _=>rfl)) (aO _)))))))),?_⟩
  refine⟨_,rfl,_,rfl,_,rfl,_,rfl,SA,LA,bA,bp,m,L,ss,ls,i,b,rfl,LG,_,rfl,?_⟩;unfold kD at q;refine bR (fun e=>?_) (fun e=>?_)
  .have e':dY m L ss i b=false:=by simpa using e
   rw[e',nw] at q;exact mV (q H (aM.refl _))
  have e':dY m L ss i b=true:=by simpa using e
  rw[e',jQ] at q;obtain⟨j,c,x,rfl,rfl,hj,hc,hx⟩:=gY e';rw[cN,cN,hx] at q;refine⟨_,rfl,_,_,_,.type "list",true,rfl,⟨rfl,lE⟩,.of (.lst hZ),true,rfl,?_⟩;refine bR (fun e=>absurd e (by decide)) (fun _=>?_);refine⟨_,rfl,Z,_,rfl,.inl (aV.of hZ),rfl,_,rfl,?_⟩;refine bR (fun e=>?_) (fun e=>?_)
  .have e2:zs=[]:=by
    have:=V.int.inj (b9 e);rw[aG] at this;exact C8 (by lia)
   rw[e2] at q;exact q H (aM.refl _)
  have A7:zs≠[]:=by
   rintro rfl;exact e (bB rfl)
  have zem:zs.isEmpty=false:=by cases zs with|nil=>exact absurd rfl A7|cons _ _=>rfl
  rw[zem,yI,jQ] at q;obtain⟨g1,g2,g3,g4,g5,g6⟩:=LG;have LG:cS H SA LA bA bp m L ss ls:=⟨g1,g2,g3,g4,g5,g6⟩
  have sl:(ss c).length=m:=g5 c (by lia);have kU:fR (SV (ss c)) (j:Int)=some (.int (x:Int)):=by rw[dM (by lia),hx];rfl
  refine⟨_,rfl,_,rfl,SA,_,_,_,rfl,rfl,aV.of g1,eQ (by rw[g3.1];lia),_,rfl,bA.getD c 0,_,_,_,rfl,rfl,cR.of (g3.2 c (by lia)),kU,?_⟩;have qf:∀k h,c_ m L ss ls c x zs k=some h->¬ fH m L ss (zs.getD k 0) ((c+k:Nat):Int) h=true->k<zs.length->∀H',aM H H'->Q (.bl false) H':=by
   intro k h e1 e2 hk H' sm;have e3:=oj e1 e2 (zs.length-(k+1));rw[show k+1+(zs.length-(k+1))=zs.length by lia] at e3;have q':=q H' sm;have ex:(some x).getD 0=x:=rfl;rw[ex,e3] at q';unfold Fm at q';rw[uA] at q';exact q'
  refine⟨_,rfl,Z,_,rfl,hZ,?_⟩;refine El (K:=K) (a:=Z) (xs:=HV zs) (fun k σ H3=>(∃v7 v8 h,σ=[some (.ref a),some (.ref SA),some (.ref LA),some (.int j),some (.int c),some (.ref Z),some (.int (h:Nat)),v7,v8]/\c_ m L ss ls c x zs k=some h)/\aM H H3) ⟨⟨_,_,x,rfl,rfl⟩,aM.refl _⟩ (fun k σ H3 _ z=>aV.of (z.2 _ _ hZ)) ?_ ?_
  .rintro k v t σ H3 hv ⟨⟨v7,v8,h,rfl,hw⟩,sm⟩ ht;rw[bq] at hv;obtain⟨z,hz,rfl⟩:=oA.mp hv;have hk:k<zs.length:=(cM.mp hz).1;have zk:zs.getD k 0=z:=by rw[bQ,hz];rfl
   have rf:aM H (upd H3 t (.tup [.int (k:Int),.int z])):=sm.trans (aj ht);have LG4:=LG.same rf;refine⟨_,_,rfl,cR.of af,rfl,_,_,rfl,_,_,rfl,rfl,?_⟩;refine⟨_,rfl,_,rfl,_,rfl,_,rfl,_,rfl,_,_,rfl,rfl,_,rfl,SA,LA,bA,bp,m,L,ss,ls,z,(c:Int)+(k:Int),h,rfl,LG4,_,rfl,?_⟩;have ck:(c:Int)+(k:Int)=((c+k:Nat):Int):=by lia
   refine bR (fun e2=>?_) (fun e2=>?_)
   .refine qf k h hw ?_ hk _ rf;rw[zk,<-ck];simpa using e2
   .have e3:fH m L ss z ((c:Int)+(k:Int)) h=true:=by simpa using e2
    have e4:=e3;rw[ck] at e4;obtain⟨j2,c2,ez,ec,hj2,QK,Ka⟩:=rp e4;have ec':c2=c+k:=by lia
    subst ec';subst ez;obtain⟨mv1,mv2,V_⟩:=g6 (c+k) QK;obtain⟨o,ho,jD⟩:=V_ j2 h Ka;have sl2:(ss (c+k)).length=m:=g5 (c+k) (by lia);have rP:fR (SV (ls (c+k))) (j2:Int)=some (.int (o:Int)):=by rw[dM (by lia),ho];rfl
    have rat:fR (bp.map V.ref) ((c:Int)+(k:Int))=some (.ref (bp.getD (c+k) 0)):=by rw[ck];exact eQ (by rw[g4.1];exact QK)
    refine⟨_,rfl,_,rfl,_,rfl,_,_,rfl,rfl,LA,_,_,_,rfl,rfl,aV.of (rf _ _ g2),rat,_,rfl,bp.getD (c+k) 0,_,_,_,rfl,rfl,cR.of (rf _ _ (g4.2 (c+k) QK)),rP,⟨_,_,o,rfl,?_⟩,rf⟩;rw[tS hw (by rw[zk];exact e4),zk,cN,ho];rfl
  .rintro σ H3 ⟨⟨v7,v8,h,rfl,hw⟩,sm⟩;rw[show (HV zs).length=zs.length from aG _] at hw;have q':=q H3 sm;have ex:(some x).getD 0=x:=rfl;rw[ex,hw] at q';have zl:0<zs.length:=uo.mpr A7;have OI:fR (HV zs) 0=some (.int (zs.getD 0 0)):=jy (i:=0) zl;refine⟨_,rfl,Z,_,_,_,rfl,rfl,aV.of (sm _ _ hZ),OI,_,rfl,rfl,_,rfl,?_⟩;refine bR (fun e2=>?_) (fun e2=>?_)
   .have e3:decide (zs.getD 0 0=(j:Int))=false:=by
     refine cH fun z=>?_;rw[z] at e2;simp at e2
    rw[e3,yI,jQ] at q';obtain⟨k,hk⟩:∃k,zs.length=k+1:=⟨zs.length-1,by lia⟩
    have Zg:=hw;rw[hk] at Zg;obtain⟨h',s'⟩:=CM Zg;obtain⟨j2,c2,ez,ec,hj2,QK,Ka⟩:=rp s';have el:zs.getD (zs.length-1) 0=(j2:Int):=by rw[hk];exact ez
    unfold Fm at q';rw[el,cN] at q';refine⟨_,rfl,_,rfl,_,rfl,_,rfl,Z,_,_,_,rfl,rfl,aV.of (sm _ _ hZ),pL A7,a,_,_,_,rfl,rfl,cR.of (sm _ _ ha),by rw[el];exact jy (by lia),rfl,?_⟩;have ed:decide (V.int (h:Int)=V.int (hs.getD j2 0))=decide ((h:Int)=hs.getD j2 0):=by
     rw[iT,fc,fc];exact⟨V.int.inj,fun z=>by rw[z]⟩
    rw[ed];exact q'
   .have e3:decide (zs.getD 0 0=(j:Int))=true:=by
     refine bB ?_;have:decide (V.int (zs.getD 0 0)=V.int (j:Int))=true:=by simpa using e2
     exact V.int.inj (b9 this)
    rw[e3] at q';exact q'
end
theorem kY{o:Option Nat}{h:Int}:Li (jF o) (.int h)=true:=by cases o <;> rfl
theorem pq{x y:Int}:decide (V.int x=V.int y)=decide (x=y):=by
 rw[iT,fc,fc];exact⟨V.int.inj,fun z=>by rw[z]⟩
section
variable {P:Program} {w:World} {K:PySem.W.Frag} {mg:Str->Option Value} {base:Heap}
end
end xk
namespace L2
open PySem PySem.Spec PyProof.Rows
section
variable {X:Cx} {e se:Expr} {te:TE} {lo hi:Option Expr} {tl th ts:TO} {pos p2:Pos}
theorem tT:mD X (compareOp .IsNot) (fun x y H Q=>∃c d:Bool,x=.bl c/\y=.bl d/\Q (.bl (c != d)) H):=by
 intro ae s σ H x y v u Q I rx ry h;obtain⟨c,d,rfl,rfl,q⟩:=h;cases rx;cases ry;exact isnot_bool ⟨.bl _,H,I,rfl,q⟩
end
end L2
namespace xk
open PySem L2
section
variable {P:Program} {w:World} {K:PySem.W.Frag} {mg:Str->Option Value} {base:Heap}
theorem cS.dC{H H':Hp}{p SA LA:Addr}{bA bp:List Addr}{m L:Nat}{ss ls:Nat->List (Option Nat)}(h:cS H SA LA bA bp m L ss ls)(s:aR p H H')(hp:aW H p)(n1:SA≠p)(n2:LA≠p):cS H' SA LA bA bp m L ss ls:=by
 obtain⟨g1,g2,g3,g4,g5,g6⟩:=h;have kt:rm H H':=rm.Zd s hp;exact⟨s _ _ g1 n1,s _ _ g2 n2,g3.mono fun j _ e=>kt _ _ e,g4.mono fun j _ e=>kt _ _ e,g5,g6⟩
end
open PySem L2 sf
def rq(g:Nat->List Nat)(k:Nat):Ts:=(List.range k).flatMap fun h=>(g h).map fun o=>(ci h,ci o)
abbrev bf(n:Nat)(g:Nat->List Nat):Ts:=rq g n
theorem om{g:Nat->List Nat}{k:Nat}:rq g (k+1)=rq g k++(g k).map fun o=>(ci k,ci o):=by
 unfold rq;rw[mB,List.flatMap_append];simp
theorem oq{n:Nat}{g:Nat->List Nat}{t:Int×Int}:t∈bf n g↔∃h o,h<n/\o∈g h/\t=(ci h,ci o):=by
 unfold bf rq;rw[List.mem_flatMap];constructor
 .rintro⟨h,hh,z⟩;obtain⟨o,ho,rfl⟩:=cf.mp z;exact⟨h,o,bL.mp hh,ho,rfl⟩
 .rintro⟨h,o,hh,ho,rfl⟩;exact⟨h,bL.mpr hh,cf.mpr ⟨o,ho,rfl⟩⟩
theorem vH{n:Nat}{g:Nat->List Nat}{a b:Nat}:T (bf n g) a b↔a<n/\b∈g a:=by
 unfold T;rw[oq];constructor
 .rintro⟨h,o,hh,ho,e⟩;obtain rfl:a=h:=eT (congrArg Prod.fst e);obtain rfl:b=o:=eT (congrArg Prod.snd e);exact⟨hh,ho⟩
 .rintro⟨h1,h2⟩;exact⟨a,b,h1,h2,rfl⟩
theorem xw{g:Nat->List Nat}:∀k,(∀h,h<k->(g h).Nodup)->(rq g k).Nodup
 |0,_=>by simp[rq]
 |k+1,h=>by
  rw[om];refine iF.mpr ⟨xw k fun x hx=>h x (by lia),?_,?_⟩
  .exact List.Pairwise.map _ (fun a b Qm e=>Qm (eT (congrArg Prod.snd e))) (pT.mp (h k (by lia)))
  .intro x hx y hy e;subst e;obtain⟨h',o,hh,_,rfl⟩:=oq.mp hx;obtain⟨o',_,e⟩:=cf.mp hy;have:=eT (congrArg Prod.fst e);lia
theorem zT{g:Nat->List Nat}{x:Nat}:∀k,((rq g k).filter fun t=>decide (t.1=ci x)).length=if x<k then (g x).length else 0
 |0=>by simp[rq]
 |k+1=>by
  rw[om,jJ,cr,zT k];by_cases e:x=k
  .subst e;rw[ap (jw _),ao (jK _),List.filter_eq_self.mpr,aG,qk];intro t ht;obtain⟨o,_,rfl⟩:=cf.mp ht;simp
  .rw[yc.mpr,qh,iq]
   .by_cases h:x<k
    .rw[ao h,ao (by lia)]
    .rw[ap h,ap (by lia)]
   .intro t ht z;obtain⟨o,_,rfl⟩:=cf.mp ht;exact e (eT (b9 z)).symm
theorem rA{x:Nat}:∀ {l:List Nat},l.Nodup->((l.map fun o=>ci o).filter fun t=>decide (t=ci x)).length=if x∈l then 1 else 0
 |[],_=>by simp
 |y::l,h=>by
  have ih:=rA (x:=x) (dq.mp h).2;have hy:=(dq.mp h).1;rw[cQ,jL];by_cases e:y=x
  .subst e;rw[ao (by simp),cG,ih,ap hy,ao (by simp)]
  .rw[ap (show ¬ decide (ci y=ci x)=true from fun z=>e (eT (b9 z))),ih];have:x∈y::l↔x∈l:=by
    rw[bP];exact⟨fun z=>z.elim (fun q=>absurd q.symm e) id,.inr⟩
   simp only[this]
theorem Fp{g:Nat->List Nat}{x:Nat}:∀k,(∀h,h<k->(g h).Nodup)->((rq g k).filter fun t=>decide (t.2=ci x)).length=inn g k x
 |0,_=>by simp[rq,inn]
 |k+1,h=>by
  rw[om,jJ,cr,Fp k fun y hy=>h y (by lia)];unfold inn;rw[mB,yr];congr 1;have e1:List.countP (fun o=>decide (x∈g o)) [k]=if x∈g k then 1 else 0:=by rw[List.countP_singleton];simp
  rw[e1,<-rA (h k (by lia)),xT,aG,xT,aG];rfl
theorem II{n:Nat}{g:Nat->List Nat}(lt:∀a,a<n->∀o∈g a,o<n){a b:Nat}(ha:a<n)(h:Rc g a b):b<n/\∃k,dg (bf n g) k a b:=by
 induction h with
 |refl=>exact⟨ha,0,rfl⟩
 |step _ t ih=>
  obtain⟨hb,k,w⟩:=ih;exact⟨lt _ hb _ t,k+1,_,w,vH.mpr ⟨hb,t⟩⟩
theorem A8{h:Int}{n:Nat}:(∃x:Nat,h=ci x)\/h<0:=by
 by_cases z:0<=h
 .exact .inl ⟨h.toNat,(Int.toNat_of_nonneg z).symm⟩
 .exact .inr (by lia)
theorem IJ{n:Nat}{g:Nat->List Nat}(G:fh n g)(C:MJ n g)(n1:2<=n)(n2:n<=32):eW n (bf n g):=by
 have QL:∀h:Int,h<0->(bf n g).filter (fun t=>decide (t.1=h))=[]:=fun h hh=>yc.mpr fun t ht z=>by
  obtain⟨x,o,_,_,rfl⟩:=oq.mp ht;have z':((x:Nat):Int)=h:=b9 z;lia
 have Wa:∀h:Int,h<0->(bf n g).filter (fun t=>decide (t.2=h))=[]:=fun h hh=>yc.mpr fun t ht z=>by
  obtain⟨x,o,_,_,rfl⟩:=oq.mp ht;have z':((o:Nat):Int)=h:=b9 z;lia
 have Wb:∀x,¬ x<n->inn g n x=0:=fun x hx=>by
  unfold inn;rw[yp];intro o ho z;exact hx (G.lt o (bL.mp ho) x (b9 z)).1
 refine⟨n1,n2,xw n G.nd,fun t ht=>?_,fun t ht=>?_,fun h=>?_,fun h=>?_,fun a b ha hb=>(II (fun x hx o ho=>(G.lt x hx o ho).1) ha (C a b ha hb)).2⟩
 .obtain⟨x,o,hx,ho,rfl⟩:=oq.mp ht;have:=(G.lt x hx o ho).1;exact⟨⟨Int.natCast_nonneg _,Int.ofNat_lt.mpr hx⟩,⟨Int.natCast_nonneg _,Int.ofNat_lt.mpr this⟩⟩
 .obtain⟨x,o,hx,ho,rfl⟩:=oq.mp ht;have:=(G.lt x hx o ho).2;exact fun e=>this (eT e).symm
 .rcases A8 (h:=h) (n:=n) with ⟨x,rfl⟩|z
  .rw[zT,Fp n G.nd];by_cases hx:x<n
   .rw[ao hx];exact G.Ez x hx
   .rw[ap hx,Wb x hx]
  .rw[QL h z,Wa h z]
 .rcases A8 (h:=h) (n:=n) with ⟨x,rfl⟩|z
  .rw[zT];by_cases hx:x<n
   .rw[ao hx];exact G.le x hx
   .rw[ap hx];decide
  .rw[QL h z];decide
def mh(ts:Ts):Ts:=ts.map fun t=>(t.2,t.1)
theorem Fq{ts:Ts}{a b:Nat}:T (mh ts) a b↔T ts b a:=by
 unfold T mh;rw[cf];constructor
 .rintro⟨⟨x,y⟩,h,e⟩;have e1:=congrArg Prod.fst e;have e2:=congrArg Prod.snd e;dsimp only at e1 e2;subst e1 e2;exact h
 .exact fun h=>⟨_,h,rfl⟩
theorem xx{ts:Ts}:∀ {k a b:Nat},dg (mh ts) k a b->dg ts k b a
 |0,_,_,e=>e.symm
 |k+1,a,b,⟨c,w,t⟩=>dg.cons (Fq.mp t) (xx w)
theorem ot{ts:Ts}:∀ {k a b:Nat},dg ts k a b->dg (mh ts) k b a
 |0,_,_,e=>e.symm
 |k+1,a,b,⟨c,w,t⟩=>dg.cons (Fq.mpr t) (ot w)
theorem A9{ts:Ts}{h:Int}:((mh ts).filter fun t=>decide (t.1=h)).length=(ts.filter fun t=>decide (t.2=h)).length:=by
 unfold mh;rw[List.filter_map,List.length_map];rfl
theorem IK{ts:Ts}{h:Int}:((mh ts).filter fun t=>decide (t.2=h)).length=(ts.filter fun t=>decide (t.1=h)).length:=by
 unfold mh;rw[List.filter_map,List.length_map];rfl
theorem Fs{n:Nat}{ts:Ts}(F:eW n ts):eW n (mh ts):=by
 refine⟨F.n1,F.n2,?_,fun t ht=>?_,fun t ht=>?_,fun h=>?_,fun h=>?_,fun a b ha hb=>?_⟩
 .exact List.Pairwise.map _ (fun a b Qm e=>Qm (Prod.ext (congrArg Prod.snd e) (congrArg Prod.fst e))) (pT.mp F.nd)
 .obtain⟨u,hu,rfl⟩:=cf.mp ht;exact⟨(F.rg u hu).2,(F.rg u hu).1⟩
 .obtain⟨u,hu,rfl⟩:=cf.mp ht;exact fun e=>F.ne u hu e.symm
 .rw[A9,IK];exact(F.Ez h).symm
 .rw[A9,<-F.Ez h];exact F.most h
 .obtain⟨k,w⟩:=F.con b a hb ha;exact⟨k,ot w⟩
theorem IM{n:Nat}{ts:Ts}(F:eW n ts){a b:Nat}(ha:a<n)(hb:b<n):far (mh ts) a b=far ts b a:=by
 have h:=F.EA hb ha;exact vo ⟨ot h.1,fun k w=>h.2 k (xx w)⟩
section
variable {n:Nat} {g:Nat->List Nat} {hs ns:List Int} {m L:Nat} {ss ls:Nat->List (Option Nat)}
theorem iN.goes(R:iN n g hs L ss ls ns){b i h:Nat}(hb:b<L)(e:(ss b).getD i none=some h):∃o,(ls b).getD i none=some o/\T (bf n g) h o:=by
 obtain⟨o,e1,e2⟩:=(R.tie b hb).tie i h e;exact⟨o,e1,vH.mpr ⟨R.lt b (d_ hb) i h e,e2⟩⟩
theorem iN.so(R:iN n g hs L ss ls ns){b c i h o h':Nat}(hb:b+1<=c)(hl:c<=L)(e1:(ss b).getD i none=some h)(e2:(ls b).getD i none=some o)(e3:(ss c).getD i none=some h'):(ss (b+1)).getD i none=some o:=by
 have n1:(ss b).getD i none≠none:=by rw[e1];intro z;cases z
 have nx:=R.next b (bj hb hl) i n1;rw[e2] at nx;have ne:(ss (b+1)).getD i none≠none:=fun z=>by
  have:=R.out b (bj hb hl) i n1 z c hb hl;rw[e3] at this;cases this
 rw[nx] at ne |-;show (if (o:Int)=hs.getD i 0 then none else some o)=some o;by_cases z:(o:Int)=hs.getD i 0
 .exact absurd (ao z) ne
 .exact ap z
theorem iN.KG(R:iN n g hs L ss ls ns):∀ (d b i h o h':Nat),(ss b).getD i none=some h->(ls b).getD i none=some o->b+1+d<=L->(ss (b+1+d)).getD i none=some h'->dg (bf n g) d o h':=by
 intro d;induction d with
 |zero=>
  intro b i h o h' e1 e2 hl e3;have so:=R.so (Nat.le_add_right _ _) hl e1 e2 e3;rw[iq,so] at e3;exact aY e3
 |succ d ih=>
  intro b i h o h' e1 e2 hl e3;have so:=R.so (Nat.le_add_right _ _) hl e1 e2 e3;have hs:b+1+1+d=b+1+(d+1):=by lia
  obtain⟨o',e4,t⟩:=R.goes (b:=b+1) (bV (Nat.lt_add_of_pos_right (ql d)) hl) so;exact dg.cons t (ih (b+1) i o o' h' so e4 (hs ▸ hl) (hs ▸ e3))
theorem iN.once(R:iN n g hs L ss ls ns){b c i h h' o:Nat}(hb:b<L)(hc:c<L)(e1:(ss b).getD i none=some h)(e2:(ls b).getD i none=some o)(ho:(o:Int)=hs.getD i 0)(e3:(ss c).getD i none=some h'):c<=b:=by
 by_cases z:c<=b
 .exact z
 .have nx:=R.next b hb i (by rw[e1];intro z;cases z);rw[e2] at nx;have n0:(ss (b+1)).getD i none=none:=nx.trans (ao ho);have:=R.out b hb i (by rw[e1];intro z;cases z) n0 c (by lia) (by lia);rw[e3] at this;cases this
theorem xy(R:iN n g hs L ss ls ns){c h0:Nat}{zs:List Int}:∀ {k h:Nat},c_ m L ss ls c h0 zs k=some h->dg (bf n g) k h0 h/\(0<k->∃i x:Nat,zs.getD (k-1) 0=i/\i<m/\c+(k-1)<L/\(ss (c+(k-1))).getD i none=some x/\(ls (c+(k-1))).getD i none=some h/\T (bf n g) x h)
 |0,h,e=>⟨aY e,fun z=>absurd z (by lia)⟩
 |k+1,h,e=>by
  cases e0:c_ m L ss ls c h0 zs k with
  |none=>unfold c_ at e;rw[e0] at e;cases e
  |some x=>
   by_cases s:fH m L ss (zs.getD k 0) ((c+k:Nat):Int) x=true
   .have e':=tS e0 s;rw[e'] at e;obtain⟨i,b,h1,h2,h3,h4,h5⟩:=rp s;obtain rfl:c+k=b:=by lia
    obtain⟨o,e1,t⟩:=R.goes h4 h5;have ho:h=o:=by
     rw[h1,cN,e1] at e;exact(aY e).symm
    subst ho;exact⟨⟨x,(xy R e0).1,t⟩,fun _=>⟨i,x,h1,h3,h4,h5,e1,t⟩⟩
   .have:=oj e0 s 0;rw[iq] at this;rw[this] at e;cases e
structure OJ(n:Nat)(g:Nat->List Nat)(hs:List Int)(m L:Nat)(ss ls:Nat->List (Option Nat))(j c M d o h0:Nat):Prop where
 M1:0<M
 one:M=1->d≠j
 dm:d<m
 cl:c<L
 s0:(ss c).getD j none=some h0
 o0:(ls c).getD j none=some o
 en:c+(M-1)<L
 hm:∃x e:Nat,(ss (c+(M-1))).getD d none=some x/\(ls (c+(M-1))).getD d none=some e/\(e:Int)=hs.getD d 0/\T (bf n g) x e/\dg (bf n g) M h0 e
theorem zU(R:iN n g hs L ss ls ns){j c:Nat}{zs:List Int}(h:kD hs m L ss ls j c zs=true):∃d o h0:Nat,zs.getD (zs.length-1) 0=d/\zs≠[]/\OJ n g hs m L ss ls j c zs.length d o h0:=by
 unfold kD at h;rw[dX,dX,dX] at h;obtain⟨h1,h2,h3,h4⟩:=h;obtain⟨j',c',h0,e1,e2,h5,h6,h7⟩:=gY h1;obtain rfl:j=j':=eT e1;obtain rfl:c=c':=eT e2;have A7:zs≠[]:=by rintro rfl;cases h2
 have zl:0<zs.length:=uo.mpr A7;rw[cN,cN,h7] at h4;cases ew:c_ m L ss ls c ((some h0).getD 0) zs zs.length with
 |none=>rw[ew] at h4;cases h4
 |some e=>
  rw[ew] at h4;have he:=b9 h4;obtain⟨w,k⟩:=xy R ew;obtain⟨d,x,q1,q2,q3,q4,q5,q6⟩:=k zl;obtain⟨o,e3,_⟩:=R.goes h6 h7;rw[q1,cN] at he;refine⟨d,o,h0,q1,A7,zl,fun z1 z2=>?_,q2,h6,h7,e3,q3,x,e,q4,q5,he,q6,w⟩;rw[z1] at q1;rw[show (1:Nat)-1=0 from rfl] at q1;rw[q1,z2] at h3;simp at h3
theorem Ft(R:iN n g hs L ss ls ns)(F:eW n (bf n g)){j c M o h0:Nat}(C:OJ n g hs m L ss ls j c M j o h0):∃e:Nat,(e:Int)=hs.getD j 0/\e<n/\far (bf n g) o e<M:=by
 obtain⟨x,e,q1,q2,q3,q4,q5⟩:=C.hm;have M2:2<=M:=by
  have:=C.M1;by_cases z:M=1
  .exact absurd rfl (C.one z)
  .lia
 have w:=R.KG (M-2) c j h0 o x C.s0 C.o0 (by have:=C.en;lia) (by rw[show c+1+(M-2)=c+(M-1) by lia];exact q1);have w2:dg (bf n g) (M-2+1) o e:=⟨x,w,q4⟩
 obtain⟨o',e1,t⟩:=R.goes C.cl C.s0;obtain rfl:o=o':=by rw[C.o0] at e1;exact aY e1
 have:=F.zF (F.AQ t).2.1 (F.AQ q4).2.1 w2;exact⟨e,q3,(F.AQ q4).2.1,by lia⟩
theorem IP(R:iN n g hs L ss ls ns)(F:eW n (bf n g)){j c M d o h0 c' M' o' Zh:Nat}(C:OJ n g hs m L ss ls j c M d o h0)(C':OJ n g hs m L ss ls j c' M' d o' Zh)(hc:c<c'):∃e:Nat,(e:Int)=hs.getD d 0/\e<n/\far (bf n g) o e<M:=by
 obtain⟨x,e,q1,q2,q3,q4,q5⟩:=C.hm;obtain⟨x',e',r1,r2,r3,r4,r5⟩:=C'.hm;have a1:=R.once C.en C'.en q1 q2 q3 r1;have a2:=R.once C'.en C.en r1 r2 r3 q1;have b1:=C.M1;have b2:=C'.M1;have w:=R.KG (c'-c-1) c j h0 o Zh C.s0 C.o0 (by have:=C'.cl;lia) (by rw[show c+1+(c'-c-1)=c' by lia];exact C'.s0);have w2:=w.trans r5;obtain⟨o2,e1,t⟩:=R.goes C.cl C.s0;obtain rfl:o=o2:=by rw[C.o0] at e1;exact aY e1
 have:=F.zF (F.AQ t).2.1 (F.AQ r4).2.1 w2;exact⟨e',r3,(F.AQ r4).2.1,by lia⟩
end
open dU (zr zp PO HU Zs kP kQ kh eO)
abbrev vI:Stmt:=gG 42
abbrev xi:Stmt:=gG 43
abbrev Fu:Stmt:=gG 44
theorem Wc:(["_law_other","_law_house"]:List Str).Nodup:=by decide +kernel
theorem IQ{xs:List Nat}{i:Nat}{x:V}(h:(NV xs)[i]?=some x):∃z,xs[i]?=some z/\x=.int (z:Nat):=by
 rw[bq] at h;obtain⟨z,hz,rfl⟩:=oA.mp h;exact⟨z,hz,rfl⟩
theorem Fv{K:PySem.W.Frag}{a D:Addr}{xs:List Nat}{g:TG}{tt:TT}{te:TE}{fin:Hp->Prop}{σB:St}{H0:Hp}(F:Nat->Int×Int)(dB:St->Prop)(ha:H0 a=some (.lst (NV xs)))(hD:H0 D=none)(hn:xs.length<=100000)(h0:dB σB)(hs:∀x σ H (R:V->St->Hp->Prop) (Kf:St->Hp->Prop),x∈xs->dB σ->aM H0 H->(∀σ2 p,dB σ2->H p=none->R (.ref p) σ2 (upd H p (HU (F x))))->g (.int (x:Nat)) σ H fun σ2 H2=>tt σ2 H2 fun b H3=>if b=true then te σ2 H3 fun v H4=>R v σ2 H4 else Kf σ2 H3)(hd:∀zs H,aM H0 H->H D=some (.lst (zr zs))->PO H zs->zp zs=xs.map F->fin H):ig (Ds K a) g tt te D fin σB (upd H0 D (.lst [])):=by
 refine ff (xs:=NV xs) (fun i ys σ H=>dB σ/\aM H0 H/\H D=some (.lst ys)/\∃zs:Zs,ys=zr zs/\PO H zs/\zp zs=(xs.take i).map F) ⟨h0,aj hD,af,[],rfl,dU.PO.nil,rfl⟩ (fun i ys σ H _ z=>aV.of (z.2.1 _ _ ha)) ?_ ?_
 .rintro i x ys σ H Kt Kf hx ⟨sh,sm,n_,zs,rfl,po,ep⟩ kt kf;obtain⟨z,hz,rfl⟩:=IQ hx;have hi:i<xs.length:=(cM.mp hz).1;have hl:zs.length=i:=by rw[<-eO,ep,aG,iG];lia
  have tk:xs.take (i+1)=xs.take i++[z]:=by rw[hX,hz];rfl
  refine hs z σ H Kt Kf (dW hz) sh sm (fun σ2 p Cv hp=>?_);have nD:D≠p:=ak n_ hp;refine kt _ _ _ (by rw[ai nD];exact n_) (by rw[kh,hl];exact bV hi (bj hn (by decide))) ⟨Cv,dU.bU (sm.trans (aj hp)) hD,af,zs++[(p,F z)],?_,?_,?_⟩
  .rw[kP];rfl
  .intro y hy;rcases bg.mp hy with q|q
   .have e:=po y q;rw[ai (cA e n_ (by intro w;cases w)),ai (ak e hp)];exact e
   .rw[bK.mp q,ai nD.symm,af]
  .rw[kQ,ep,tk,cP];rfl
 .rintro ys σ H ⟨_,sm,n_,zs,rfl,po,ep⟩;rw[show (NV xs).length=xs.length from aG _,h9] at ep;exact hd zs H sm n_ po ep
section
variable {P:Program} {w:World} {K:PySem.W.Frag} {mg:Str->Option Value} {base:Heap}
theorem vJ:aI ["_law_outs","_law_found","_law_house"] ["_law_outs"] (am vI):=⟨rfl,rfl,rfl,by decide +kernel,rfl,by decide +kernel,by decide +kernel⟩
def vK:Sp:=fun vs H Q _=>∃ (O:Addr) (as:List Addr) (n:Nat) (g:Nat->List Nat),vs=[.ref O]/\fA H O as n g/\fh n g/\n<=32/\∀ (l:Addr) (zs:Zs) (H':Hp),aM H H'->H l=none->H' l=some (.lst (zr zs))->PO H' zs->(zp zs).Perm (bf n g)->Q (.ref l) H'
def Gx(g:Nat->List Nat)(ks:List Nat):Ts:=ks.flatMap fun h=>(g h).map fun o=>(ci h,ci o)
theorem Fw{g:Nat->List Nat}{ks:List Nat}{h:Nat}:Gx g (ks++[h])=Gx g ks++(g h).map fun o=>(ci h,ci o):=by
 unfold Gx;rw[List.flatMap_append];simp
theorem Fx{n:Nat}{g:Nat->List Nat}{ks:List Nat}(o:vX ks n):(Gx g ks).Perm (bf n g):=List.Perm.flatMap_right _ o
theorem A_{n:Nat}{g:Nat->List Nat}(G:fh n g):∀ {ks:List Nat},(∀h∈ks,h<n)->(Gx g ks).length<=8*ks.length
 |[],_=>by simp[Gx]
 |h::ks,m=>by
  have ih:=A_ G (ks:=ks) fun x hx=>m x (cy _ hx);have:=G.le h (m h cq);have e:Gx g (h::ks)=((g h).map fun o=>(ci h,ci o))++Gx g ks:=by unfold Gx;rw[List.flatMap_cons]
  rw[e,cr,aG,cG];lia
theorem Fy{f:Addr}{fd:FuncData}(F:fX K "_law_ties" "_law_ties" vI f fd):bz P w K mg base be 1 f fd ["_law_outs"] vK:=by
 refine F.ok vJ (fun vs H Q E h=>?_) (fun dQ A outer s H vs Q E hr h=>?_)
 .obtain⟨O,as,n,g,rfl,_⟩:=h;rfl
 .obtain⟨O,as,n,g,rfl,hO,G,Ky,q⟩:=h;have hu:(A.deeper (PyProof.Rows.envOfC "_law_ties" (am vI) s.heap.objs.size f dQ)).units+1<cLine:=by have:=hr.un;lia
  refine'⟨_,ah (aL (i:=1) vJ.nd rfl (Or.inl rfl) (dS ag))
   (ah (dR eR rfl (xp (pv 0)) (aF (i:=2) vJ.nd rfl (Or.inr rfl)) (al (cw (gO gI PySem.F.slot_list_extend PySem.F.type_list_extend BP (pv 1) (aa ?c ag)))))
   (al (aH (pv 1)))),?_⟩
  case c=>
   refine' cK (g:=bH 0) (te:=y3 (bT (bb 1) (bT (bb 0) jB))) (NB:=["_law_other","_law_house"]) (src:=[none,some 2]) (cj (by kernel_rfl)) rfl (cJ (cx hu (pv 0) (pv 2) (fun _ _=>rfl))) ?g ?t ?e;case g=>exact fun cl C s₃ H₃ fp=>aF (i:=0) Wc rfl (Or.inl rfl) (Or.inr rfl)
   case t=>exact fun cl C s₃ H₃ fp=>fT
   case e=>exact fun cl C s₃ H₃ fp=>fN (aa (pv 1) (aa (pv 0) ag))
  refine⟨by show 0<=sizeLine;decide,fun F' hF=>?_⟩;obtain⟨o,ks,OK,hd⟩:=hO.dict;have kl:=OK.len;refine⟨_,rfl,O,_,o,rfl,aj hF _ _ hd,?_⟩;refine qT (fun i σ H3=>(∃v,σ=[some (.ref O),some (.ref F'),v])/\aM H H3/\∃zs:Zs,H3 F'=some (.lst (zr zs))/\PO H3 zs/\zp zs=Gx g (ks.take i)) ⟨⟨_,rfl⟩,aj hF,[],af,dU.PO.nil,rfl⟩ (fun i σ H3 _ z=>z.2.1 _ _ hd) ?_ ?_
  .rintro j k v σ H3 hk ⟨⟨v',rfl⟩,sm,zs,QM,po,ez⟩;obtain⟨i,CI,rfl⟩:=mT hk;obtain⟨hj,hi,tk,ni⟩:=OK.at_ CI;change bH 2 (V.int (i:Int)) _ _ _;have MS:=hO.same sm;refine⟨_,rfl,.inl ⟨rfl,_,aV.of QM⟩,_,rfl,_,rfl,O,_,rfl,MS.get hi,as.getD i 0,rfl,⟨_,aV.of (MS.rows.2 i hi)⟩,fun D hD=>?_⟩;have l8:=G.le i hi;refine Fv (xs:=g i) (fun x=>(ci i,ci x)) (fun σ=>∃a,σ=[a,some (.int (i:Int))]) (MS.rows.2 i hi) hD (by lia) ⟨_,rfl⟩ ?_ ?_
   .rintro x σ H4 R Kf hx ⟨a,rfl⟩ rf kr;exact⟨_,rfl,_,rfl,by show 2<=sizeLine;decide,fun p hp=>kr _ p ⟨_,rfl⟩ hp⟩
   .intro vW H4 rf tK OL Zi;have Zj:=rf _ _ QM;have nFD:F'≠D:=ak QM hD;have lz:(zr zs).length<=256:=by rw[kh,<-eO,ez];have:=A_ G (ks:=ks.take j) (fun x hx=>OK.mem.mp (oC hx));rw[iG] at this;lia
    have lz':(zr vW).length<=8:=by rw[kh,<-eO,Zi,aG];exact l8
    refine⟨F',D,_,_,rfl,rfl,Zj,tK,bj (show (zr zs).length+(zr vW).length<=264 by lia) (by decide),⟨_,rfl⟩,dU.bU (sm.trans rf) hF,zs++vW,by rw[kP];exact af,?_,by rw[kQ,ez,Zi,tk,Fw]⟩;intro y hy;have e:H4 y.1=some (HU y.2):=(bg.mp hy).elim (fun z=>rf _ _ (po y z)) (OL y);rw[ai (cA e Zj (by intro w;cases w))];exact e
  .rintro σ H3 ⟨⟨v',rfl⟩,sm,zs,QM,po,ez⟩;rw[bW,h9] at ez;exact⟨_,rfl,q F' zs H3 sm hF QM po (by rw[ez];exact Fx OK)⟩
end
def vL(f:Nat->Nat)(xs:List Nat):List (dz×V):=xs.map fun (x:Nat)=>(Sum.inl (x:Int),V.int ((f x:Nat):Int))
theorem IR{f:Nat->Nat}{xs:List Nat}:(vL f xs).length=xs.length:=aG _
theorem pN{f:Nat->Nat}{x:Nat}:∀ {xs:List Nat},iL (vL f xs) (Sum.inl (x:Int))=if x∈xs then some (.int ((f x:Nat):Int)) else none
 |[]=>rfl
 |y::ys=>by
  unfold vL;rw[cQ];by_cases e:y=x
  .subst e;rw[j7 rfl,ao cq]
  .have e2:¬ ((Sum.inl (y:Int):dz)=Sum.inl (x:Int)):=fun z=>e (eT (qp z));rw[j8 e2];have ih:=pN (f:=f) (x:=x) (xs:=ys);unfold vL at ih;rw[ih];by_cases h:x∈ys
   .rw[ao h,ao (cy _ h)]
   .rw[ap h,ap (fun z=>(bP.mp z).elim (fun q=>e q.symm) h)]
theorem IT{f:Nat->Nat}{x k:Nat}{xs:List Nat}(h:x∉xs):fZ (vL f xs) (Sum.inl (x:Int)) (.int ((k:Nat):Int))=vL (put f x k) (xs++[x]):=by
 rw[mL _ (by rw[pN,ap h])];unfold vL;rw[cP,cQ,lS,gR];congr 1;refine jI fun y hy=>?_;rw[eY (show y≠x from fun z=>h (z ▸ hy))]
def lF(H:Hp)(D:Addr)(n:Nat)(f:Nat->Nat):Prop:=∃Rs:List Nat,H D=some (.dK (vL f Rs))/\∀x,x<n->x∈Rs
theorem lF.same{H H':Hp}{D:Addr}{n:Nat}{f:Nat->Nat}(h:lF H D n f)(s:aM H H'):lF H' D n f:=let ⟨R,a,b⟩:=h;⟨R,s _ _ a,b⟩
theorem lF.get{H:Hp}{D:Addr}{n:Nat}{f:Nat->Nat}(h:lF H D n f){x:Nat}(hx:x<n):iy H D (.int (x:Int)) (some (.int ((f x:Nat):Int))):=by
 obtain⟨R,a,b⟩:=h;have:=iy.k (k:=Sum.inl (x:Int)) a;rw[pN,ao (b x hx)] at this;exact this
section
variable {P:Program} {w:World} {K:PySem.W.Frag} {mg:Str->Option Value} {base:Heap}
theorem oU:aI ["_law_outs","_law_home","_law_far_here","_law_row","_law_at","_law_house"] ["_law_outs","_law_home"] (am xi):=⟨rfl,rfl,rfl,by decide +kernel,rfl,by decide +kernel,by decide +kernel⟩
def Ba:Sp:=fun vs H Q _=>∃ (O:Addr) (as:List Addr) (n:Nat) (g:Nat->List Nat) (s:Nat),vs=[.ref O,.int s]/\fA H O as n g/\eW n (bf n g)/\s<n/\∀ (r:Addr) (H':Hp),aM H H'->H r=none->lF H' r n (fun x=>far (bf n g) x s)->Q (.ref r) H'
theorem gZ{xs:List Nat}{v:Nat}:NV (xs++[v])=NV xs++[.int (v:Int)]:=by unfold NV;rw[cP];rfl
theorem MT{f:Addr}{fd:FuncData}(F:fX K "_law_far" "_law_far" xi f fd)(B:Bl mg):bz P w K mg base be 1 f fd ["_law_outs","_law_home"] Ba:=by
 refine F.ok oU (fun vs H Q E h=>?_) (fun dQ A outer s H vs Q E hr h=>?_)
 .obtain⟨O,as,n,g,s,rfl,_⟩:=h;rfl
 .obtain⟨O,as,n,g,st,rfl,hO,Fi,hs,k⟩:=h;have fi:=Fs Fi;have n1:=fi.n1;have n2:=fi.n2;have hu:(A.deeper (PyProof.Rows.envOfC "_law_far" (am xi) s.heap.objs.size f dQ)).units+1<cLine:=by have:=hr.un;lia
  refine'⟨_,ah (aL (i:=2) oU.nd rfl (Or.inl rfl) (Hu (Ej (pv 1) aq Ht) rfl rfl (by simp) (by decide)))
   (ah (aL (i:=3) oU.nd rfl (Or.inl rfl) (dS (aa (pv 1) ag)))
   (ah (aL (i:=4) oU.nd rfl (Or.inl rfl) aq)
   (ah (qw eR (aK oI (pv 4) (au aD (by rfl) B.len ce (aa (pv 3) ag)) (aO _))
    (ah (dR eR rfl (xp (pv 0)) (aF (i:=5) oU.nd rfl (Or.inl rfl))
     (al (bx (PW.pt (yN (uI (n5 hu (pv 5) (pv 2))) (uJ (aK nR (aA aB (pv 3) (pv 4) (fun _ _=>rfl)) (cx hu (pv 0) (pv 5) (fun _ _=>rfl)) (by rfl)))))
      (ah (pD hu (pv 2) (pv 5) (bC dF (cx hu (pv 2) (aA aB (pv 3) (pv 4) (fun _ _=>rfl)) (fun _ _=>rfl)) aq) rfl)
      (al (cw (gO gI jp jo cC (pv 3) (aa (pv 5) ag))))) aS)))
    (al (aL (i:=4) oU.nd rfl (Or.inl rfl) (bC dF (pv 4) aq)))))
   (al (aH (pv 2)))))),?_⟩
  obtain⟨o,ks,OK,hd⟩:=hO.dict;refine fun D hD=>⟨_,rfl,af,[(Sum.inl (st:Int),.int 0)],rfl,by show 1<=15;decide,?_⟩
  rw[ie];have e0:n6 [] [(Sum.inl (st:Int),V.int 0)]=vL (fun _=>0) [st]:=rfl;rw[e0];have Zk:aM H (upd H D (.dK (vL (fun _=>0) [st]))):=aj hD;refine⟨_,rfl,by show 1<=sizeLine;decide,fun R hR=>?_⟩;have Ku:D≠R:=ak (H:=upd H D (.dK (vL (fun _=>0) [st]))) af hR;have Qv:H R=none:=Zk.free hR;refine wr (fun σ H2=>∃ (i:Nat) (Rs:List Nat) (f:Nat->Nat),i<=Rs.length/\xQ n (mh (bf n g)) st i Rs f/\(∃a,σ=[some (.ref O),some (.int st),some (.ref D),some (.ref R),some (.int (i:Int)),a])/\aM H H2/\H2 D=some (.dK (vL f Rs))/\H2 R=some (.lst (NV Rs)))
   (fun σ _=>n-dU.Kr σ) ⟨0,[st],fun _=>0,dv _,xQ.start hs,⟨none,rfl⟩,Zk.trans (aj hR),by rw[ai Ku,af],af⟩ ?_ ?_
  .rintro σ H2 ⟨i,Rs,f,hi,Bf,⟨a,rfl⟩,sm,m5,Oy⟩;have hRn:Rs.length<=n:=eJ Bf.nd Bf.lt;refine⟨_,rfl,_,rfl,R,_,rfl,.inl (aV.of Oy),_,_,rfl,rfl,_,rfl,?_⟩;rw[show (NV Rs).length=Rs.length from aG _];by_cases tE:i<Rs.length
   .rw[show decide ((i:Int)<((Rs.length:Nat):Int))=true by simp;lia];refine G9 ?_;have wI:Rs[i]?=some Rs[i]:=bY tE;generalize Rs[i]=u at wI;refine⟨_,rfl,O,_,o,rfl,sm _ _ hd,?_⟩;refine qT (fun j σ H3=>∃ (gp:List Nat) (f':Nat->Nat),xQ n (mh (bf n g)) st i gp f'/\gp[i]?=some u/\(∀v∈ks.take j,T (mh (bf n g)) u v->v∈gp/\f' v<=f' u+1)/\
      (∃b,σ=[some (.ref O),some (.int st),some (.ref D),some (.ref R),some (.int (i:Int)),b])/\aM H H3/\H3 D=some (.dK (vL f' gp))/\H3 R=some (.lst (NV gp)))
      ⟨Rs,f,Bf,wI,fun v hv=>by simp at hv,⟨_,rfl⟩,sm,m5,Oy⟩ (fun j σ H3 _ ⟨_,_,_,_,_,_,si,_⟩=>si _ _ hd) ?_ ?_
    .rintro j k0 v0 σ H3 hk ⟨gp,f',tJ,Fz,dn,⟨b',rfl⟩,si,jE,vV⟩;obtain⟨v,hkv,rfl⟩:=mT hk;obtain⟨hj,EQ,tk,nv⟩:=OK.at_ hkv;change bH 5 (V.int (v:Int)) _ _ _;have MS:=hO.same si;have Tf:(NV gp)[i]?=some (.int (u:Int)):=by rw[bq,Fz];rfl
     have ER:u∈gp:=dW Fz;have mn:i<gp.length:=(cM.mp Fz).1;have ES:gp.length<=n:=eJ tJ.nd tJ.lt;have gD:∀x:Nat,iy H3 D (.int (x:Int)) (if x∈gp then some (.int ((f' x:Nat):Int)) else none):=fun x=>by
      have:=iy.k (k:=Sum.inl (x:Int)) jE;rw[pN] at this;exact this
     have QN:T (mh (bf n g)) u v↔u∈g v:=by rw[Fq,vH];exact⟨fun z=>z.2,fun z=>⟨EQ,z⟩⟩
     refine⟨_,rfl,_,rfl,D,_,rfl,gD v,_,rfl,?_⟩;by_cases zN:v∈gp
     .rw[ao zN];refine l5 ⟨gp,f',tJ,Fz,fun x hx t=>?_,⟨_,rfl⟩,si,jE,vV⟩;rw[tk] at hx;rcases bg.mp hx with hx|hx
      .exact dn x hx t
      .rw[bK.mp hx];exact⟨zN,tJ.bd u Fz _ zN⟩
     .rw[ap zN];refine G9 ?_;refine⟨_,rfl,_,rfl,R,_,_,_,rfl,rfl,aV.of vV,bO Tf,_,rfl,_,rfl,O,_,rfl,MS.get EQ,as.getD v 0,NV (g v),rfl,.inl (aV.of (MS.rows.2 v EQ)),rfl,rh,_,rfl,?_⟩;rw[pJ];refine bR (fun e=>?_) (fun e=>?_)
      .have VF:T (mh (bf n g)) u v:=QN.mpr (b9 e);have g2:=gD u;rw[ao ER] at g2;refine⟨_,rfl,_,rfl,_,rfl,R,_,_,_,rfl,rfl,aV.of vV,bO Tf,D,_,rfl,g2,_,_,rfl,rfl,_,rfl,_,rfl,D,_,rfl,r_.k (k:=Sum.inl (v:Int)) jE (by rw[IR];exact bV (show gp.length<33 by lia) (by decide)),?_⟩;have e1:fZ (vL f' gp) (Sum.inl (v:Int)) (V.int (((f' u:Nat):Int)+1))=vL (put f' v (f' u+1)) (gp++[v]):=by
        rw[show ((f' u:Nat):Int)+1=((f' u+1:Nat):Int) by lia,IT zN]
       rw[e1];have rO:(upd H3 D (.dK (vL (put f' v (f' u+1)) (gp++[v])))) R=some (.lst (NV gp)):=by rw[ai Ku.symm];exact vV
       refine⟨_,rfl,.inl ⟨rfl,_,aV.of rO⟩,_,rfl,R,_,_,rfl,rfl,rO,by rw[aG];exact bV (show gp.length<33 by lia) (by decide),?_⟩;have VG:u≠v:=fun z=>zN (z ▸ ER);refine⟨gp++[v],put f' v (f' u+1),tJ.add Fz EQ VF zN,by rw[iC mn];exact Fz,fun x hx t=>?_,⟨_,rfl⟩,dU.bU (dU.bU si hD) Qv,?_,?_⟩
       .rw[eY VG];by_cases e:x=v
        .subst e;exact⟨by simp,by rw[gR];exact ba _⟩
        .have s_:x∈ks.take j:=by
          rw[tk] at hx;rcases bg.mp hx with hx|hx
          .exact hx
          .exact absurd (bK.mp hx) e
         obtain⟨q1,q2⟩:=dn x s_ t;exact⟨hW _ q1,by rw[eY e];exact q2⟩
       .rw[ai Ku,af]
       .rw[af,gZ]
      .have e':¬ u∈g v:=fun z=>e (bB z);refine⟨gp,f',tJ,Fz,fun x hx t=>?_,⟨_,rfl⟩,si,jE,vV⟩;by_cases ex:x=v
       .subst ex;exact absurd (QN.mp t) e'
       .have s_:x∈ks.take j:=by
         rw[tk] at hx;rcases bg.mp hx with hx|hx
         .exact hx
         .exact absurd (bK.mp hx) ex
        exact dn x s_ t
    .rintro σ H3 ⟨gp,f',tJ,Fz,dn,⟨b',rfl⟩,si,jE,vV⟩;rw[bW,h9] at dn;have mn:i<gp.length:=(cM.mp Fz).1;have ES:gp.length<=n:=eJ tJ.nd tJ.lt;refine⟨_,rfl,_,_,rfl,rfl,⟨i+1,gp,f',mn,tJ.next Fz (fun v t=>dn v (OK.mem.mpr (fi.AQ t).2.1) t),⟨_,rfl⟩,si,jE,vV⟩,?_⟩;show n-((i:Int)+1).toNat<n-((i:Int)).toNat;lia
   .rw[show decide ((i:Int)<((Rs.length:Nat):Int))=false by simp;lia];refine l5 ?_;refine⟨_,rfl,k D H2 sm hD ⟨Rs,?_,fun x hx=>(Bf.done fi (by lia) hx).1⟩⟩;have e:vL f Rs=vL (fun x=>far (bf n g) x st) Rs:=by
     unfold vL;refine jI fun x hx=>?_;have s_:=Bf.lt x hx;rw[(Bf.done fi (by lia) s_).2,IM Fi hs s_]
    rw[<-e];exact m5
  .rintro σ H2 Q1 Q2 imp ⟨v,e1,v2,e2,p,ys,e3,e4,i1,i2,e5,e6,kk,e7,q⟩;exact⟨v,e1,v2,e2,p,ys,e3,e4,i1,i2,e5,e6,kk,e7,imp _ _ q⟩
end
theorem QO:(["_law_home","_law_outs"]:List Str).Nodup:=by decide +kernel
structure e_(H:Hp)(r:Addr)(ds:List Addr)(n:Nat)(g:Nat->List Nat):Prop where
 dict:∃ks,vX ks n/\H r=some (.dK (eZ ds ks))
 rows:∀j,j<n->lF H (ds.getD j 0) n (fun x=>far (bf n g) x j)
theorem e_.same{H H':Hp}{r:Addr}{ds:List Addr}{n:Nat}{g:Nat->List Nat}(h:e_ H r ds n g)(s:aM H H'):e_ H' r ds n g:=⟨let ⟨ks,a,b⟩:=h.dict;⟨ks,a,s _ _ b⟩,fun j hj=>(h.rows j hj).same s⟩
theorem e_.dC{H H':Hp}{p r:Addr}{ds:List Addr}{n:Nat}{g:Nat->List Nat}(h:e_ H r ds n g)(s:aR p H H')(hp:aW H p):e_ H' r ds n g:=by
 obtain⟨a,b,e,_⟩:=hp;obtain⟨ks,ok,d⟩:=h.dict;exact⟨⟨ks,ok,s _ _ d (cA d e (by intro z;cases z))⟩,fun j hj=>let ⟨R,x,y⟩:=h.rows j hj;⟨R,s _ _ x (cA x e (by intro z;cases z)),y⟩⟩
theorem e_.get{H:Hp}{r:Addr}{ds:List Addr}{n:Nat}{g:Nat->List Nat}(h:e_ H r ds n g){x:Nat}(hx:x<n):iy H r (.int x) (some (.ref (ds.getD x 0))):=by
 obtain⟨ks,o,d⟩:=h.dict;have:=iy.k (k:=.inl (x:Int)) d;rw[fP,ao (o.mem.mpr hx)] at this;exact this
section
variable {P:Program} {w:World} {K:PySem.W.Frag} {mg:Str->Option Value} {base:Heap}
theorem MU:aI ["_law_outs"] ["_law_outs"] (am Fu):=⟨rfl,rfl,rfl,by decide +kernel,rfl,by decide +kernel,by decide +kernel⟩
def zV:Sp:=fun vs H Q _=>∃ (O:Addr) (as:List Addr) (n:Nat) (g:Nat->List Nat),vs=[.ref O]/\cU H O as n g/\eW n (bf n g)/\∀ (r:Addr) (ds:List Addr) (H':Hp),e_ H' r ds n g->fA H' O as n g->aR O H H'->H r=none->Q (.ref r) H'
theorem IU{f:Addr}{fd:FuncData}(F:fX K "_law_fars" "_law_fars" Fu f fd)(B:Bl mg)(FA:cp P w K mg base be 1 "_law_far" ["_law_outs","_law_home"] Ba):bz P w K mg base be 2 f fd ["_law_outs"] zV:=by
 refine F.ok MU (fun vs H Q E h=>?_) (fun dQ A outer s H vs Q E hr h=>?_)
 .obtain⟨O,as,n,g,rfl,_⟩:=h;rfl
 .obtain⟨O,as,n,g,rfl,hO,Fi,q⟩:=h;have n2:=Fi.n2;refine'⟨_,al (aH (cV (qS rfl) (by rfl) B.dict PyProof.Rows.boot_dict (aa ?c ag))),?_⟩;case c=>
   refine' cK (g:=bH 0) (te:=y3 (bT (bb 0) (bT (qB Ba [] E0 (bT (bb 1) (bT (bb 0) jB))) jB))) (NB:=["_law_home","_law_outs"]) (src:=[none,some 0]) (cj (by kernel_rfl)) rfl (AF (pv 0)) ?g ?t ?e;case g=>exact fun cl C s₃ H₃ fp=>aF (i:=0) QO rfl (Or.inl rfl) (Or.inr rfl)
   case t=>exact fun cl C s₃ H₃ fp=>fT
   case e=>exact fun cl C s₃ H₃ fp=>fN (aa (pv 0) (aa (aE FA hr aQ (aa (pv 1) (aa (pv 0) ag))) ag))
  obtain⟨ks,OK,hd⟩:=hO.dict;have kl:=OK.len;refine⟨_,rfl,O,_,rfl,hd,fun o D hD=>?_⟩;have Zl:(upd H O (.iR o (.dK (eZ as ks)))) O=some (.iR o (.dK (eZ as ks))):=af;have Wd:∀j,j<n->as.getD j 0≠O:=fun j hj=>cA (hO.rows.2 j hj) hd (by intro z;cases z);have Zm:fA (upd H O (.iR o (.dK (eZ as ks)))) O as n g:=⟨⟨o,ks,OK,af⟩,hO.rows.mono fun j hj e=>by rw[ai (Wd j hj)];exact e,hO.inj⟩
  have sE:aR O H (upd H O (.iR o (.dK (eZ as ks)))):=aR.upd;have fr:∀b,(upd H O (.iR o (.dK (eZ as ks)))) b=none->H b=none:=fun b e=>by
   cases z:H b with
   |none=>rfl
   |some u=>
    by_cases eb:b=O
    .subst eb;rw[Zl] at e;cases e
    .rw[sE b u z eb] at e;cases e
  generalize upd H O (.iR o (.dK (eZ as ks)))=H1 at *;refine CJ (d:=O) (o:=o) (kvs:=eZ as ks) (fun i ys σ H2=>(∃a,σ=[a,some (.ref O)])/\aM H1 H2/\H2 D=some (.lst ys)/\∃ (ts:List Addr) (A:Nat->Addr),ys=ts.map V.ref/\Holds H2 ts i (fun j=>.tup [.int ((ks.getD j 0:Nat):Int),.ref (A (ks.getD j 0))])/\∀h∈ks.take i,lF H2 (A h) n (fun x=>far (bf n g) x h))
   ⟨⟨_,rfl⟩,aj hD,af,[],fun _=>0,rfl,Holds.nil,fun j hj=>by simp at hj⟩ (fun i ys σ H2 _ z=>z.2.1 _ _ Zl) ?_ ?_
  .rintro j k v ys σ H2 Kt Kf hk ⟨⟨a,rfl⟩,sm,m5,ts,A,rfl,qI,Tp⟩ kt kf;obtain⟨i,CI,rfl⟩:=mT hk;obtain⟨hj,hi,tk,ni⟩:=OK.at_ CI;change bH 0 (V.int (i:Int)) _ _ _;refine⟨_,rfl,_,rfl,_,rfl,O,as,n,g,i,rfl,Zm.same sm,Fi,hi,fun r H3 s3 Zf F3=>⟨by show 2<=sizeLine;decide,fun t ht=>?_⟩⟩;have s4:=aj (o:=.tup [.int (i:Int),.ref r]) ht;have tK:=s4 _ _ (s3 _ _ m5);have hti:=af (H:=H3) (a:=t) (o:=.tup [.int (i:Int),.ref r]);have F4:=F3.same s4;have We:=s3.trans s4;generalize upd H3 t (.tup [.int (i:Int),.ref r])=H4 at *;have keep:∀b u,H4 b=some u->(∀xs,u≠.lst xs)->(upd H4 D (.lst (ts.map V.ref++[.ref t]))) b=some u:=fun b u e z=>by rw[ai (cA e tK (z _))];exact e
   have KH:∀b f,lF H4 b n f->lF (upd H4 D (.lst (ts.map V.ref++[.ref t]))) b n f:=fun b f z=>let ⟨R,x,y⟩:=z;⟨R,keep _ _ x (by intro xs w;cases w),y⟩;have kg:ks.getD j 0=i:=by rw[bQ,CI];rfl
   have eA:∀h∈ks.take j,hU A i r h=A h:=fun h m=>by unfold hU;rw[ap (fun (z:h=i)=>ni (by rw[<-z];exact m))]
   have eI:hU A i r i=r:=by unfold hU;rw[ao rfl]
   refine kt _ _ _ tK (by rw[aG,qI.1];exact bV (show j<33 by lia) (by decide)) ⟨⟨_,rfl⟩,dU.bU (sm.trans We) hD,af,ts++[t],hU A i r,by rw[cP];rfl,?_,fun h hh=>?_⟩
   .refine⟨by rw[cr,qI.1];rfl,fun x hx=>?_⟩;rw[iM qI.1];show _=some (HO.tup [.int ((ks.getD x 0:Nat):Int),.ref (hU A i r (ks.getD x 0))]);by_cases e:x=j
    .rw[ao e,e,kg,eI];exact keep _ _ hti (by intro xs w;cases w)
    .have mx:ks.getD x 0∈ks.take j:=by
      have Tq:x<ks.length:=by lia
      rw[bQ,bY Tq];exact t_.mpr ⟨x,by lia,rfl⟩
     rw[ap e,eA _ mx];exact keep _ _ (We _ _ (qI.2 x (by lia))) (by intro xs w;cases w)
   .rw[tk] at hh;rcases bg.mp hh with m|m
    .rw[eA h m];exact KH _ _ ((Tp h m).same We)
    .rw[bK.mp m,eI];exact KH _ _ F4
  .rintro ys σ H2 ⟨_,sm,m5,ts,A,rfl,qI,Tp⟩;rw[bW,kl] at qI;rw[bW,h9] at Tp;refine⟨D,ts,dj A ks,rfl,m5,by rw[qI.1,bW,kl],fun i hi=>?_,?_,fun r vU=>?_⟩
   .rw[bW] at hi;have mn:i<n:=by lia
    refine⟨.inl ((ks.getD i 0:Nat):Int),.ref (A (ks.getD i 0)),?_,qI.2 i mn⟩;unfold dj;rw[bq,bY hi,bQ,bY hi];rfl
   .rw[bW];lia
   .rw[oh OK.nd];have s5:=aj (o:=.dK (dj A ks)) vU;refine q r ((List.range n).map A) _ ⟨⟨ks,OK,by rw[af];exact congrArg (fun z=>some (HO.dK z)) (ky fun x hx=>(gz (OK.mem.mp hx)).symm)⟩,fun h hh=>?_⟩ ((Zm.same sm).same s5) (sE.trans (aR.of (sm.trans s5))) (fr r (sm.free vU));rw[gz hh];exact(Tp h (OK.mem.mpr hh)).same s5
end
open dU (zr zp PO HU Zs cZ NT mR tI Cy)
abbrev MV:Stmt:=gG 24
section
variable {P:Program} {w:World} {K:PySem.W.Frag} {mg:Str->Option Value} {base:Heap}
theorem QP:aI ["net","homes","stands","log","letter","beat","chain"] ["net","homes","stands","log","letter","beat","chain"] (am MV):=⟨rfl,rfl,rfl,by decide +kernel,rfl,by decide +kernel,by decide +kernel⟩
def FB(C:Addr):Sp:=fun vs H Q _=>∃ (p a SA LA Z:Addr) (bA bp:List Addr) (m L:Nat) (ss ls:Nat->List (Option Nat)) (hs zs ns:List Int) (j c n:Nat) (g:Nat->List Nat) (Lp:Addr->Prop),vs=[.ref p,.ref a,.ref SA,.ref LA,.int j,.int c,.ref Z]/\H a=some (.tup (HV hs))/\hs.length=m/\cS H SA LA bA bp m L ss ls/\iN n g hs L ss ls ns/\H Z=some (.lst (HV zs))/\j<m/\
 cZ C H Lp p n (bf n g)/\kD hs m L ss ls j c zs=true/\∀ (b:Bool) (H':Hp),aM H H'->(∀d o e:Nat,zs.getD (zs.length-1) 0=(d:Int)->(ls c).getD j none=some o->hs.getD d 0=(e:Int)->b=decide (zs.length<=far (bf n g) o e))->Q (.bl b) H'
theorem MW{f C:Addr}{fd:FuncData}(F:fX K "is_straight" "is_straight" MV f fd)(B:Bl mg)(T:NT K mg C)(CH:cp P w K mg base be 5 "is_chain" ["homes","stands","log","letter","beat","thing"] pM)(MF:mR P w K mg base be 5 C "far" ["self","one","other"] (dU.oa C)):
  bz P w K mg base be 6 f fd ["net","homes","stands","log","letter","beat","chain"] (FB C):=by
 obtain⟨fF,fdF,mF,bF,GF⟩:=MF.ex;refine F.ok QP (fun vs H Q E h=>?_) (fun dQ A outer s H vs Q E hr h=>?_)
 .obtain⟨p,a,SA,LA,Z,bA,bp,m,L,ss,ls,hs,zs,ns,j,c,n,g,Lp,rfl,_⟩:=h;rfl
 .obtain⟨p,a,SA,LA,Z,bA,bp,m,L,ss,ls,hs,zs,ns,j,c,n,g,Lp,rfl,ha,hl,LG,R,hZ,hj,N,hc,q⟩:=h;refine⟨_,ah (bx (et (dE (aE CH hr aQ (aa (pv 1) (aa (pv 2) (aa (pv 3) (aa (pv 4) (aa (pv 5) (aa (pv 6) ag))))))))) dO aS)
   (al (aH (dG Dy (ja (pv 0) T.cl mF GF hr bF .nil aQ (aa (aA a9 (aA aB (pv 3) (pv 5) (fun _ _=>rfl)) (pv 4) (fun _ _=>rfl)) (aa (aA a9 (pv 1) (aA aB (pv 6) (lv iw aq) (fun _ _=>rfl)) (fun _ _=>rfl)) ag)))
    (au aD (by rfl) B.len ce (aa (pv 6) ag)) (aO _)))),?_⟩
  refine⟨_,rfl,_,rfl,_,rfl,_,rfl,_,rfl,_,rfl,a,SA,LA,Z,bA,bp,m,L,ss,ls,hs,zs,j,c,rfl,ha,hl,LG,hZ,fun H1 s1=>⟨_,rfl,?_⟩⟩;rw[hc];refine l5 ?_;obtain⟨d,o,h0,zd,A7,Ch⟩:=zU R hc;obtain⟨x,e,q1,q2,q3,q4,q5⟩:=Ch.hm;have fi:=N.km;obtain⟨o',e1,t⟩:=R.goes Ch.cl Ch.s0;obtain rfl:o=o':=by rw[Ch.o0] at e1;exact aY e1
  have FE:=(fi.AQ t).2.1;have hen:=(fi.AQ q4).2.1;have Tt:=LG.same s1;obtain⟨g1,g2,g3,g4,g5,g6⟩:=Tt;have Zn:(ls c).length=m:=by rw[(g6 c Ch.cl).1];exact g5 c (d_ Ch.cl)
  have N1:=N.same s1;obtain⟨dx,tl,ol,ds,hn,_⟩:=N1.ob;have rP:fR (SV (ls c)) (j:Int)=some (.int (o:Int)):=by rw[dM (by lia),Ch.o0];rfl
  have at3:fR (HV hs) (zs.getD (zs.length-1) 0)=some (.int (e:Int)):=by rw[zd,jy (by have:=Ch.dm;lia),<-q3]
  refine⟨_,rfl,p,dx,_,rfl,hn,Cy _ _ _ _,_,rfl,_,rfl,LA,_,_,_,rfl,rfl,aV.of g2,eQ (by rw[g4.1];exact Ch.cl),_,rfl,bp.getD c 0,_,_,_,rfl,rfl,cR.of (g4.2 c Ch.cl),rP,
   _,rfl,_,rfl,_,rfl,Z,_,_,_,rfl,rfl,aV.of (s1 _ _ hZ),pL A7,a,_,_,_,rfl,rfl,cR.of (s1 _ _ ha),at3,Lp,p,n,bf n g,o,e,rfl,N1,FE,hen,?_⟩
  refine⟨_,rfl,Z,_,rfl,.inl (aV.of (s1 _ _ hZ)),_,_,rfl,rfl,q _ H1 s1 fun d' o2 e2 Zo eo ee=>?_⟩;obtain rfl:d=d':=by rw[zd] at Zo;exact eT Zo
  obtain rfl:o=o2:=by rw[Ch.o0] at eo;exact aY eo
  obtain rfl:e=e2:=by rw[<-q3] at ee;exact eT ee
  rw[show (HV zs).length=zs.length from aG _];exact qc.mpr (by lia)
end
noncomputable def dH(n:Nat)(g:Nat->List Nat)(hs:List Int)(i h:Nat):Nat:=far (bf n g) h (hs.getD i 0).toNat
noncomputable def g7(n:Nat)(g:Nat->List Nat)(hs:List Int)(s l:List (Option Nat))(i:Nat):Bool:=match s.getD i none,l.getD i none with
 |some h,some o=>decide (dH n g hs i h<=dH n g hs i o)
 |_,_=>false
noncomputable def dw(n:Nat)(g:Nat->List Nat)(hs:List Int)(i h:Nat):List Nat:=(g h).filter fun o=>decide (dH n g hs i o<dH n g hs i h)
def NF(n:Nat)(g:Nat->List Nat)(hs:List Int)(s l:List (Option Nat)):Prop:=∀i h,s.getD i none=some h->g7 n g hs s l i=true->∀o∈dw n g hs i h,∃j,s.getD j none=some h/\l.getD j none=some o/\dH n g hs j o<dH n g hs j h
def Tv(s l:List (Option Nat))(h o:Nat):Nat:=((List.range s.length).find? fun j=>decide (s.getD j none=some h)&&decide (l.getD j none=some o)).getD 0
theorem MX{g:Nat->List Nat}{s l:List (Option Nat)}{h o j:Nat}(Hd:dk g s l)(e1:s.getD j none=some h)(e2:l.getD j none=some o):Tv s l h o=j:=by
 unfold Tv;cases e:(List.range s.length).find? fun j=>decide (s.getD j none=some h)&&decide (l.getD j none=some o) with
 |none=>
  have:=List.find?_eq_none.mp e j (bL.mpr (aT e1).1);rw[e1,e2] at this;simp at this
 |some k=>
  have:=List.find?_some e;rw[dX,fc,fc] at this;exact Hd.Tn k j h o this.1 e1 this.2 e2
noncomputable def kE(n:Nat)(g:Nat->List Nat)(hs:List Int)(ss ls:Nat->List (Option Nat))(b i:Nat):Nat:=if g7 n g hs (ss b) (ls b) i=true then Tv (ss b) (ls b) (((ss b).getD i none).getD 0) ((dw n g hs i (((ss b).getD i none).getD 0)).headD 0) else i
def kF(hs:List Int)(l:List (Option Nat))(c:Nat):Bool:=match l.getD c none with
 |some o=>decide ((o:Int)=hs.getD c 0)
 |none=>false
def vM(hs:List Int)(ls:Nat->List (Option Nat))(nx:Nat->Nat->Nat):Nat->Nat->Nat->Option (List Nat)
 |0,_,_=>none
 |k+1,b,c=>if kF hs (ls b) c=true then some [c] else (vM hs ls nx k (b+1) (nx (b+1) c)).map (c::·)
noncomputable def FF(n:Nat)(g:Nat->List Nat)(hs:List Int)(L:Nat)(ss ls:Nat->List (Option Nat))(b i:Nat):Option (List Nat):=
 if b<L/\g7 n g hs (ss b) (ls b) i=true then vM hs ls (kE n g hs ss ls) (L-b) b (kE n g hs ss ls b i) else none
inductive mY (hs:List Int) (L:Nat) (ss ls:Nat->List (Option Nat)):Nat->Nat->List Nat->Nat->Prop where
 |last {b h c o:Nat} (hb:b<L) (e1:(ss b).getD c none=some h) (e2:(ls b).getD c none=some o) (e3:(o:Int)=hs.getD c 0):mY hs L ss ls b h [c] o
 |cons {b h c o e:Nat} {zs:List Nat} (hb:b<L) (e1:(ss b).getD c none=some h) (e2:(ls b).getD c none=some o) (r:mY hs L ss ls (b+1) o zs e):mY hs L ss ls b h (c::zs) e
abbrev IN(zs:List Nat):List Int:=zs.map fun (i:Nat)=>(i:Int)
theorem jk{zs:List Nat}{k:Nat}:(IN zs).getD k 0=((zs.getD k 0:Nat):Int):=by
 rw[bQ,bQ,bq];cases zs[k]? <;> rfl
theorem ml{m L:Nat}{ss ls:Nat->List (Option Nat)}{c:Int}{zs:List Int}:∀ {k b h:Nat},c_ m L ss ls b h (c::zs) (k+1)=if fH m L ss c (b:Int) h=true then c_ m L ss ls (b+1) (((ls b).getD c.toNat none).getD 0) zs k else none
 |0,b,h=>rfl
 |k+1,b,h=>by
  have ih:=ml (m:=m) (L:=L) (ss:=ss) (ls:=ls) (c:=c) (zs:=zs) (k:=k) (b:=b) (h:=h);rw[show c_ m L ss ls b h (c::zs) (k+1+1)=(match c_ m L ss ls b h (c::zs) (k+1) with
   |none=>none
   |some h=>if fH m L ss ((c::zs).getD (k+1) 0) ((b+(k+1):Nat):Int) h=true then some (((ls (b+(k+1))).getD ((c::zs).getD (k+1) 0).toNat none).getD 0) else none) from rfl,ih]
  by_cases e:fH m L ss c (b:Int) h=true
  .rw[ao e,ao e];rw[show c_ m L ss ls (b+1) (((ls b).getD c.toNat none).getD 0) zs (k+1)=(match c_ m L ss ls (b+1) (((ls b).getD c.toNat none).getD 0) zs k with
    |none=>none
    |some h=>if fH m L ss (zs.getD k 0) ((b+1+k:Nat):Int) h=true then some (((ls (b+1+k)).getD (zs.getD k 0).toNat none).getD 0) else none) from rfl,yn,show b+(k+1)=b+1+k by lia]
  .rw[ap e,ap e]
theorem mY.walk{hs:List Int}{m L:Nat}{ss ls:Nat->List (Option Nat)}{b h:Nat}{zs:List Nat}{e:Nat}(A:mY hs L ss ls b h zs e)(sl:∀b,b<=L->(ss b).length=m):c_ m L ss ls b h (IN zs) zs.length=some e/\zs≠[]/\(∃d:Nat,zs.getD (zs.length-1) 0=d/\(e:Int)=hs.getD d 0):=by
 induction A with
 |@last b h c o hb e1 e2 e3=>
  have hc:c<m:=by rw[<-sl b (d_ hb)];exact(aT e1).1
  refine⟨?_,by simp,c,rfl,e3⟩;show c_ m L ss ls b h [(c:Int)] (0+1)=_;rw[ml,ao (A6 hc hb e1),cN,e2];rfl
 |@cons b h c o e zs hb e1 e2 r ih=>
  obtain⟨w,ne,d,hd,he⟩:=ih;have hc:c<m:=by rw[<-sl b (d_ hb)];exact(aT e1).1
  refine⟨?_,by simp,d,?_,he⟩
  .show c_ m L ss ls b h ((c:Int)::IN zs) (zs.length+1)=_;rw[ml,ao (A6 hc hb e1),cN,e2];exact w
  .rw[<-hd];have hz:0<zs.length:=uo.mpr ne;rw[cG,show zs.length+1-1=(zs.length-1)+1 by lia,yn]
theorem mY.chain{hs:List Int}{m L:Nat}{ss ls:Nat->List (Option Nat)}{b h i:Nat}{zs:List Nat}{e:Nat}(A:mY hs L ss ls b h zs e)(sl:∀b,b<=L->(ss b).length=m)(hb:b<L)(e1:(ss b).getD i none=some h)(ni:zs.headD 0≠i):kD hs m L ss ls i b (IN zs)=true:=by
 obtain⟨w,ne,d,hd,he⟩:=A.walk sl;have hi:i<m:=by rw[<-sl b (d_ hb)];exact(aT e1).1
 unfold kD;rw[iI hi hb e1,cN,cN,e1,aG];show (true&&(!(IN zs).isEmpty&&(!decide ((IN zs).getD 0 0=(i:Int))&&Fm hs (IN zs) (c_ m L ss ls b h (IN zs) zs.length))))=true;rw[w];unfold Fm;rw[aG,jk,jk,hd,cN];cases zs with
 |nil=>exact absurd rfl ne
 |cons c zs=>
  have n1:¬ ((c:Int)=(i:Int)):=fun z=>ni (eT z);simp only[cQ,List.isEmpty_cons,yI,jQ,List.getD_cons_zero,cH n1,bB he]
section
variable {n:Nat} {g:Nat->List Nat} {hs ns:List Int} {m L:Nat} {ss ls:Nat->List (Option Nat)}
structure gB(n:Nat)(g:Nat->List Nat)(hs:List Int)(L:Nat)(ss ls:Nat->List (Option Nat))(ns:List Int):Prop where
 r:iN n g hs L ss ls ns
 nf:∀b,b<L->NF n g hs (ss b) (ls b)
 hm:∀h∈hs,0<=h/\h<n
 off:∀b,b<=L->∀i h,(ss b).getD i none=some h->hs.getD i 0≠(h:Int)
 sl:∀b,b<=L->(ss b).length=hs.length
theorem gB.home(N:gB n g hs L ss ls ns){b i h:Nat}(hb:b<=L)(e:(ss b).getD i none=some h):∃k:Nat,k<n/\hs.getD i 0=(k:Int)/\(hs.getD i 0).toNat=k/\k≠h/\h<n/\i<hs.length:=by
 have hi:i<hs.length:=by rw[<-N.sl b hb];exact(aT e).1
 have mm:hs.getD i 0∈hs:=by rw[bQ,bY hi];exact gJ _
 obtain⟨a,c⟩:=N.hm _ mm;have o:=N.off b hb i h e;refine⟨(hs.getD i 0).toNat,by lia,by lia,rfl,by lia,N.r.lt b hb i h e,hi⟩
theorem iO{i h o:Nat}:o∈dw n g hs i h↔o∈g h/\dH n g hs i o<dH n g hs i h:=by
 unfold dw;rw[bX,fc]
theorem zW(F:eW n (bf n g)){i h:Nat}(hh:h<n)(hk:(hs.getD i 0).toNat<n)(ne:(hs.getD i 0).toNat≠h):∃o l,dw n g hs i h=o::l:=by
 have fs:=F.EA hh hk;cases e:dH n g hs i h with
 |zero=>
  unfold dH at e;rw[e] at fs;exact absurd fs.1.symm ne
 |succ d=>
  unfold dH at e;rw[e] at fs;obtain⟨b,t,w⟩:=dg.zE fs.1;have tl:=F.AQ t;have:=F.zF tl.2.1 hk w;have mb:b∈dw n g hs i h:=iO.mpr ⟨(vH.mp t).2,by unfold dH;rw[e];lia⟩;cases z:dw n g hs i h with
  |nil=>rw[z] at mb;cases mb
  |cons o l=>exact⟨o,l,rfl⟩
theorem kG{s l:List (Option Nat)}{i h o:Nat}(e1:s.getD i none=some h)(e2:l.getD i none=some o):g7 n g hs s l i=decide (dH n g hs i h<=dH n g hs i o):=by
 unfold g7;rw[e1,e2]
theorem tU{s l:List (Option Nat)}{i:Nat}(h:g7 n g hs s l i=true):∃x o,s.getD i none=some x/\l.getD i none=some o:=by
 unfold g7 at h;cases e1:s.getD i none with
 |none=>rw[e1] at h;cases h
 |some x=>
  cases e2:l.getD i none with
  |none=>rw[e1,e2] at h;cases h
  |some o=>exact⟨x,o,rfl,rfl⟩
theorem gB.taker(N:gB n g hs L ss ls ns)(F:eW n (bf n g)){b i:Nat}(hb:b<L)(led:g7 n g hs (ss b) (ls b) i=true):
  ∃h o' o l j,(ss b).getD i none=some h/\(ls b).getD i none=some o'/\o'∈g h/\h<n/\dw n g hs i h=o::l/\kE n g hs ss ls b i=j/\(ss b).getD j none=some h/\(ls b).getD j none=some o/\o∈g h/\dH n g hs i o<dH n g hs i h/\¬ dH n g hs i o'<dH n g hs i h/\dH n g hs j o<dH n g hs j h:=by
 obtain⟨h,o',e1,e2⟩:=tU led;obtain⟨k,k1,k2,k3,k4,k5,_⟩:=N.home (d_ hb) e1;obtain⟨o,l,eg⟩:=zW F (hs:=hs) (i:=i) k5 (by rw[k3];exact k1) (by rw[k3];exact k4);have mo:o∈dw n g hs i h:=by rw[eg];exact cq
 obtain⟨j,j1,j2,j3⟩:=N.nf b hb i h e1 led o mo;obtain⟨o2,e3,m2⟩:=(N.r.tie b hb).tie i h e1;rw[e2] at e3;cases e3;refine⟨h,o',o,l,j,e1,e2,m2,k5,eg,?_,j1,j2,(iO.mp mo).1,(iO.mp mo).2,?_,j3⟩
 .unfold kE;rw[ao led,e1];show Tv (ss b) (ls b) h ((dw n g hs i h).headD 0)=j;rw[eg];exact MX (N.r.tie b hb) j1 j2
 .rw[kG e1 e2,fc] at led;lia
theorem gB.next(N:gB n g hs L ss ls ns){b c h o:Nat}(hb:b<L)(e1:(ss b).getD c none=some h)(e2:(ls b).getD c none=some o)(nh:kF hs (ls b) c≠true):(ss (b+1)).getD c none=some o:=by
 have:=N.r.next b hb c (by rw[e1];intro z;cases z);rw[this,e2];unfold kF at nh;rw[e2] at nh;have nh':¬ ((o:Int)=hs.getD c 0):=fun z=>nh (bB z);exact ap nh'
structure Tr(n:Nat)(g:Nat->List Nat):Prop where
 sym:∀h o,h<n->o<n->(o∈g h->h∈g o)
 br:∀u w,u<n->w∈g u->∃A:Nat->Prop,A u/\¬ A w/\∀x y,x<n->y∈g x->A x->¬ A y->x=u/\y=w
inductive Nb (n:Nat) (g:Nat->List Nat):Nat->Nat->Nat->Nat->Prop where
 |one {a b:Nat} (ha:a<n) (t:b∈g a):Nb n g 0 a b b
 |cons {k a b c e:Nat} (ha:a<n) (t:b∈g a) (ne:c≠a) (r:Nb n g k b c e):Nb n g (k+1) a b e
inductive Av (n:Nat) (g:Nat->List Nat) (A:Nat->Prop):Nat->Nat->Prop where
 |refl {x:Nat} (h:¬ A x):Av n g A x x
 |step {x y z:Nat} (r:Av n g A x y) (hy:y<n) (t:z∈g y) (h:¬ A z):Av n g A x z
theorem Av.not{A:Nat->Prop}{x y:Nat}(v:Av n g A x y):¬ A y:=by
 cases v with
 |refl h=>exact h
 |step _ _ _ h=>exact h
def Zp(n:Nat)(g:Nat->List Nat)(u w:Nat)(A:Nat->Prop):Prop:=A u/\¬ A w/\∀x y,x<n->y∈g x->A x->¬ A y->x=u/\y=w
theorem QQ(T:Tr n g)(lt:∀h,h<n->∀o∈g h,o<n){k a b e:Nat}(w:Nb n g k a b e):∀A,Zp n g a b A->Av n g A b e:=by
 induction w with
 |one ha t=>intro A B;exact .refl B.2.1
 |@cons k a b c e ha t ne r ih=>
  intro A B;have hb:=lt a ha b t;have tc:c∈g b:=by cases r <;> assumption
  have hc:=lt b hb c tc;obtain⟨A2,B2⟩:=T.br b c hb tc;have v2:=ih A2 B2;have a2:A2 a:=sv fun z=>by
   have:=B2.2.2 b a hb (T.sym a b ha hb t) B2.1 z;exact ne this.2.symm
  have nc:¬ A c:=fun z=>by
   have:=B.2.2 c b hc (T.sym b c hb hc tc) z B.2.1;exact ne this.1
  have go:∀y,Av n g A2 c y->Av n g A b y:=by
   intro y v;induction v with
   |refl h=>exact .step (.refl B.2.1) hb tc nc
   |@step y z r hy t h Te=>
    refine .step Te hy t fun az=>?_;have hz:=lt y hy z t;have:=B.2.2 z y hz (T.sym y z hy hz t) az Te.not;rw[this.1] at h;exact h a2
  exact go e v2
theorem FG{A:Nat->Prop}{a b e:Nat}(B:Zp n g a b A):∀ {m x:Nat},dg (bf n g) m x e->A x->¬ A e->∃m',m'<m/\dg (bf n g) m' b e
 |0,x,w,ax,ne=>absurd (show A e by rw[<-(show x=e from w)];exact ax) ne
 |m+1,x,w,ax,ne=>by
  obtain⟨y,t,w'⟩:=dg.zE w;obtain⟨hx,hm⟩:=vH.mp t;by_cases ay:A y
  .obtain⟨m',h1,h2⟩:=FG B w' ay ne;exact⟨m',by lia,h2⟩
  .obtain⟨_,rfl⟩:=B.2.2 x y hx hm ax ay;exact⟨m,jK _,w'⟩
theorem MY(T:Tr n g)(lt:∀h,h<n->∀o∈g h,o<n){k a b e:Nat}(w:Nb n g k a b e):∀m,dg (bf n g) m a e->k+1<=m:=by
 induction w with
 |@one a b ha t=>
  intro m wm;obtain⟨A,B⟩:=T.br a b ha t;obtain⟨m',h1,_⟩:=FG B wm B.1 B.2.1;lia
 |@cons k a b c e ha t ne r ih=>
  intro m wm;obtain⟨A,B⟩:=T.br a b ha t;have v:=QQ T lt (.cons ha t ne r) A B;obtain⟨m',h1,h2⟩:=FG B wm B.1 v.not;have:=ih m' h2;lia
theorem Bb{hs:List Int}{ls:Nat->List (Option Nat)}{nx:Nat->Nat->Nat}:∀ {k b c:Nat} {zs:List Nat},vM hs ls nx k b c=some zs->zs.length<=k
 |0,_,_,_,h=>by cases h
 |k+1,b,c,zs,h=>by
  unfold vM at h;by_cases e:kF hs (ls b) c=true
  .rw[ao e] at h;cases h;simp
  .rw[ap e] at h;obtain⟨vW,h',rfl⟩:=oA.mp h;have:=Bb h';rw[cG];lia
theorem zX(N:gB n g hs L ss ls ns)(F:eW n (bf n g)):∀ (k b c h o:Nat) (zs:List Nat),k=L-b->b<L->(ss b).getD c none=some h->(ls b).getD c none=some o->o∈g h->dH n g hs c o<dH n g hs c h->
  vM hs ls (kE n g hs ss ls) k b c=some zs->∃e:Nat,e<n/\mY hs L ss ls b h zs e/\(∃m,zs.length=m+1/\Nb n g m h o e)/\zs.headD 0=c:=by
 intro k;induction k with
 |zero=>intro b c h o zs _ _ _ _ _ _ z;cases z
 |succ k ih=>
  intro b c h o zs hk hb e1 e2 mo dl z;have hn:=N.r.lt b (d_ hb) c h e1;have on:=(F.AQ (vH.mpr ⟨hn,mo⟩)).2.1;unfold vM at z;by_cases hm:kF hs (ls b) c=true
  .rw[ao hm] at z;cases z;unfold kF at hm;rw[e2] at hm;exact⟨o,on,.last hb e1 e2 (b9 hm),⟨0,rfl,.one hn mo⟩,rfl⟩
  .rw[ap hm] at z;obtain⟨vW,z',rfl⟩:=oA.mp z;have Qw:b+1<L:=by
    refine Nat.lt_of_not_le fun y=>?_;rw[show k=0 by lia] at z';cases z'
   have e3:=N.next hb e1 e2 hm;have fin:∀c' o2:Nat,kE n g hs ss ls (b+1) c=c'->(ss (b+1)).getD c' none=some o->(ls (b+1)).getD c' none=some o2->o2∈g o->dH n g hs c o2<dH n g hs c o->dH n g hs c' o2<dH n g hs c' o->
     ∃e:Nat,e<n/\mY hs L ss ls b h (c::vW) e/\(∃m,(c::vW).length=m+1/\Nb n g m h o e)/\(c::vW).headD 0=c:=by
    intro c' o2 x1 x2 x3 x4 x5 x6;rw[x1] at z';obtain⟨e,a1,a2,⟨m,a3,a4⟩,_⟩:=ih (b+1) c' o o2 vW (by lia) Qw x2 x3 x4 x6 z';refine⟨e,a1,.cons hb e1 e2 a2,⟨m+1,by rw[cG,a3],.cons hn mo (fun y=>?_) a4⟩,rfl⟩;rw[y] at x5;lia
   by_cases led:g7 n g hs (ss (b+1)) (ls (b+1)) c=true
   .obtain⟨h',o',o2,l,j,f1,f2,f3,f4,f5,f6,f7,f8,f9,Wf,Zq,Wg⟩:=N.taker F Qw led;obtain rfl:o=h':=by rw[e3] at f1;exact aY f1
    exact fin j o2 f6 f7 f8 f9 Wf Wg
   .obtain⟨o2,f1,f2⟩:=(N.r.tie (b+1) Qw).tie c o e3;have nl:=led;rw[kG e3 f1,fc] at nl;exact fin c o2 (by unfold kE;rw[ap led]) e3 f1 f2 (by lia) (by lia)
theorem Bc(N:gB n g hs L ss ls ns)(F:eW n (bf n g))(T:Tr n g){b i:Nat}{zs:List Nat}(z:FF n g hs L ss ls b i=some zs):
  ∃ (h o' e d:Nat),b<L/\i<hs.length/\(ss b).getD i none=some h/\(ls b).getD i none=some o'/\h<n/\o'<n/\e<n/\kD hs hs.length L ss ls i b (IN zs)=true/\zs.getD (zs.length-1) 0=d/\d<hs.length/\hs.getD d 0=(e:Int)/\zs.length<=far (bf n g) o' e/\zs≠[]/\zs.length<=L:=by
 unfold FF at z;by_cases c0:b<L/\g7 n g hs (ss b) (ls b) i=true
 rotate_left
 .rw[ap c0] at z;cases z
 rw[ao c0] at z;obtain⟨hb,led⟩:=c0;obtain⟨h,o',o,l,j,f1,f2,f3,f4,f5,f6,f7,f8,f9,Wf,Zq,Wg⟩:=N.taker F hb led;obtain⟨qi,i1,i2,i3,i4,_,il⟩:=N.home (d_ hb) f1;have lt:∀h,h<n->∀o∈g h,o<n:=fun h hh o ho=>(F.AQ (vH.mpr ⟨hh,ho⟩)).2.1;have Tw:=lt h f4 o' f3;rw[f6] at z;obtain⟨e,a1,a2,⟨m,a3,a4⟩,a5⟩:=zX N F (L-b) b j h o zs rfl hb f7 f8 f9 Wg z;have Zr:o≠o':=fun y=>Zq (by rw[<-y];exact Wf);have nij:j≠i:=by
  rintro rfl;rw[f2] at f8;cases f8;exact Zr rfl
 obtain⟨w,ne,dd,hd,he⟩:=a2.walk (m:=hs.length) N.sl;have ch:=a2.chain (m:=hs.length) N.sl hb f1 (by rw[a5];exact nij);refine⟨h,o',e,dd,hb,il,f1,f2,f4,Tw,a1,ch,hd,?_,he.symm,?_,ne,bj (Bb z) (Nat.sub_le _ _)⟩
 .obtain⟨d2,o2,h2,zd,A7,Ch⟩:=zU N.r ch;rw[aG,jk,hd] at zd;have:=Ch.dm;have:=eT zd;lia
 .have wf:=(F.EA Tw a1).1;have:=MY T lt (.cons Tw (T.sym h o' f4 Tw f3) Zr a4) _ wf;lia
end
def FH(g:Nat->List Nat)(v s:Nat):Nat->List Nat:=dZ (dZ g (v,s)) (s,v)
theorem kH{g:Nat->List Nat}{v s x y:Nat}(ne:v≠s):y∈FH g v s x↔y∈g x\/(x=v/\y=s)\/(x=s/\y=v):=by
 unfold FH dZ;by_cases e1:x=s
 .subst e1;have e2:¬ x=v:=fun z=>ne z.symm;simp[e2]
 .by_cases e2:x=v
  .subst e2;simp[e1]
  .simp[e1,e2]
theorem CN{g:Nat->List Nat}{v s:Nat}(ne:v≠s)(hv:g v=[])(nv:v∉g s)(hl:(g s).length<8):FH g v s=gT g [v,s]:=by
 have hp:zP [v,s]=[(s,v),(v,s)]:=rfl;have hc:ji g [v,s]=true:=by
  unfold ji;rw[hp];simp only[iW,List.all_nil,Bool.and_true,dX,lJ];refine⟨⟨nv,hl⟩,?_,?_⟩
  .rw[hv];simp
  .rw[hv];decide
 unfold gT;rw[ao hc,hp];funext x;show dZ (dZ g (v,s)) (s,v) x=dZ (dZ g (s,v)) (v,s) x;unfold dZ;by_cases e1:x=s
 .subst e1;have e2:¬ x=v:=fun z=>ne z.symm;simp[e2]
 .by_cases e2:x=v
  .subst e2;simp[e1]
  .simp[e1,e2]
theorem IW{n:Nat}:Tr n fun _=>[]:=⟨(fun _ _ _ _ h=>nomatch h),(fun _ _ _ h=>nomatch h)⟩
theorem IX{n:Nat}{g:Nat->List Nat}{v s:Nat}(T:Tr n g)(ne:v≠s)(hv:g v=[])(nv:∀x,x<n->v∉g x)(lt:∀h,h<n->∀o∈g h,o<n)(vn:v<n)(sn:s<n):Tr n (FH g v s):=by
 refine⟨fun h o hh ho m=>?_,fun u w hu m=>?_⟩
 .rw[kH ne] at m |-;rcases m with m|⟨a,b⟩|⟨a,b⟩
  .exact .inl (T.sym h o hh ho m)
  .exact .inr (.inr ⟨b,a⟩)
  .exact .inr (.inl ⟨b,a⟩)
 .rw[kH ne] at m;rcases m with m|⟨rfl,rfl⟩|⟨rfl,rfl⟩
  .obtain⟨A,B1,B2,B3⟩:=T.br u w hu m;have uv:u≠v:=fun z=>by rw[z,hv] at m;cases m
   have wv:w≠v:=fun z=>nv u hu (by rw[<-z];exact m);have ev:∀x,x≠v->((if x=v then A s else A x)↔A x):=fun x hx=>by rw[ap hx]
   have Zt:(if v=v then A s else A v)↔A s:=by rw[ao rfl]
   refine⟨fun x=>if x=v then A s else A x,(ev u uv).mpr B1,fun z=>B2 ((ev w wv).mp z),fun x y hx my ax ay=>?_⟩;rw[kH ne] at my;rcases my with my|⟨rfl,rfl⟩|⟨rfl,rfl⟩
   .have xv:x≠v:=fun z=>by rw[z,hv] at my;cases my
    have yv:y≠v:=fun z=>nv x hx (by rw[<-z];exact my);exact B3 x y hx my ((ev x xv).mp ax) fun z=>ay ((ev y yv).mpr z)
   .exact absurd ((ev y (fun z=>ne z.symm)).mpr (Zt.mp ax)) ay
   .exact absurd (Zt.mpr ((ev x (fun z=>ne z.symm)).mp ax)) ay
  .refine⟨fun x=>x=u,rfl,fun z=>ne z.symm,fun x y hx my ax ay=>?_⟩;obtain rfl:x=u:=ax;rw[kH ne] at my;rcases my with my|⟨_,rfl⟩|⟨z,_⟩
   .rw[hv] at my;cases my
   .exact⟨rfl,rfl⟩
   .exact absurd z ne
  .refine⟨fun x=>x≠w,fun z=>ne z.symm,fun z=>z rfl,fun x y hx my ax ay=>?_⟩;have ay':y=w:=sv ay;subst ay';rw[kH ne] at my;rcases my with my|⟨z,_⟩|⟨rfl,_⟩
   .exact absurd my (nv x hx)
   .exact absurd z ax
   .exact⟨rfl,rfl⟩
theorem Tr.round{n:Nat}{g:Nat->List Nat}(T:Tr n g)(G:fh n g):Tr n (gr n g):=by
 have m:∀h o,h<n->(o∈gr n g h↔o∈g h):=fun h o hh=>(gA G hh).mem_iff;refine⟨fun h o hh ho z=>(m o h ho).mpr (T.sym h o hh ho ((m h o hh).mp z)),fun u w hu z=>?_⟩;obtain⟨A,a,b,c⟩:=T.br u w hu ((m u w hu).mp z);exact⟨A,a,b,fun x y hx my=>c x y hx ((m x y hx).mp my)⟩
abbrev MZ:Stmt:=gG 47
abbrev Wi:Stmt:=gG 48
abbrev Wj:Stmt:=gG 50
theorem IY{β:Type}{K:PySem.W.Frag}{a D:Addr}{g:TG}{tt:TT}{te:TE}{fin:Hp->Prop}{σB:St}{H0:Hp}(ms:List β)(e G:β->V)(dB:St->Prop)(ha:H0 a=some (.lst (ms.map e)))(hD:H0 D=none)(hn:ms.length<=1000)(h0:dB σB)(hs:∀m σ H (R:V->St->Hp->Prop) (Kf:St->Hp->Prop),m∈ms->dB σ->aM H0 H->(∀σ2 H2,dB σ2->aM H H2->R (G m) σ2 H2)->
   g (e m) σ H fun σ2 H2=>tt σ2 H2 fun b H3=>if b=true then te σ2 H3 fun v H4=>R v σ2 H4 else Kf σ2 H3)(hd:∀H,aM H0 H->H D=some (.lst (ms.map G))->fin H):ig (Ds K a) g tt te D fin σB (upd H0 D (.lst [])):=by
 refine ff (xs:=ms.map e) (fun i ys σ H=>dB σ/\aM H0 H/\H D=some (.lst ys)/\ys=(ms.take i).map G) ⟨h0,aj hD,af,rfl⟩ (fun i ys σ H _ z=>aV.of (z.2.1 _ _ ha)) ?_ ?_
 .rintro i x ys σ H Kt Kf hx ⟨sh,sm,n_,rfl⟩ kt kf;rw[bq] at hx;cases hz:ms[i]? with
  |none=>rw[hz] at hx;cases hx
  |some m=>
   rw[hz] at hx;obtain rfl:e m=x:=aY hx;refine hs m σ H Kt Kf (dW hz) sh sm (fun σ2 H2 Cv s2=>?_);refine kt _ _ _ (s2 _ _ n_) ?_ ⟨Cv,dU.bU (sm.trans s2) hD,af,?_⟩
   .rw[aG];exact gq (List.length_take_le' _ _) (gq hn (by decide))
   .rw[hX,hz,Option.toList_some,cP];rfl
 .rintro ys σ H ⟨_,sm,n_,rfl⟩;rw[aG,h9] at n_;exact hd H sm n_
theorem pO{K:PySem.W.Frag}{a D:Addr}{os:List Nat}{g:TG}{tt:TT}{te:TE}{fin:Hp->Prop}{σB:St}{H0:Hp}(c:Nat->Bool)(dB:St->Prop)(ha:H0 a=some (.lst (NV os)))(hD:H0 D=none)(hn:os.length<=1000)(h0:dB σB)(hs:∀x σ H (Kt:V->St->Hp->Prop) (Kf:St->Hp->Prop),x∈os->dB σ->aM H0 H->(∀σ2 H2,dB σ2->aM H H2->c x=true->Kt (.int (x:Nat)) σ2 H2)->(∀σ2 H2,dB σ2->aM H H2->c x=false->Kf σ2 H2)->
   g (.int (x:Nat)) σ H fun σ2 H2=>tt σ2 H2 fun b H3=>if b=true then te σ2 H3 fun v H4=>Kt v σ2 H4 else Kf σ2 H3)(hd:∀H,aM H0 H->H D=some (.lst (NV (os.filter c)))->fin H):ig (Ds K a) g tt te D fin σB (upd H0 D (.lst [])):=by
 refine ff (xs:=NV os) (fun i ys σ H=>dB σ/\aM H0 H/\H D=some (.lst ys)/\ys=NV ((os.take i).filter c)) ⟨h0,aj hD,af,rfl⟩ (fun i ys σ H _ z=>aV.of (z.2.1 _ _ ha)) ?_ ?_
 .rintro i x ys σ H Kt Kf hx ⟨sh,sm,n_,rfl⟩ kt kf;obtain⟨y,hy,rfl⟩:=IQ hx;have tk:os.take (i+1)=os.take i++[y]:=by rw[hX,hy];rfl
  refine hs y σ H Kt Kf (dW hy) sh sm (fun σ2 H2 Cv s2 e=>?_) (fun σ2 H2 Cv s2 e=>?_)
  .refine kt _ _ _ (s2 _ _ n_) ?_ ⟨Cv,dU.bU (sm.trans s2) hD,af,?_⟩
   .rw[aG];exact gq (bj (jG _ _) (List.length_take_le' _ _)) (gq hn (by decide))
   .rw[tk,jJ,show [y].filter c=[y] by simp[jL,e],gZ]
  .refine kf _ _ ⟨Cv,sm.trans s2,s2 _ _ n_,?_⟩;rw[tk,jJ,show [y].filter c=[] by simp[jL,e],nu]
 .rintro ys σ H ⟨_,sm,n_,rfl⟩;rw[show (NV os).length=os.length from aG _,h9] at n_;exact hd H sm n_
theorem xz{K:PySem.W.Frag}{a D:Addr}{xs:List V}{g:TG}{tt:TT}{te:TE}{fin:Hp->Prop}{σB:St}{H0:Hp}(c:Nat->Bool)(dB:St->Prop)(ha:H0 a=some (.tup xs))(hD:H0 D=none)(hn:xs.length<=1000)(h0:dB σB)(hs:∀ (i:Nat) x t σ H (Kt:V->St->Hp->Prop) (Kf:St->Hp->Prop),xs[i]?=some x->dB σ->aM H0 H->H t=some (.tup [.int (i:Int),x])->(∀σ2 H2,dB σ2->aM H H2->c i=true->Kt (.int (i:Nat)) σ2 H2)->(∀σ2 H2,dB σ2->aM H H2->c i=false->Kf σ2 H2)->
   g (.ref t) σ H fun σ2 H2=>tt σ2 H2 fun b H3=>if b=true then te σ2 H3 fun v H4=>Kt v σ2 H4 else Kf σ2 H3)(hd:∀H,aM H0 H->H D=some (.lst (NV ((List.range xs.length).filter c)))->fin H):ig (Hz K a) g tt te D fin σB (upd H0 D (.lst [])):=by
 refine qP (xs:=xs) (fun i ys σ H=>dB σ/\aM H0 H/\H D=some (.lst ys)/\ys=NV ((List.range i).filter c)) ⟨h0,aj hD,af,rfl⟩ (fun i ys σ H _ z=>cR.of (z.2.1 _ _ ha)) ?_ ?_
 .rintro i x t ys σ H Kt Kf hx ⟨sh,sm,n_,rfl⟩ ht kt kf;have st:=aj (o:=.tup [.int (i:Int),x]) ht;have hi:i<xs.length:=(cM.mp hx).1;refine hs i x t σ _ Kt Kf hx sh (sm.trans st) af (fun σ2 H2 Cv s2 e=>?_) (fun σ2 H2 Cv s2 e=>?_)
  .refine kt _ _ _ (s2 _ _ (st _ _ n_)) ?_ ⟨Cv,dU.bU ((sm.trans st).trans s2) hD,af,?_⟩
   .rw[aG];exact gq (bj (jG _ _) (by rw[fq];exact d_ hi)) (gq hn (by decide))
   .rw[mB,jJ,show [i].filter c=[i] by simp[jL,e],gZ]
  .refine kf _ _ ⟨Cv,(sm.trans st).trans s2,s2 _ _ (st _ _ n_),?_⟩;rw[mB,jJ,show [i].filter c=[] by simp[jL,e],nu]
 .rintro ys σ H ⟨_,sm,n_,rfl⟩;exact hd H sm n_
theorem gh:(["_law_other","_law_fars_here","_law_home","_law_house"]:List Str).Nodup:=by decide +kernel
theorem dN:(["_law_j","_law_here","_law_stand","_law_i","_law_gone","_law_house"]:List Str).Nodup:=by decide +kernel
theorem vN{a b:Option Nat}:decide (jF a=jF b)=decide (a=b):=by
 rw[iT,fc,fc];exact⟨IA,fun z=>by rw[z]⟩
theorem mZ{n:Nat}{hs:List Int}(hm:∀h∈hs,0<=h/\h<n){i:Nat}(hi:i<hs.length):∃k:Nat,k<n/\hs.getD i 0=(k:Int)/\(hs.getD i 0).toNat=k:=by
 have mm:hs.getD i 0∈hs:=by rw[bQ,bY hi];exact gJ _
 obtain⟨a,c⟩:=hm _ mm;exact⟨(hs.getD i 0).toNat,by lia,by lia,rfl⟩
section
variable {P:Program} {w:World} {K:PySem.W.Frag} {mg:Str->Option Value} {base:Heap}
theorem KI:aI ["_law_fars_here","_law_homes","_law_stand","_law_gone","_law_i","_law_far_here"] ["_law_fars_here","_law_homes","_law_stand","_law_gone","_law_i"] (am MZ):=⟨rfl,rfl,rfl,by decide +kernel,rfl,by decide +kernel,by decide +kernel⟩
def FI:Sp:=fun vs H Q _=>∃ (r a S G:Addr) (ds:List Addr) (n:Nat) (g:Nat->List Nat) (hs:List Int) (s l:List (Option Nat)) (i:Nat),vs=[.ref r,.ref a,.ref S,.ref G,.int i]/\e_ H r ds n g/\H a=some (.tup (HV hs))/\H S=some (.tup (SV s))/\H G=some (.tup (SV l))/\s.length=hs.length/\dk g s l/\fh n g/\(∀i h,s.getD i none=some h->h<n)/\(∀h∈hs,0<=h/\h<n)/\i<hs.length/\Q (.bl (g7 n g hs s l i)) H
theorem M0{f:Addr}{fd:FuncData}(F:fX K "_law_is_led" "_law_is_led" MZ f fd):bz P w K mg base be 1 f fd ["_law_fars_here","_law_homes","_law_stand","_law_gone","_law_i"] FI:=by
 refine F.ok KI (fun vs H Q E h=>?_) (fun dQ A outer s0 H vs Q E hr h=>?_)
 .obtain⟨r,a,S,G,ds,n,g,hs,s,l,i,rfl,_⟩:=h;rfl
 .obtain⟨r,a,S,G,ds,n,g,hs,s,l,i,rfl,FR,ha,hS,hG,sl,Hd,Gd,OM,hm,hi,q⟩:=h;have oP:=hr.u (n:=1);refine⟨_,(ah (bx (PW.pt (oH (aK jY (aA a9 (pv 2) (pv 4) (fun _ _=>rfl)) cu (aO _)) (l0 (aK eM (aA a9 (pv 3) (pv 4) (fun _ _=>rfl)) (aA a9 (pv 2) (pv 4) (fun _ _=>rfl)) (aO _))))) (al (aH fW)) aS)
   (ah (aL (i:=5) KI.nd rfl (Or.inl rfl) (cx oP (pv 0) (aA a9 (pv 1) (pv 4) (fun _ _=>rfl)) (fun _ _=>rfl)))
   (al (aH (dG Dy (cx oP (pv 5) (aA a9 (pv 3) (pv 4) (fun _ _=>rfl)) (fun _ _=>rfl)) (cx oP (pv 5) (aA a9 (pv 2) (pv 4) (fun _ _=>rfl)) (fun _ _=>rfl)) (aO _)))))),?_⟩
  have kU:fR (SV s) (i:Int)=some (jF (s.getD i none)):=dM (by lia);have rP:fR (SV l) (i:Int)=some (jF (l.getD i none)):=dM (by rw[Hd.len];lia);refine⟨_,rfl,_,rfl,S,_,_,_,rfl,rfl,cR.of hS,kU,rfl,_,rfl,?_⟩;cases es:s.getD i none with
  |none=>
   refine bR (fun _=>?_) (fun e=>absurd (bB rfl) e);have e2:g7 n g hs s l i=false:=by unfold g7;rw[es]
   rw[e2] at q;exact mV q
  |some h=>
   rw[es] at kU;obtain⟨o,eo,mo⟩:=Hd.tie i h es;rw[eo] at rP;have hn:=OM i h es;obtain⟨on,one⟩:=Gd.lt h hn o mo;obtain⟨k,hk,ek,Gy⟩:=mZ hm hi;refine bR (fun e=>absurd (b9 e) (by intro z;cases z)) (fun _=>?_);refine⟨_,rfl,_,rfl,G,_,_,_,rfl,rfl,cR.of hG,rP,_,rfl,_,rfl,S,_,_,_,rfl,rfl,cR.of hS,kU,rfl,_,rfl,?_⟩;refine bR (fun e=>absurd (eT (V.int.inj (b9 e))) one) (fun _=>?_);refine⟨_,rfl,_,rfl,_,rfl,a,_,_,_,rfl,rfl,cR.of ha,jy hi,r,_,rfl,by rw[ek];exact FR.get hk,?_⟩;refine⟨_,rfl,_,rfl,_,rfl,G,_,_,_,rfl,rfl,cR.of hG,rP,_,_,rfl,((FR.rows k hk).get on),_,rfl,_,rfl,_,rfl,S,_,_,_,rfl,rfl,cR.of hS,kU,_,_,rfl,((FR.rows k hk).get hn),_,_,rfl,rfl,?_⟩;rw[kG es eo] at q;unfold dH at q;rw[Gy] at q;have e3:decide (((far (bf n g) h k:Nat):Int)<=((far (bf n g) o k:Nat):Int))=decide (far (bf n g) h k<=far (bf n g) o k):=qc.mpr (by lia);show Q (V.bl (decide (((far (bf n g) h k:Nat):Int)<=((far (bf n g) o k:Nat):Int)))) H;rw[e3];exact q
theorem Wk:aI ["_law_outs","_law_fars_here","_law_home","_law_house"] ["_law_outs","_law_fars_here","_law_home","_law_house"] (am Wi):=⟨rfl,rfl,rfl,by decide +kernel,rfl,by decide +kernel,by decide +kernel⟩
def IZ:Sp:=fun vs H Q _=>∃ (O r:Addr) (as ds:List Addr) (n:Nat) (g:Nat->List Nat) (k h:Nat),vs=[.ref O,.ref r,.int k,.int h]/\fA H O as n g/\e_ H r ds n g/\fh n g/\k<n/\h<n/\∀ (D:Addr) (H':Hp),aM H H'->H D=none->H' D=some (.lst (NV ((g h).filter fun o=>decide (far (bf n g) o k<far (bf n g) h k))))->Q (.ref D) H'
theorem QR{f:Addr}{fd:FuncData}(F:fX K "_law_goods" "_law_goods" Wi f fd):bz P w K mg base be 1 f fd ["_law_outs","_law_fars_here","_law_home","_law_house"] IZ:=by
 refine F.ok Wk (fun vs H Q E h=>?_) (fun dQ A outer s0 H vs Q E hr h=>?_)
 .obtain⟨O,r,as,ds,n,g,k,h,rfl,_⟩:=h;rfl
 .obtain⟨O,r,as,ds,n,g,k,h,rfl,OF,FR,Gd,hk,hh,q⟩:=h;have oP:=hr.u (n:=1);refine'⟨_,(al (aH ?c1)),?_⟩;case c1=>
   refine' cK (g:=(bH 0)) (tt:=(jZ (mE (BF fun i j=>.bl (decide (i<j))) (qK (qK (bb 1) (bb 2)) (bb 0)) (qK (qK (bb 1) (bb 2)) (bb 3))))) (te:=(bb 0)) (NB:=["_law_other","_law_fars_here","_law_home","_law_house"]) (src:=[none,some 1,some 2,some 3]) (cj (by kernel_rfl)) rfl (cJ (cx oP (pv 0) (pv 3) (fun _ _=>rfl))) ?g ?t ?e;case g=>exact fun cl C s₃ H₃ fp=>(aF (i:=0) gh rfl (Or.inl rfl) (Or.inr rfl))
   case t=>exact fun cl C s₃ H₃ fp=>eF (aK oI (cx oP (cx oP (pv 1) (pv 2) (fun _ _=>rfl)) (pv 0) (fun _ _=>rfl)) (cx oP (cx oP (pv 1) (pv 2) (fun _ _=>rfl)) (pv 3) (fun _ _=>rfl)) (aO _))
   case e=>exact fun cl C s₃ H₃ fp=>(pv 0)
  refine⟨_,rfl,_,rfl,O,_,rfl,OF.get hh,_,rfl,⟨_,aV.of (OF.rows.2 h hh)⟩,fun D hD=>?_⟩;have l8:=Gd.le h hh;refine pO (os:=g h) (fun o=>decide (far (bf n g) o k<far (bf n g) h k)) (fun σ=>∃b,σ=[b,some (.ref r),some (.int (k:Int)),some (.int (h:Int))]) (OF.rows.2 h hh) hD (by lia) ⟨_,rfl⟩ ?_ ?_
  .rintro x σ H5 Kt Kf hx ⟨b',rfl⟩ sm kt kf;have M3:=FR.same sm;have xn:=(Gd.lt h hh x hx).1;refine⟨_,rfl,_,rfl,r,_,rfl,M3.get hk,_,rfl,_,_,rfl,(M3.rows k hk).get xn,_,rfl,_,rfl,r,_,rfl,M3.get hk,_,rfl,_,_,rfl,(M3.rows k hk).get hh,_,_,rfl,rfl,_,rfl,?_⟩;refine bR (fun c=>?_) (fun c=>?_)
   .exact⟨_,rfl,kt _ _ ⟨_,rfl⟩ (aM.refl _) (bB (by have:=b9 c;lia))⟩
   .exact kf _ _ ⟨_,rfl⟩ (aM.refl _) (cH fun z=>c (bB (by lia)))
  .intro H5 sm M4;exact q D H5 sm hD M4
theorem Wl:aI ["_law_stand","_law_gone","_law_i","_law_house"] ["_law_stand","_law_gone","_law_i","_law_house"] (am Wj):=⟨rfl,rfl,rfl,by decide +kernel,rfl,by decide +kernel,by decide +kernel⟩
def M5:Sp:=fun vs H Q _=>∃ (S G:Addr) (g:Nat->List Nat) (s l:List (Option Nat)) (i h o j:Nat),vs=[.ref S,.ref G,.int i,.int o]/\H S=some (.tup (SV s))/\H G=some (.tup (SV l))/\s.length<=16/\dk g s l/\s.getD i none=some h/\s.getD j none=some h/\l.getD j none=some o/\∀H',aM H H'->Q (.int j) H'
theorem QS{f:Addr}{fd:FuncData}(F:fX K "_law_taker" "_law_taker" Wj f fd)(B:Bl mg):bz P w K mg base be 1 f fd ["_law_stand","_law_gone","_law_i","_law_house"] M5:=by
 refine F.ok Wl (fun vs H Q E h=>?_) (fun dQ A outer s0 H vs Q E hr h=>?_)
 .obtain⟨S,G,g,s,l,i,h,o,j,rfl,_⟩:=h;rfl
 .obtain⟨S,G,g,s,l,i,h,o,j,rfl,hS,hG,OG,Hd,ei,ej,eo,q⟩:=h;refine'⟨_,(al (aH (aA aB ?c1 aq (fun _ _=>rfl)))),?_⟩;case c1=>
   refine' cK (g:=(wn K 2 (gK (bH 0) (gK (bH 1) wg)))) (tt:=(O2 (jZ (mE (SN) (bb 1) (mE (BO K) (bb 2) (bb 3)))) (jZ (mE (SN) (mE (BO K) (bb 4) (bb 0)) (bb 5))))) (te:=(bb 0)) (NB:=["_law_j","_law_here","_law_stand","_law_i","_law_gone","_law_house"]) (src:=[none,none,some 0,some 2,some 1,some 3]) (cj (by kernel_rfl)) rfl (qO rfl B.enum (aa (pv 0) ag)) ?g ?t ?e;case g=>exact fun cl C s₃ H₃ fp=>(gL (n:=2) rfl (bu (aF (i:=0) dN rfl (Or.inl rfl) (Or.inr rfl)) (bu (aF (i:=1) dN rfl (Or.inl rfl) (Or.inr rfl)) ft)))
   case t=>exact fun cl C s₃ H₃ fp=>eF (PW.pt (yN (aK eM (pv 1) (aA a9 (pv 2) (pv 3) (fun _ _=>rfl)) (aO _)) (uJ (aK eM (aA a9 (pv 4) (pv 0) (fun _ _=>rfl)) (pv 5) (aO _)))))
   case e=>exact fun cl C s₃ H₃ fp=>(pv 0)
  refine⟨_,rfl,S,_,rfl,cR.of hS,fun D hD=>?_⟩;have hi:=(aT ei).1;have hj:=(aT ej).1;refine xz (xs:=SV s) (fun x=>decide (s.getD x none=some h)&&decide (l.getD x none=some o)) (fun σ=>∃b c,σ=[b,c,some (.ref S),some (.int (i:Int)),some (.ref G),some (.int (o:Int))]) hS hD (by rw[aG];lia) ⟨_,_,rfl⟩ ?_ ?_
  .rintro x v t σ H5 Kt Kf hx ⟨b,c,rfl⟩ sm ht kt kf;obtain⟨Tq,rfl⟩:=zQ hx;refine⟨_,_,rfl,cR.of ht,rfl,_,_,rfl,_,_,rfl,rfl,?_⟩;have kU:fR (SV s) (i:Int)=some (.int (h:Int)):=by rw[dM hi,ei];rfl
   refine⟨_,rfl,_,rfl,_,rfl,S,_,_,_,rfl,rfl,cR.of (sm _ _ hS),kU,kY,_,rfl,?_⟩;have e1:decide (jF (s.getD x none)=V.int (h:Int))=decide (s.getD x none=some h):=vN (b:=some h);rw[e1];refine bR (fun e=>?_) (fun e=>?_)
   .refine⟨_,rfl,_,rfl,G,_,_,_,rfl,rfl,cR.of (sm _ _ hG),dM (by rw[Hd.len];exact Tq),_,rfl,kY,_,rfl,?_⟩;have e2:decide (jF (l.getD x none)=V.int (o:Int))=decide (l.getD x none=some o):=vN (b:=some o);rw[e2];refine bR (fun e3=>?_) (fun e3=>?_)
    .exact⟨_,rfl,kt _ _ ⟨_,_,rfl⟩ (aM.refl _) (by rw[e,e3];rfl)⟩
    .exact kf _ _ ⟨_,_,rfl⟩ (aM.refl _) (by rw[uu.mpr e3,uA])
   .exact tP (kf _ _ ⟨_,_,rfl⟩ (aM.refl _) (by rw[uu.mpr e,nw]))
  .intro H5 sm M4;rw[aG] at M4;have mj:j∈(List.range s.length).filter (fun x=>decide (s.getD x none=some h)&&decide (l.getD x none=some o)):=bX.mpr ⟨bL.mpr hj,by rw[ej,eo];simp⟩;have all:∀x∈(List.range s.length).filter (fun x=>decide (s.getD x none=some h)&&decide (l.getD x none=some o)),x=j:=fun x hx=>by
    have:=(bX.mp hx).2;rw[dX,fc,fc] at this;exact Hd.Tn x j h o this.1 ej this.2 eo
   generalize (List.range s.length).filter _=fl at *;have M6:0<fl.length:=pW mj;have OI:fR (NV fl) 0=some (.int (j:Int)):=by
    have:=mU (js:=fl) (k:=0) M6;rw[all _ (gU M6)] at this;exact this
   exact⟨D,_,_,_,rfl,rfl,aV.of M4,OI,q H5 sm⟩
end
abbrev FJ:Stmt:=gG 40
theorem sk:(["_law_house","_law_outs"]:List Str).Nodup:=by decide +kernel
theorem cU.app{H:Hp}{O:Addr}{as:List Addr}{n:Nat}{g:Nat->List Nat}(h:cU H O as n g){x y:Nat}(hx:x<n):
  cU (upd H (as.getD x 0) (.lst (NV (g x)++[.int (y:Nat)]))) O as n (dZ g (x,y)):=by
 obtain⟨ks,o,d⟩:=h.dict;refine⟨⟨ks,o,?_⟩,⟨h.rows.1,fun j hj=>?_⟩,h.inj⟩
 .rw[ai (cA d (h.rows.2 x hx) (by intro z;cases z))];exact d
 .by_cases e:j=x
  .subst e;rw[af];show _=some (L2.HO.lst (NV (dZ g (j,y) j)));rw[kT];unfold NV;rw[cP];rfl
  .rw[ai (fun z=>e (h.inj j x hj hx z))];show _=some (L2.HO.lst (NV (dZ g (x,y) j)));rw[fz (p:=(x,y)) e];exact h.rows.2 j hj
section
variable {P:Program} {w:World} {K:PySem.W.Frag} {mg:Str->Option Value} {base:Heap}
theorem jm:aI ["_law_pot_here","_law_many","_law_way","_law_names","_law_outs","_law_k","_law_some","_law_other"] ["_law_pot_here","_law_many"] (am FJ):=⟨rfl,rfl,rfl,by decide +kernel,rfl,by decide +kernel,by decide +kernel⟩
def zY:Sp:=fun vs H Q _=>∃ (p:Addr) (n:Nat),vs=[.ref p,.int n]/\aW H p/\2<=n/\n<=24/\∀ (O:Addr) (as:List Addr) (g:Nat->List Nat) (H':Hp),E7 H H' O as n g->Tr n g->aR p H H'->aW H' p->Q (.ref O) H'
structure Gw(H:Hp)(p O nm:Addr)(as:List Addr)(n:Nat)(names:List Nat)(i:Nat)(g:Nat->List Nat)(Hc:Hp):Prop where
 outs:cU Hc O as n g
 se:aR p H Hc
 po:aW Hc p
 nm:Hc nm=some (.lst (NV names))
 gd:fh n g
 tr:Tr n g
 up:E3 names (i+1) g
 none:∀j,i+1<=j->j<n->g (names.getD j 0)=[]
 one:(g (names.getD i 0)).length<=1
theorem I0{f:Addr}{fd:FuncData}(F:fX K "_law_tree" "_law_tree" FJ f fd)(B:Bl mg)(T:cp P w K mg base be 1 "_law_take" ["_law_pot_here","_law_many"] ku)(SH:cp P w K mg base be 2 "_law_shuffled" ["_law_pot_here","_law_some"] (vz K)):bz P w K mg base be 3 f fd ["_law_pot_here","_law_many"] zY:=by
 refine F.ok jm (fun vs H Q E h=>?_) (fun dQ A outer s H vs Q E hr h=>?_)
 .obtain⟨p,n,rfl,_⟩:=h;rfl
 .obtain⟨p,n,rfl,hp,n2,n24,q⟩:=h;have Mu:b_ 1 _:=hr.mono (by decide);have oP:=hr.u (n:=1);refine'⟨_,(ah (aL (i:=2) jm.nd rfl (Or.inl rfl) (aE T Mu aQ (aa (pv 0) (aa aq ag))))
   (ah (aL (i:=3) jm.nd rfl (Or.inl rfl) (aE SH hr aQ (aa (pv 0) (aa (cV (zn rfl) (by rfl) B.lst ub (aa (cV wQ (by rfl) B.range PyProof.Rows.boot_range (aa (pv 1) ag)) ag)) ag))))
   (ah (aL (i:=4) jm.nd rfl (Or.inr rfl) (cV (qS rfl) (by rfl) B.dict PyProof.Rows.boot_dict (aa ?c1 ag)))
   (ah (dR eR rfl (nK rfl B.range (aa aq (aa (pv 1) ag))) (aF (i:=5) jm.nd rfl (Or.inl rfl))
    (ah (gQ (i:=6) (g:=(bH 0)) (tt:=(jZ (mE (BF fun i j=>.bl (decide (i<j))) (Pl (fun xs H Q=>∃p ys,xs=[V.ref p]/\(aV K H p ys\/cR K H p ys)/\Q (.int ys.length) H) (bT (qK (bb 1) (bb 0)) jB)) (tC (.int 8))))) (te:=(bb 0)) (NB:=["_law_house","_law_outs"]) (src:=[none,some 4]) (cj (by kernel_rfl)) rfl (cJ (qC uU (pv 3) uR (uS (pv 5)))) ?g2 ?t2 ?e2 jm.nd rfl rfl rfl)
    (ah (aL (i:=7) jm.nd rfl (Or.inl rfl) (aA aB (pv 6) (aE T Mu aQ (aa (pv 0) (aa (au aD (by rfl) B.len ce (aa (pv 6) ag)) ag))) (fun _ _=>rfl)))
    (ah (bx (aK eM (pv 2) aq (aO _)) (al (aL (i:=7) jm.nd rfl (Or.inl rfl) (aA aB (pv 6) (lv iw aq) (fun _ _=>rfl)))) aS)
    (ah (bx (aK eM (pv 2) aq (aO _)) (al (aL (i:=7) jm.nd rfl (Or.inl rfl) (aA aB (pv 6) aq (fun _ _=>rfl)))) aS)
    (ah (cw (gO gI jp jo cC (cx oP (pv 4) (aA aB (pv 3) (pv 5) (fun _ _=>rfl)) (fun _ _=>rfl)) (aa (pv 7) ag)))
    (al (cw (gO gI jp jo cC (cx oP (pv 4) (pv 7) (fun _ _=>rfl)) (aa (aA aB (pv 3) (pv 5) (fun _ _=>rfl)) ag))))))))))
   (al (aH (pv 4))))))),?_⟩
  case c1=>
   refine' cK (g:=(bH 0)) (te:=(y3 (bT (bb 0) (bT (Ln jB) jB)))) (NB:=["_law_house"]) (src:=[none]) (cj (by kernel_rfl)) rfl (dP rfl B.range (aa (pv 1) ag)) ?g ?t ?e;case g=>exact fun cl C s₃ H₃ fp=>(aF (i:=0) VZ rfl (Or.inl rfl) (Or.inr rfl))
   case t=>exact fun cl C s₃ H₃ fp=>fT
   case e=>exact fun cl C s₃ H₃ fp=>(fN (aa (pv 0) (aa (dS ag) ag)))
  case g2=>exact fun cl C s₃ H₃ fp=>(aF (i:=0) sk rfl (Or.inl rfl) (Or.inr rfl))
  case t2=>exact fun cl C s₃ H₃ fp=>eF (aK oI (au aD (by rfl) B.len ce (aa (cx oP (pv 1) (pv 0) (fun _ _=>rfl)) ag)) aq (aO _))
  case e2=>exact fun cl C s₃ H₃ fp=>(pv 0)
  refine⟨_,rfl,p,4,rfl,by decide,by decide,hp,fun A5 a b y0 y1 a0 b0 b1=>?_⟩;have CO:aW (upd H p (.lst [.int a,.int b])) p:=aW.upd a0 b0 b1;have QT:aR p H (upd H p (.lst [.int a,.int b])):=aR.upd;generalize upd H p (.lst [.int a,.int b])=H1 at *;refine⟨_,rfl,_,rfl,n,rfl,fun R hR=>⟨R,n,rfl,af,by lia,fun L hL=>?_⟩⟩;have Mv:aM H1 (upd (upd H1 R (.GC 0 n)) L (.lst ((List.range n).map fun (i:Nat)=>V.int i))):=(aj hR).trans (aj hL);have npL:p≠L:=by obtain⟨_,_,e,_⟩:=CO;exact ak ((aj hR) _ _ e) hL
  refine⟨p,L,_,rfl,CO.same Mv,af,npL.symm,by rw[aG,fq];lia,fun nm ys H3 pm ON AW hn3 Zu=>?_⟩;obtain⟨names,rfl,pn⟩:=A1 (xs:=List.range n) pm;have nl:names.length=n:=by rw[pn.length_eq,fq]
  have nn:names.Nodup:=pn.nodup_iff.mpr jN;have Iv:∀x∈names,x<n:=fun x hx=>bL.mp (pn.mem_iff.mp hx);have Wm:aR p H H3:=QT.trans ((aR.of Mv).trans ON);have npn:nm≠p:=fun z=>by subst z;exact(CO.same Mv).some hn3
  refine⟨_,rfl,n,rfl,by lia,by lia,fun D hD=>?_⟩;refine jc (n:=n) (lo:=0) (fun i ys σ H4=>(∃k,σ=[k])/\aM H3 H4/\H4 D=some (.lst ys)/\∃ (ts:List Addr) (A:Nat->Addr),ys=ts.map V.ref/\Holds H4 ts i (fun j=>.tup [.int (j:Int),.ref (A j)])/\(∀h,h<i->H4 (A h)=some (.lst [])/\H3 (A h)=none/\A h≠D)/\∀x y,x<i->y<i->A x=A y->x=y)
   ⟨⟨_,rfl⟩,aj hD,af,[],fun _=>0,rfl,Holds.nil,fun h hh=>absurd hh (by lia),fun x y hx=>absurd hx (by lia)⟩ ?_ ?_
  .rintro i ys σ H4 Kt Kf hi ⟨⟨k,rfl⟩,sm,tK,ts,A,rfl,qI,hA,inj⟩ kt kf;refine⟨_,rfl,by show 0<=sizeLine;decide,fun l hl=>⟨by show 2<=sizeLine;decide,fun t ht=>?_⟩⟩;have Zv:D≠l:=ak tK hl;have s1:=aj (o:=.lst []) hl;have s2:=s1.trans (aj (o:=.tup [.int (0+(i:Int)),.ref l]) ht);have KJ:upd (upd H4 l (.lst [])) t (.tup [.int (0+(i:Int)),.ref l]) t=some (.tup [.int (0+(i:Int)),.ref l]):=af;have UK:upd (upd H4 l (.lst [])) t (.tup [.int (0+(i:Int)),.ref l]) l=some (.lst []):=aj ht _ _ af;generalize upd (upd H4 l (.lst [])) t (.tup [.int (0+(i:Int)),.ref l])=H5 at *;have M4:=s2 _ _ tK;have keep:∀b o,H5 b=some o->b≠D->(upd H5 D (.lst (ts.map V.ref++[.ref t]))) b=some o:=fun b o e n=>by rw[ai n];exact e
   have nt:t≠D:=cA KJ M4 (by intro z;cases z);have kU:hU A i l i=l:=by unfold hU;rw[ao rfl]
   have rP:∀h,h≠i->hU A i l h=A h:=fun h e=>by unfold hU;rw[ap e]
   refine kt _ _ _ M4 (by rw[aG,qI.1];exact bV (show i<33 by lia) (by decide)) ⟨⟨_,rfl⟩,dU.bU (sm.trans s2) hD,af,ts++[t],hU A i l,by rw[cP];rfl,?_,fun h hh=>?_,fun x y hx hy e=>?_⟩
   .refine⟨by rw[cr,qI.1];rfl,fun j hj=>?_⟩;rw[iM qI.1];show _=some (L2.HO.tup [.int (j:Int),.ref (hU A i l j)]);by_cases e:j=i
    .rw[ao e,e,kU,keep _ _ KJ nt,jS]
    .rw[ap e,rP j e];have:=qI.2 j (by lia);exact keep _ _ (s2 _ _ this) (cA this tK (by intro z;cases z))
   .by_cases e:h=i
    .rw[e,kU];exact⟨keep _ _ UK Zv.symm,sm.free hl,Zv.symm⟩
    .rw[rP h e];obtain⟨u1,u2,u3⟩:=hA h (by lia);exact⟨keep _ _ (s2 _ _ u1) u3,u2,u3⟩
   .by_cases ex:x=i <;> by_cases ey:y=i
    .lia
    .rw[ex,kU,rP y ey] at e;have:=(hA y (by lia)).1;rw[<-e,hl] at this;cases this
    .rw[ey,kU,rP x ex] at e;have:=(hA x (by lia)).1;rw[e,hl] at this;cases this
    .rw[rP x ex,rP y ey] at e;exact inj x y (by lia) (by lia) e
  rintro ys σ H4 ⟨_,sm,tK,ts,A,rfl,qI,hA,inj⟩;have OK:vX (List.range n) n:=List.Perm.refl _;refine⟨D,ts,dj A (List.range n),rfl,tK,by rw[qI.1,bW,fq],fun i hi=>?_,?_,fun O hO=>?_⟩
  .rw[bW,fq] at hi;refine⟨.inl (i:Int),.ref (A i),?_,qI.2 i hi⟩;unfold dj;rw[bq,oE hi];rfl
  .rw[bW,fq];lia
  rw[oh jN];have sO:=aj (o:=.dK (dj A (List.range n))) hO;have PA:sj (upd H4 O (.dK (dj A (List.range n)))) O A (List.range n) (fun _=>[]):=⟨af,fun h m=>sO _ _ (hA h (bL.mp m)).1,fun x mx y my e=>inj x y (bL.mp mx) (bL.mp my) e⟩
  have hOH:H O=none:=Wm.free AW.some (sm.free hO);have Tx:∀h,h<n->H (((List.range n).map A).getD h 0)=none:=fun h hh=>by rw[gz hh];exact Wm.free AW.some (hA h hh).2.1
  have kB:∀h,h<n->((List.range n).map A).getD h 0≠p:=fun h hh z=>by have:=Tx h hh;rw[z] at this;exact hp.some this
  have QU:∀h,h<n->((List.range n).map A).getD h 0≠nm:=fun h hh z=>by
   rw[gz hh] at z;have:=(hA h hh).2.1;rw[z,Zu] at this;cases this
  have W0:Gw H p O nm ((List.range n).map A) n names 0 (fun _=>[]) (upd H4 O (.dK (dj A (List.range n)))):=⟨PA.done OK,Wm.trans ((aR.of sm).trans (aR.of sO)),(AW.same sm).same sO,sO _ _ (sm _ _ Zu),CF,IW,E4,fun _ _ _=>rfl,by simp⟩
  clear PA qI hA inj sO sm tK hD;generalize (List.range n).map A=as at *;generalize upd H4 O (.dK (dj A (List.range n)))=H5 at *;refine⟨_,rfl,1,n,rfl,⟨by decide,by decide,by lia,by lia⟩,?_⟩;have en:((n:Int)-1).toNat=n-1:=by lia
  rw[en];refine eE (n:=n-1) (lo:=1) (fun i σ Hc=>(∃v5 v6 v7,σ=[some (.ref p),some (.int n),some (.int A5),some (.ref nm),some (.ref O),v5,v6,v7])/\∃g,Gw H p O nm as n names i g Hc) ⟨⟨_,_,_,rfl⟩,_,W0⟩ ?_ ?_
  .rintro i σ Hc hi ⟨⟨v5,v6,v7,rfl⟩,g,W⟩;have e1:(1:Int)+(i:Int)=((i+1:Nat):Int):=by lia
   rw[e1];refine⟨_,rfl,_,rfl,_,rfl,nm,_,rfl,aV.of W.nm,fun S hS=>?_⟩;rw[E8];have sS:=aj (o:=.lst (NV (names.take (i+1)))) hS;have Zw:(upd Hc S (.lst (NV (names.take (i+1))))) S=some (.lst (NV (names.take (i+1)))):=af;generalize upd Hc S (.lst (NV (names.take (i+1))))=HS at *;have OA:=W.outs.same sS;refine⟨S,rfl,⟨_,aV.of Zw⟩,fun D hD=>?_⟩;refine pO (os:=names.take (i+1)) (fun h=>decide ((g h).length<8)) (fun σ=>∃v,σ=[v,some (.ref O)]) Zw hD (by rw[iG];lia) ⟨_,rfl⟩ ?_ ?_
   .rintro h σ H6 Kt Kf hh ⟨v,rfl⟩ sm kt kf;have d9:=Iv h (oC hh);have O6:=OA.same sm;refine⟨_,rfl,_,rfl,O,_,rfl,O6.get d9,as.getD h 0,NV (g h),rfl,.inl (aV.of (O6.rows.2 h d9)),_,_,rfl,rfl,_,rfl,?_⟩;refine bR (fun e=>?_) (fun e=>?_)
    .exact⟨_,rfl,kt _ _ ⟨_,rfl⟩ (aM.refl _) (bB (by simp at e;lia))⟩
    .exact kf _ _ ⟨_,rfl⟩ (aM.refl _) (cH (by simp at e;lia))
   intro H6 s6 EU
   (try dsimp only)
   have Tz:=sS.trans s6;have M6:0<((names.take (i+1)).filter fun h=>decide ((g h).length<8)).length:=by
    refine pW (a:=names.getD i 0) (bX.mpr ⟨?_,bB (by have:=W.one;lia)⟩);rw[pK (show i<names.length by lia)];exact t_.mpr ⟨i,by lia,rfl⟩
   have fl1:((names.take (i+1)).filter fun h=>decide ((g h).length<8)).length<=32:=bj (jG _ _) (by rw[iG];lia);have fm:∀x∈(names.take (i+1)).filter (fun h=>decide ((g h).length<8)),x∈names.take (i+1)/\(g x).length<8:=fun x hx=>⟨(bX.mp hx).1,b9 (bX.mp hx).2⟩
   generalize (names.take (i+1)).filter (fun h=>decide ((g h).length<8))=fl at *;have W6:Gw H p O nm as n names i g H6:=⟨W.outs.same Tz,W.se.trans (aR.of Tz),W.po.same Tz,Tz _ _ W.nm,W.gd,W.tr,W.up,W.none,W.one⟩
   have TB:D≠p:=fun z=>by subst z;exact(W.po.same sS).some hD
   refine⟨_,rfl,_,rfl,_,rfl,D,_,rfl,.inl (aV.of EU),p,_,rfl,by rw[aG];lia,by rw[aG];lia,W6.po,fun d a3 b3 d0 d1 k0 k1 k2=>?_⟩;rw[aG] at d1;obtain⟨dn,rfl⟩:∃dn:Nat,(dn:Int)=d:=⟨d.toNat,by lia⟩
   have Wn:aW (upd H6 p (.lst [.int a3,.int b3])) p:=aW.upd k0 k1 k2;have TC:aR p H6 (upd H6 p (.lst [.int a3,.int b3])):=aR.upd;have W7:Gw H p O nm as n names i g (upd H6 p (.lst [.int a3,.int b3])):=⟨W6.outs.dC TC W6.po fun h hh z=>kB h hh z.symm,W6.se.trans TC,Wn,TC _ _ W6.nm npn,W.gd,W.tr,W.up,W.none,W.one⟩
   have I_:=TC _ _ EU TB;generalize upd H6 p (.lst [.int a3,.int b3])=H7 at *;refine⟨D,_,_,_,rfl,rfl,aV.of I_,mU (by lia),?_⟩;refine⟨_,rfl,rfl,_,rfl,?_⟩;refine A4 (fun σ Hx=>Hx=H7/\∃o∈fl,σ=[some (.ref p),some (.int n),some (.int A5),some (.ref nm),some (.ref O),some (.int ((i+1:Nat):Int)),some (.ref D),some (.int ((o:Nat):Int))]) ?_ (fun _ kc=>?_) (fun _=>⟨rfl,_,gU (by lia),rfl⟩)
   rotate_left
   .have lst:fR (NV fl) (-1)=some (.int ((fl.getD (fl.length-1) 0:Nat):Int)):=by
     have:=pL (zs:=IN fl) (by intro z;rw[List.map_eq_nil_iff.mp z] at M6;exact absurd M6 (by simp));rw[vE,aG,jk] at this;exact this
    exact⟨_,rfl,_,rfl,D,_,_,_,rfl,rfl,aV.of I_,lst,kc _ _ ⟨rfl,_,gU (by lia),rfl⟩⟩
   rintro σ Hx ⟨rfl,o1,Ot,rfl⟩;refine⟨_,rfl,rfl,_,rfl,?_⟩;refine A4 (fun σ Hy=>Hy=Hx/\∃o∈fl,σ=[some (.ref p),some (.int n),some (.int A5),some (.ref nm),some (.ref O),some (.int ((i+1:Nat):Int)),some (.ref D),some (.int ((o:Nat):Int))]) ?_ (fun _ kc=>?_) (fun _=>⟨rfl,_,Ot,rfl⟩)
   rotate_left
   .exact⟨_,rfl,D,_,_,_,rfl,rfl,aV.of I_,mU (k:=0) M6,kc _ _ ⟨rfl,_,gU M6,rfl⟩⟩
   rintro σ Hy ⟨rfl,o,ho,rfl⟩;obtain⟨m2,g8⟩:=fm o ho;have m1:names.getD (i+1) 0∈names:=gU (by lia);have hv:=W.none (i+1) (ba _) (by lia);have Zx:fR (NV names) ((i+1:Nat):Int)=some (.int ((names.getD (i+1) 0:Nat):Int)):=mU (by lia);have QV:names.getD (i+1) 0≠o:=by
    intro z;rw[<-z] at m2;obtain⟨x,hx,Ka,e⟩:=lD m2;have:=E9 nn Ka (by lia) e;lia
   have up':=fun (z:fh n (gT g [names.getD (i+1) 0,o]))=>tL (i:=i) W.gd Iv (by lia) W.up m2 hv g8;have Zy:∀x,x<n->names.getD (i+1) 0∉g x:=fun x hx=>xm (by rw[<-W.gd.Ez _ (Iv _ m1),hv];rfl) hx;have QW:∀j,i+2<=j->j<n->names.getD j 0≠names.getD (i+1) 0/\names.getD j 0≠o:=fun j h1 h2=>⟨fun z=>by have:=E9 nn (show j<names.length by lia) (show i+1<names.length by lia) z;lia,fun z=>by
    rw[<-z] at m2;obtain⟨x,hx,Ka,e⟩:=lD m2;have:=E9 nn Ka (by lia) e;lia⟩
   have vn:=Iv _ m1;have FE:=Iv _ (oC m2);have tj:=CN QV hv (Zy o FE) g8;have rn:[names.getD (i+1) 0,o].Nodup:=dq.mpr ⟨by simpa using QV,dq.mpr ⟨by simp,h_⟩⟩;have gj:=(CC W.gd rn (by show 2<=2;decide) (fun x hx=>by
    rcases bP.mp hx with rfl|hx
    .exact vn
    .rw[bK.mp hx];exact FE)).1
   have Us:=tL (i:=i) W.gd Iv (by lia) W.up m2 hv g8;have Ts:=IX W.tr QV hv Zy (fun h hh o ho=>(W.gd.lt h hh o ho).1) vn FE;have no':=W.none;generalize ev:names.getD (i+1) 0=v at *;have g1:=W7.outs.rows.2 v vn;have gv8:(g v).length<8:=by rw[hv];decide
   refine⟨_,rfl,_,rfl,_,rfl,nm,_,_,_,rfl,rfl,aV.of W7.nm,Zx,O,_,rfl,W7.outs.get vn,.inl ⟨rfl,_,aV.of g1⟩,_,rfl,as.getD v 0,_,_,rfl,rfl,g1,by rw[aG];exact bV gv8 (by decide),?_⟩;have O8:=W7.outs.app (x:=v) (y:=o) vn;have Zz:(upd Hy (as.getD v 0) (.lst (NV (g v)++[.int (o:Nat)]))) nm=some (.lst (NV names)):=by rw[ai (QU v vn).symm];exact W7.nm
   have se8:aR p H (upd Hy (as.getD v 0) (.lst (NV (g v)++[.int (o:Nat)]))):=gH W7.se (Tx v vn);have po8:aW (upd Hy (as.getD v 0) (.lst (NV (g v)++[.int (o:Nat)]))) p:=by obtain⟨x,y,e,z⟩:=W7.po;exact⟨x,y,by rw[ai (kB v vn).symm];exact e,z⟩
   generalize upd Hy (as.getD v 0) (.lst (NV (g v)++[.int (o:Nat)]))=H8 at *;have g2:=O8.rows.2 o FE;have eo:dZ g (v,o) o=g o:=fz fun z=>QV z.symm;rw[show (fun h=>L2.HO.lst (NV (dZ g (v,o) h))) o=L2.HO.lst (NV (dZ g (v,o) o)) from rfl] at g2;refine⟨_,rfl,_,rfl,O,_,rfl,O8.get FE,.inl ⟨rfl,_,aV.of g2⟩,_,rfl,_,rfl,nm,_,_,_,rfl,rfl,aV.of Zz,Zx,as.getD o 0,_,_,rfl,rfl,g2,by rw[aG,eo];exact bV g8 (by decide),?_⟩;have O9:=O8.app (x:=o) (y:=v) FE;refine⟨⟨_,_,_,rfl⟩,FH g v o,O9,gH se8 (Tx o FE),?_,?_,?_,Ts,?_,fun j h1 h2=>?_,?_⟩
   .obtain⟨x,y,e,z⟩:=po8;exact⟨x,y,by rw[ai (kB o FE).symm];exact e,z⟩
   .rw[ai (QU o FE).symm];exact Zz
   .rw[tj];exact gj
   .rw[tj];exact Us
   .obtain⟨a1,a2⟩:=QW j h1 h2;show dZ (dZ g (v,o)) (o,v) (names.getD j 0)=[];rw[fz a2,fz a1];exact no' j (by lia) h2
   .rw[ev];show (dZ (dZ g (v,o)) (o,v) v).length<=1;rw[fz QV,kT,hv];simp
  .rintro σ Hc ⟨⟨v5,v6,v7,rfl⟩,g,W⟩;have U:=W.up;rw[show n-1+1=n by lia] at U;exact⟨_,rfl,q O as g Hc ⟨W.gd,n2,by lia,W.outs,hOH,Tx,E5 pn U⟩ W.tr W.se W.po⟩
end
abbrev Wo:Stmt:=gG 49
theorem rB:(["_law_i","_law_house"]:List Str).Nodup:=by decide +kernel
theorem fD:(["_law_house","_law_stand","_law_i","_law_taken"]:List Str).Nodup:=by decide +kernel
theorem zZ{xs:List Nat}:oN sQ (NV xs) []=xs.isEmpty:=by cases xs <;> rfl
theorem Ja{o:Option Nat}:(!decide (jF o=V.bJ))=o.isSome:=by
 cases o with
 |none=>rw[bB (show jF none=V.bJ from rfl)];rfl
 |some x=>rw[cH (show ¬ jF (some x)=V.bJ from fun z=>by cases z)];rfl
theorem M7{o:Option Nat}:decide (jF o=V.bJ)=o.isNone:=by
 cases o with
 |none=>exact bB rfl
 |some x=>exact cH fun z=>by cases z
structure C5(n:Nat)(g:Nat->List Nat)(hs:List Int)(s gl:List (Option Nat))(pre dn:List Nat):Prop where
 nd:dn.Nodup
 sub:∀j∈dn,j∈pre
 mid:C4 g s gl dn
 near:∀j∈dn,∀h o,s.getD j none=some h->gl.getD j none=some o->dH n g hs j o<dH n g hs j h
 left:∀i∈pre,i∉dn->∀h,s.getD i none=some h->∀o∈dw n g hs i h,∃j∈dn,s.getD j none=some h/\gl.getD j none=some o
theorem C5.nil{n:Nat}{g:Nat->List Nat}{hs:List Int}{s:List (Option Nat)}:C5 n g hs s (List.replicate s.length none) [] []:=⟨h_,(fun j h=>nomatch h),C4.nil,(fun j h=>nomatch h),(fun j h=>nomatch h)⟩
theorem Jb{g:Nat->List Nat}{s gl:List (Option Nat)}{dn:List Nat}(M:C4 g s gl dn){h o:Nat}:(h,o)∈gg s gl dn↔∃j∈dn,s.getD j none=some h/\gl.getD j none=some o:=by
 unfold gg;rw[cf];constructor
 .rintro⟨j,hj,e⟩;obtain⟨h',o',a,b,c⟩:=M.inn j hj;rw[a,b] at e;have e1:h'=h:=congrArg Prod.fst e;have e2:o'=o:=congrArg Prod.snd e;subst e1 e2;exact⟨j,hj,a,b⟩
 .rintro⟨j,hj,a,b⟩;exact⟨j,hj,by rw[a,b];rfl⟩
theorem C5.pass{n:Nat}{g:Nat->List Nat}{hs:List Int}{s gl:List (Option Nat)}{pre dn:List Nat}{i h:Nat}(L:C5 n g hs s gl pre dn)(hi:s.getD i none=some h)(all:∀o∈dw n g hs i h,(h,o)∈gg s gl dn):C5 n g hs s gl (pre++[i]) dn:=by
 refine⟨L.nd,fun j hj=>hW _ (L.sub j hj),L.mid,L.near,fun j hj nj x hx o ho=>?_⟩;rcases bg.mp hj with m|m
 .exact L.left j m nj x hx o ho
 .obtain rfl:=bK.mp m;rw[hi] at hx;cases hx;obtain⟨k,hk,a,b⟩:=(Jb L.mid).mp (all o ho);exact⟨k,hk,a,b⟩
theorem C5.take{n:Nat}{g:Nat->List Nat}{hs:List Int}{s gl:List (Option Nat)}{pre dn:List Nat}{i h o:Nat}(L:C5 n g hs s gl pre dn)(hi:s.getD i none=some h)(ni:i∉pre)(ho:o∈dw n g hs i h)(fr:(h,o)∉gg s gl dn):
  C5 n g hs s (gl.set i (some o)) (pre++[i]) (dn++[i])/\gg s (gl.set i (some o)) (dn++[i])=gg s gl dn++[(h,o)]:=by
 have FK:i∉dn:=fun z=>ni (L.sub i z);obtain⟨M,e⟩:=L.mid.step FK hi (iO.mp ho).1 fr;have il:i<gl.length:=by rw[L.mid.len];exact(aT hi).1
 have old:∀j∈dn,(gl.set i (some o)).getD j none=gl.getD j none:=fun j hj=>by rw[dJ il,ap (fun z:j=i=>FK (z ▸ hj))]
 have new:(gl.set i (some o)).getD i none=some o:=by rw[dJ il,ao rfl]
 refine⟨⟨iF.mpr ⟨L.nd,dq.mpr ⟨(fun z=>nomatch z),h_⟩,fun u hu v hv z=>FK (by rw[bK] at hv;rw[<-hv,<-z];exact hu)⟩,fun j hj=>?_,M,fun j hj x y hx hy=>?_,fun j hj nj x hx y hy=>?_⟩,e⟩
 .rcases bg.mp hj with m|m
  .exact hW _ (L.sub j m)
  .exact iD _ m
 .rcases bg.mp hj with m|m
  .rw[old j m] at hy;exact L.near j m x y hx hy
  .obtain rfl:=bK.mp m;rw[new] at hy;rw[hi] at hx;cases hx;cases hy;exact(iO.mp ho).2
 .rcases bg.mp hj with m|m
  .obtain⟨k,hk,a,b⟩:=L.left j m (fun z=>nj (hW _ z)) x hx y hy;exact⟨k,hW _ hk,a,by rw[old k hk];exact b⟩
  .exact absurd (iD _ m) nj
structure FL(g:Nat->List Nat)(s g5 gl:List (Option Nat))(d5 pre dn:List Nat):Prop where
 nd:dn.Nodup
 old:∀j∈d5,j∈dn/\gl.getD j none=g5.getD j none
 sub:∀j∈pre,j∈dn
 mid:C4 g s gl dn
theorem FL.start{n:Nat}{g:Nat->List Nat}{hs:List Int}{s gl:List (Option Nat)}{pre dn:List Nat}(L:C5 n g hs s gl pre dn):FL g s gl gl dn [] dn:=⟨L.nd,fun j hj=>⟨hj,rfl⟩,(fun j h=>nomatch h),L.mid⟩
theorem FL.skip{g:Nat->List Nat}{s g5 gl:List (Option Nat)}{d5 pre dn:List Nat}{i:Nat}(L:FL g s g5 gl d5 pre dn)(h:gl.getD i none≠none):FL g s g5 gl d5 (pre++[i]) dn:=by
 refine⟨L.nd,L.old,fun j hj=>?_,L.mid⟩;rcases bg.mp hj with m|m
 .exact L.sub j m
 .rw[bK.mp m];by_cases z:i∈dn
  .exact z
  .exact absurd (L.mid.out i z) h
theorem FL.take{g:Nat->List Nat}{s g5 gl:List (Option Nat)}{d5 pre dn:List Nat}{i h o:Nat}(L:FL g s g5 gl d5 pre dn)(hn:gl.getD i none=none)(hi:s.getD i none=some h)(ho:o∈g h)(fr:(h,o)∉gg s gl dn):
  FL g s g5 (gl.set i (some o)) d5 (pre++[i]) (dn++[i])/\gg s (gl.set i (some o)) (dn++[i])=gg s gl dn++[(h,o)]/\(dn++[i]).Nodup:=by
 have FK:i∉dn:=fun z=>by
  obtain⟨_,_,_,b,_⟩:=L.mid.inn i z;rw[hn] at b;cases b
 obtain⟨M,e⟩:=L.mid.step FK hi ho fr;have il:i<gl.length:=by rw[L.mid.len];exact(aT hi).1
 have nd:(dn++[i]).Nodup:=iF.mpr ⟨L.nd,dq.mpr ⟨(fun z=>nomatch z),h_⟩,fun u hu v hv z=>FK (by rw[bK] at hv;rw[<-hv,<-z];exact hu)⟩;refine⟨⟨nd,fun j hj=>⟨hW _ (L.old j hj).1,?_⟩,fun j hj=>?_,M⟩,e,nd⟩
 .rw[dJ il,ap (fun z:j=i=>FK (z ▸ (L.old j hj).1))];exact(L.old j hj).2
 .rcases bg.mp hj with m|m
  .exact hW _ (L.sub j m)
  .exact iD _ m
theorem Jc{n:Nat}{g:Nat->List Nat}{hs:List Int}{s g5 gl:List (Option Nat)}{us d5 dn:List Nat}(L5:C5 n g hs s g5 us d5)(L6:FL g s g5 gl d5 us dn)(pm:us.Perm (Gv s s.length)):dk g s gl/\NF n g hs s gl:=by
 have du:∀j∈dn,j∈us:=fun j hj=>by
  obtain⟨h,o,a,_,_⟩:=L6.mid.inn j hj;exact pm.mem_iff.mpr (bX.mpr ⟨bL.mpr (aT a).1,by rw[a];rfl⟩)
 have Wp:us.Nodup:=pm.nodup_iff.mpr (m8 _ jN);have pd:dn.Perm us:=(Db L6.nd Wp).mpr fun j=>⟨du j,L6.sub j⟩
 have Hd:=L6.mid.done (pd.trans pm);refine⟨Hd,fun i h hi led o ho=>?_⟩;have iu:i∈us:=pm.mem_iff.mpr (bX.mpr ⟨bL.mpr (aT hi).1,by rw[hi];rfl⟩);have FK:i∉d5:=fun z=>by
  obtain⟨h',o',a,b,_⟩:=L5.mid.inn i z;rw[hi] at a;cases a;have c:=L5.near i z h o' hi b;rw[kG hi (by rw[(L6.old i z).2];exact b),fc] at led;lia
 obtain⟨j,hj,a,b⟩:=L5.left i iu FK h hi o ho;exact⟨j,a,by rw[(L6.old j hj).2];exact b,L5.near j hj h o a b⟩
section
variable {P:Program} {w:World} {K:PySem.W.Frag} {mg:Str->Option Value} {base:Heap}
theorem vO:aI ["_law_pot_here","_law_outs","_law_fars_here","_law_homes","_law_stand","_law_order","_law_gone","_law_taken","_law_i","_law_goods_here","_law_free"] ["_law_pot_here","_law_outs","_law_fars_here","_law_homes","_law_stand"] (am Wo):=⟨rfl,rfl,rfl,by decide +kernel,rfl,by decide +kernel,by decide +kernel⟩
def M8:Sp:=fun vs H Q _=>∃ (p O r a S:Addr) (as ds:List Addr) (n:Nat) (g:Nat->List Nat) (hs:List Int) (s:List (Option Nat)),vs=[.ref p,.ref O,.ref r,.ref a,.ref S]/\aW H p/\OE as n p/\fA H O as n g/\e_ H r ds n g/\fh n g/\H a=some (.tup (HV hs))/\H S=some (.tup (SV s))/\s.length=hs.length/\s.length<=16/\eD n g s/\(∀h∈hs,0<=h/\h<n)/\
 ∀ (t:Addr) (gs:List (Option Nat)) (H':Hp),aR p H H'->aW H' p->H' t=some (.tup (SV gs))->dk g s gs->NF n g hs s gs->Q (.ref t) H'
structure Ne(H:Hp)(p Gn Tk D:Addr)(us:List Nat)(s:List (Option Nat))(Hc:Hp)(gl:List (Option Nat))(dn:List Nat):Prop where
 sm:aR p H Hc
 po:aW Hc p
 ord:Hc D=some (.lst (NV us))
 gn:Hc Gn=some (.lst (SV gl))
 tk:Hc Tk=some (.dT (CK (gg s gl dn)))
theorem Ne.same{H:Hp}{p Gn Tk D:Addr}{us:List Nat}{s:List (Option Nat)}{Hc H':Hp}{gl:List (Option Nat)}{dn:List Nat}(h:Ne H p Gn Tk D us s Hc gl dn)(x:aM Hc H'):Ne H p Gn Tk D us s H' gl dn:=⟨h.sm.trans (aR.of x),h.po.same x,x _ _ h.ord,x _ _ h.gn,x _ _ h.tk⟩
theorem Ne.ZA{H:Hp}{p Gn Tk D:Addr}{us:List Nat}{s:List (Option Nat)}{Hc H':Hp}{gl:List (Option Nat)}{dn:List Nat}(h:Ne H p Gn Tk D us s Hc gl dn)(x:aR p Hc H')(po:aW H' p)(n1:D≠p)(n2:Gn≠p)(n3:Tk≠p):Ne H p Gn Tk D us s H' gl dn:=⟨h.sm.trans x,po,x _ _ h.ord n1,x _ _ h.gn n2,x _ _ h.tk n3⟩
theorem Ne.put{H:Hp}{p Gn Tk D t:Addr}{us:List Nat}{s:List (Option Nat)}{Hc:Hp}{gl:List (Option Nat)}{dn:List Nat}{i h o:Nat}(N:Ne H p Gn Tk D us s Hc gl dn)(hG:H Gn=none)(hT:H Tk=none)(OO:Gn≠Tk)(TF:D≠Gn)(TH:D≠Tk)(n2:Gn≠p)(n3:Tk≠p)(fr:(h,o)∉gg s gl dn)(e:gg s (gl.set i (some o)) (dn++[i])=gg s gl dn++[(h,o)])(ht:(upd Hc Gn (.lst (SV (gl.set i (some o))))) t=none):
  Ne H p Gn Tk D us s (upd (upd (upd Hc Gn (.lst (SV (gl.set i (some o))))) t (.tup [.int (h:Int),.int (o:Int)])) Tk (.dT (fZ (CK (gg s gl dn)) (lc (h,o)) (.bl true)))) (gl.set i (some o)) (dn++[i]):=by
 have keep:∀b u,Hc b=some u->b≠Gn->b≠Tk->(upd (upd (upd Hc Gn (.lst (SV (gl.set i (some o))))) t (.tup [.int (h:Int),.int (o:Int)])) Tk (.dT (fZ (CK (gg s gl dn)) (lc (h,o)) (.bl true)))) b=some u:=fun b u e n1 n2=>by
  have e8:(upd Hc Gn (.lst (SV (gl.set i (some o))))) b=some u:=by rw[ai n1];exact e
  rw[ai n2,ai (ak e8 ht)];exact e8
 refine⟨fun b u e n=>keep _ _ (N.sm _ _ e n) (ak e hG) (ak e hT),?_,keep _ _ N.ord TF TH,?_,?_⟩
 .obtain⟨x,y,e,z⟩:=N.po;exact⟨x,y,keep _ _ e n2.symm n3.symm,z⟩
 .rw[ai OO];exact aj ht _ _ af
 .rw[af,mL _ (Ff fr),<-Fg,e]
theorem QX{f:Addr}{fd:FuncData}(F:fX K "_law_eager" "_law_eager" Wo f fd)(B:Bl mg)(TK:cp P w K mg base be 1 "_law_take" ["_law_pot_here","_law_many"] ku)(SH:cp P w K mg base be 2 "_law_shuffled" ["_law_pot_here","_law_some"] (vz K))(GO:cp P w K mg base be 1 "_law_goods" ["_law_outs","_law_fars_here","_law_home","_law_house"] IZ):bz P w K mg base be 3 f fd ["_law_pot_here","_law_outs","_law_fars_here","_law_homes","_law_stand"] M8:=by
 refine F.ok vO (fun vs H Q E h=>?_) (fun dQ A outer s0 H vs Q E hr h=>?_)
 .obtain⟨p,O,r,a,S,as,ds,n,g,hs,s,rfl,_⟩:=h;rfl
 .obtain⟨p,O,r,a,S,as,ds,n,g,hs,s,rfl,hp,kB,OF,FR,Gd,ha,hS,sl,OG,R,hm,q⟩:=h;have h1:b_ 1 _:=hr.mono (by decide);have h2:b_ 2 _:=hr;have oP:=hr.u (n:=1);refine'⟨_,(ah (aL (i:=5) vO.nd rfl (Or.inl rfl) (aE SH h2 aQ (aa (pv 0) (aa ?c1 ag))))
   (ah (aL (i:=6) vO.nd rfl (Or.inl rfl) (bC Lx (dS (aa cu ag)) (au aD (by rfl) B.len ce (aa (pv 4) ag))))
   (ah (aL (i:=7) vO.nd rfl (Or.inr rfl) Ei)
   (ah (dR eR rfl (cJ (pv 5)) (aF (i:=8) vO.nd rfl (Or.inr rfl))
    (ah (aL (i:=9) vO.nd rfl (Or.inl rfl) (aE GO h1 aQ (aa (pv 1) (aa (pv 2) (aa (aA a9 (pv 3) (pv 8) (fun _ _=>rfl)) (aa (aA a9 (pv 4) (pv 8) (fun _ _=>rfl)) ag))))))
    (ah (gQ (i:=10) (g:=(bH 0)) (tt:=(tB (ve (y3 (bT (mE (BO K) (bb 1) (bb 2)) (bT (bb 0) jB))) (bb 3)))) (te:=(bb 0)) (NB:=["_law_house","_law_stand","_law_i","_law_taken"]) (src:=[none,some 4,some 8,some 7]) (cj (by kernel_rfl)) rfl (cJ (pv 9)) ?g2 ?t2 ?e2 vO.nd rfl rfl rfl)
    (al (bx (aK (zo (e:=sQ) hr.u) (pv 10) (dS ag) (aO _)) (ah (i9 (aA aB (pv 10) (aE TK h1 aQ (aa (pv 0) (aa (au aD (by rfl) B.len ce (aa (pv 10) ag)) ag))) (fun _ _=>rfl)) (nJ (pv 6) (pv 8) iJ))
     (al (pD oP (pv 7) (fN (aa (aA a9 (pv 4) (pv 8) (fun _ _=>rfl)) (aa (aA aB (pv 6) (pv 8) (fun _ _=>rfl)) ag))) fW rfl))) aS)))))
   (ah (dR eR rfl (cJ (pv 5)) (aF (i:=8) vO.nd rfl (Or.inr rfl))
    (al (bx (aK jY (aA aB (pv 6) (pv 8) (fun _ _=>rfl)) cu (aO _)) (ah (gQ (i:=10) (g:=(bH 0)) (tt:=(tB (ve (y3 (bT (mE (BO K) (bb 1) (bb 2)) (bT (bb 0) jB))) (bb 3)))) (te:=(bb 0)) (NB:=["_law_house","_law_stand","_law_i","_law_taken"]) (src:=[none,some 4,some 8,some 7]) (cj (by kernel_rfl)) rfl (cJ (cx oP (pv 1) (aA a9 (pv 4) (pv 8) (fun _ _=>rfl)) (fun _ _=>rfl))) ?g3 ?t3 ?e3 vO.nd rfl rfl rfl)
     (ah (i9 (aA aB (pv 10) (aE TK h1 aQ (aa (pv 0) (aa (au aD (by rfl) B.len ce (aa (pv 10) ag)) ag))) (fun _ _=>rfl)) (nJ (pv 6) (pv 8) iJ))
     (al (pD oP (pv 7) (fN (aa (aA a9 (pv 4) (pv 8) (fun _ _=>rfl)) (aa (aA aB (pv 6) (pv 8) (fun _ _=>rfl)) ag))) fW rfl)))) aS)))
   (al (aH (cV fS (by rfl) B.tup pV (aa (pv 6) ag))))))))),?_⟩
  case c1=>
   refine' cK (g:=(wn K 2 (gK (bH 0) (gK (bH 1) wg)))) (tt:=(jZ (mE (fun x y H Q=>y=.bJ/\Q (.bl (!decide (x=.bJ))) H) (bb 1) (tC .bJ)))) (te:=(bb 0)) (NB:=["_law_i","_law_house"]) (src:=[none,none]) (cj (by kernel_rfl)) rfl (qO rfl B.enum (aa (pv 4) ag)) ?g ?t ?e;case g=>exact fun cl C s₃ H₃ fp=>(gL (n:=2) rfl (bu (aF (i:=0) rB rfl (Or.inl rfl) (Or.inr rfl)) (bu (aF (i:=1) rB rfl (Or.inl rfl) (Or.inr rfl)) ft)))
   case t=>exact fun cl C s₃ H₃ fp=>eF (aK pr (pv 1) cu (aO _))
   case e=>exact fun cl C s₃ H₃ fp=>(pv 0)
  case g2=>exact fun cl C s₃ H₃ fp=>(aF (i:=0) fD rfl (Or.inl rfl) (Or.inr rfl))
  case t2=>exact fun cl C s₃ H₃ fp=>eF (uI (n5 oP (fN (aa (aA a9 (pv 1) (pv 2) (fun _ _=>rfl)) (aa (pv 0) ag))) (pv 3)))
  case e2=>exact fun cl C s₃ H₃ fp=>(pv 0)
  case g3=>exact fun cl C s₃ H₃ fp=>(aF (i:=0) fD rfl (Or.inl rfl) (Or.inr rfl))
  case t3=>exact fun cl C s₃ H₃ fp=>eF (uI (n5 oP (fN (aa (aA a9 (pv 1) (pv 2) (fun _ _=>rfl)) (aa (pv 0) ag))) (pv 3)))
  case e3=>exact fun cl C s₃ H₃ fp=>(pv 0)
  have nS:S≠p:=by rintro rfl;obtain⟨u,v,e,_⟩:=hp;rw[e] at hS;cases hS
  have na:a≠p:=by rintro rfl;obtain⟨u,v,e,_⟩:=hp;rw[e] at ha;cases ha
  refine⟨_,rfl,_,rfl,S,_,rfl,cR.of hS,fun D1 Kl=>?_⟩;refine xz (xs:=SV s) (fun x=>(s.getD x none).isSome) (fun σ=>∃b c,σ=[b,c]) hS Kl (by rw[aG];lia) ⟨_,_,rfl⟩ ?_ ?_
  .rintro x v t σ H5 Kt Kf hx ⟨b,c,rfl⟩ sm ht kt kf;obtain⟨Tq,rfl⟩:=zQ hx;refine⟨_,_,rfl,cR.of ht,rfl,_,_,rfl,_,_,rfl,rfl,?_⟩;refine⟨_,rfl,rfl,_,rfl,?_⟩;rw[Ja];refine bR (fun e=>?_) (fun e=>?_)
   .exact⟨_,rfl,kt _ _ ⟨_,_,rfl⟩ (aM.refl _) e⟩
   .exact kf _ _ ⟨_,_,rfl⟩ (aM.refl _) (uu.mpr e)
  intro H1 s1 M9;rw[aG] at M9;change H1 D1=some (.lst (NV (Gv s s.length))) at M9;have Wp:(Gv s s.length).Nodup:=m8 _ jN;have ul:(Gv s s.length).length<=16:=bj IE OG;have um:∀i∈Gv s s.length,∃h k:Nat,s.getD i none=some h/\h<n/\i<s.length/\k<n/\hs.getD i 0=(k:Int)/\(hs.getD i 0).toNat=k:=fun i hi=>by
   obtain⟨a1,a2⟩:=bX.mp hi;obtain⟨h,eh⟩:=pU.mp a2;obtain⟨k,b1,b2,b3⟩:=mZ hm (i:=i) (by rw[<-sl];exact bL.mp a1);exact⟨h,k,eh,R.1 h (aT eh).2,bL.mp a1,b1,b2,b3⟩
  have CO:=hp.same s1;have Wq:D1≠p:=by rintro rfl;exact hp.some Kl
  refine⟨p,D1,_,rfl,CO,M9,Wq,by rw[aG];lia,fun D ys H3 pm ON AW hDn TJ=>?_⟩;obtain⟨us,rfl,op⟩:=A1 pm;have nud:us.Nodup:=op.nodup_iff.mpr Wp;have usl:us.length<=16:=by rw[op.length_eq];exact ul
  have si:aR p H H3:=(aR.of s1).trans ON;have TB:D≠p:=by rintro rfl;exact CO.some hDn
  refine⟨by show 1<=sizeLine;decide,fun L hL=>⟨_,rfl,S,_,rfl,.inr (cR.of (aj hL _ _ (si _ _ hS nS))),L,_,_,rfl,rfl,af,by lia,?_,?_,fun Gn hG=>?_⟩⟩
  .rw[aG];lia
  .rw[cN,aG];exact bj (show 1*s.length<=16 by lia) (by decide)
  have eL:(List.replicate ((((SV s).length:Nat):Int)).toNat [V.bJ]).flatten=SV (List.replicate s.length none):=by rw[cN,aG];exact Fh
  rw[eL];have rf:aM H3 (upd (upd H3 L (.lst [.bJ])) Gn (.lst (SV (List.replicate s.length none)))):=(aj hL).trans (aj hG);have ZB:H3 Gn=none:=(aj hL).free hG;have M_:(upd (upd H3 L (.lst [.bJ])) Gn (.lst (SV (List.replicate s.length none)))) Gn=some (.lst (SV (List.replicate s.length none))):=af;generalize upd (upd H3 L (.lst [.bJ])) Gn (.lst (SV (List.replicate s.length none)))=H4 at *;intro Tk QY;have ZC:H3 Tk=none:=rf.free QY;have OO:Gn≠Tk:=ak M_ QY;have KL:aM H3 (upd H4 Tk (.dT [])):=rf.trans (aj QY);have QZ:(upd H4 Tk (.dT [])) Gn=some (.lst (SV (List.replicate s.length none))):=aj QY _ _ M_;have Q0:(upd H4 Tk (.dT [])) Tk=some (.dT []):=af;generalize upd H4 Tk (.dT [])=H5 at *;have Q3:H Gn=none:=si.free AW.some ZB;have Wr:H Tk=none:=si.free AW.some ZC;have TF:D≠Gn:=ak TJ ZB;have TH:D≠Tk:=ak TJ ZC;have n2:Gn≠p:=by rintro rfl;exact hp.some Q3
  have n3:Tk≠p:=by rintro rfl;exact hp.some Wr
  have N5:Ne H p Gn Tk D us s H5 (List.replicate s.length none) []:=⟨si.trans (aR.of KL),AW.same KL,KL _ _ TJ,QZ,Q0⟩
  clear rf KL M_ QZ Q0 QY hG hL TJ si;refine⟨_,rfl,D,rfl,⟨_,aV.of N5.ord⟩,?_⟩;refine jX (K:=K) (a:=D) (xs:=NV us) (fun k σ Hc=>(∃x8 x9 Na,σ=[some (.ref p),some (.ref O),some (.ref r),some (.ref a),some (.ref S),some (.ref D),some (.ref Gn),some (.ref Tk),x8,x9,Na])/\∃gl dn,Ne H p Gn Tk D us s Hc gl dn/\C5 n g hs s gl (us.take k) dn) ⟨⟨_,_,_,rfl⟩,_,_,N5,C5.nil⟩ (fun k σ Hc _ ⟨_,_,_,z,_⟩=>aV.of z.ord) ?_ ?_
  .rintro k v σ Hc hx ⟨⟨x8,x9,Na,rfl⟩,gl,dn,N,L5⟩;obtain⟨i,CI,rfl⟩:=IQ hx;have hk:k<us.length:=(cM.mp CI).1;have tk:us.take (k+1)=us.take k++[i]:=by rw[hX,CI];rfl
   have iu:i∈Gv s s.length:=op.mem_iff.mp (dW CI);have Ws:(us.take k++[i]).Nodup:=by rw[<-tk];exact nud.sublist (yw _ _)
   have hip:i∉us.take k:=fun z=>(iF.mp Ws).2.2 i z i (bK.mpr rfl) rfl;obtain⟨h,kk,eh,hn,il,TL,ek,Gy⟩:=um i iu;have kU:fR (SV s) (i:Int)=some (.int (h:Int)):=by rw[dM il,eh];rfl
   have OP:=N.sm _ _ hS nS;have Nc:(g h).filter (fun o=>decide (far (bf n g) o kk<far (bf n g) h kk))=dw n g hs i h:=by unfold dw dH;rw[Gy]
   refine⟨_,rfl,_,rfl,_,rfl,_,rfl,a,_,_,_,rfl,rfl,cR.of (N.sm _ _ ha na),jy (by lia),_,rfl,_,rfl,S,_,_,_,rfl,rfl,cR.of OP,kU,O,r,as,ds,n,g,kk,h,by rw[ek];rfl,OF.dC N.sm hp kB,FR.dC N.sm hp,Gd,TL,hn,fun D6 H6 s6 EU Nd=>?_⟩;rw[Nc] at Nd;have N6:=N.same s6;have OQ:=s6 _ _ OP;have gl8:(dw n g hs i h).length<=8:=bj (jG _ _) (Gd.le h hn);refine⟨_,rfl,D6,rfl,⟨_,aV.of Nd⟩,fun D7 I_=>?_⟩;refine pO (os:=dw n g hs i h) (fun o=>decide ((h,o)∉gg s gl dn)) (fun σ=>∃b,σ=[b,some (.ref S),some (.int (i:Int)),some (.ref Tk)]) Nd I_ (by lia) ⟨_,rfl⟩ ?_ ?_
   .rintro o σ H8 Kt Kf ho ⟨b',rfl⟩ Nf kt kf;refine⟨_,rfl,_,rfl,S,_,_,_,rfl,rfl,cR.of (Nf _ _ OQ),kU,_,rfl,by show 2<=sizeLine;decide,fun t ht=>⟨_,rfl,Tk,_,rfl,iy.t (k:=lc (h,o)) (aj ht _ _ (Nf _ _ N6.tk)) af,_,rfl,?_⟩⟩;refine bR (fun e=>?_) (fun e=>?_)
    .exact⟨_,rfl,kt _ _ ⟨_,rfl⟩ (aj ht) (bB (by rw[kW] at e;simpa using e))⟩
    .exact kf _ _ ⟨_,rfl⟩ (aj ht) (cH fun z=>z (by rw[kW] at e;simpa using e))
   intro H8 s8 TN;dsimp only;have N8:=N6.same s8;have Wt:=s8 _ _ OQ;have Wu:∀o∈(dw n g hs i h).filter (fun o=>decide ((h,o)∉gg s gl dn)),o∈dw n g hs i h/\(h,o)∉gg s gl dn:=fun o ho=>⟨(bX.mp ho).1,b9 (bX.mp ho).2⟩
   have frn:(dw n g hs i h).filter (fun o=>decide ((h,o)∉gg s gl dn))=[]->∀o∈dw n g hs i h,(h,o)∈gg s gl dn:=fun e o ho=>by
    by_cases z:(h,o)∈gg s gl dn
    .exact z
    .have:o∈(dw n g hs i h).filter (fun o=>decide ((h,o)∉gg s gl dn)):=bX.mpr ⟨ho,bB z⟩;rw[e] at this;cases this
   have frl:((dw n g hs i h).filter (fun o=>decide ((h,o)∉gg s gl dn))).length<=8:=bj (jG _ _) gl8;generalize (dw n g hs i h).filter (fun o=>decide ((h,o)∉gg s gl dn))=fr at *;refine⟨_,rfl,by show 0<=sizeLine;decide,fun E1 FM=>?_⟩;have sE:=aj (o:=.lst []) FM;have N9:=N8.same sE;have Wv:=sE _ _ Wt;have Ww:=sE _ _ TN;refine⟨D7,E1,_,[],rfl,rfl,aV.of Ww,aV.of af,fun i h1 h2=>absurd h2 (by simp),_,rfl,?_⟩;rw[ao rfl,zZ];have Wx:D7≠p:=by rintro rfl;exact N6.po.some I_
   generalize upd H8 E1 (.lst [])=H9 at *;cases ZD:fr with
   |nil=>exact tP ⟨⟨_,_,_,rfl⟩,gl,dn,N9,by rw[tk];exact L5.pass eh (frn ZD)⟩
   |cons o0 fr'=>
    have f0:0<fr.length:=by rw[ZD];exact ql _
    refine bR (fun _=>?_) (fun e=>absurd rfl e);refine⟨_,rfl,_,rfl,_,rfl,D7,_,rfl,.inl (aV.of Ww),p,_,rfl,by rw[aG];lia,by rw[aG];lia,N9.po,fun d a2 b2 d0 d1 k0 k1 k2=>?_⟩;rw[aG] at d1;obtain⟨dd,rfl⟩:∃dd:Nat,(dd:Int)=d:=⟨d.toNat,by lia⟩
    have Ng:aW (upd H9 p (.lst [.int a2,.int b2])) p:=aW.upd k0 k1 k2;have Nh:=N9.ZA (aR.upd (o:=.lst [.int a2,.int b2])) Ng TB n2 n3;have Ni:(upd H9 p (.lst [.int a2,.int b2])) D7=some (.lst (NV fr)):=by rw[ai Wx];exact Ww
    have Nj:(upd H9 p (.lst [.int a2,.int b2])) S=some (.tup (SV s)):=by rw[ai nS];exact Wv
    generalize upd H9 p (.lst [.int a2,.int b2])=ZE at *;have Wy:fR (NV fr) (dd:Int)=some (.int ((fr.getD dd 0:Nat):Int)):=mU (by lia);obtain⟨og,Q4⟩:=Wu _ (gU (js:=fr) (k:=dd) (by lia));generalize fr.getD dd 0=o at *;obtain⟨L5',ep⟩:=L5.take eh hip og Q4;have KM:i<gl.length:=by rw[L5.mid.len];exact il
    have Nk:(SV gl).set i (.int (o:Int))=SV (gl.set i (some o)):=by unfold SV;rw[List.map_set];rfl
    have rP:fR (SV (gl.set i (some o))) (i:Int)=some (.int (o:Int)):=by rw[dM (by rw[lM];exact KM),dJ KM,ao rfl];rfl
    have Wz:S≠Gn:=ak hS Q3;refine⟨D7,_,_,_,rfl,rfl,aV.of Ni,Wy,_,rfl,_,rfl,Gn,_,_,i,rfl,rfl,Nh.gn,kN (by rw[aG];exact KM),?_⟩;rw[Nk];refine⟨_,rfl,_,rfl,_,rfl,S,_,_,_,rfl,rfl,cR.of (by rw[ai Wz];exact Nj),kU,_,rfl,_,rfl,Gn,_,_,_,rfl,rfl,aV.of af,rP,by show 2<=sizeLine;decide,fun t2 KJ=>?_⟩;refine⟨Tk,_,rfl,r_.t (k:=lc (h,o)) (aj KJ _ _ (by rw[ai OO.symm];exact Nh.tk)) af ?_,⟨_,_,_,rfl⟩,_,_,Nh.put Q3 Wr OO TF TH n2 n3 Q4 ep KJ,by rw[tk];exact L5'⟩;unfold CK gg;rw[aG,aG];have:=tQ L5.nd (m:=us.take k) L5.sub;rw[iG] at this;exact gq this (bV (show min k us.length<17 by lia) (by decide))
  rintro σ Hc ⟨⟨x8,x9,Na,rfl⟩,g5,d5,ZF,L5⟩;rw[show (NV us).length=us.length from aG _,h9] at L5;refine⟨_,rfl,D,rfl,⟨_,aV.of ZF.ord⟩,?_⟩;refine jX (K:=K) (a:=D) (xs:=NV us) (fun k σ Hc=>(∃x8 x9 Na,σ=[some (.ref p),some (.ref O),some (.ref r),some (.ref a),some (.ref S),some (.ref D),some (.ref Gn),some (.ref Tk),x8,x9,Na])/\∃gl dn,Ne H p Gn Tk D us s Hc gl dn/\FL g s g5 gl d5 (us.take k) dn) ⟨⟨_,_,_,rfl⟩,_,_,ZF,FL.start L5⟩ (fun k σ Hc _ ⟨_,_,_,z,_⟩=>aV.of z.ord) ?_ ?_
  .rintro k v σ Hc hx ⟨⟨x8,x9,Na,rfl⟩,gl,dn,N,L6⟩;obtain⟨i,CI,rfl⟩:=IQ hx;have tk:us.take (k+1)=us.take k++[i]:=by rw[hX,CI];rfl
   have iu:i∈Gv s s.length:=op.mem_iff.mp (dW CI);obtain⟨h,kk,eh,hn,il,TL,ek,Gy⟩:=um i iu;have kU:fR (SV s) (i:Int)=some (.int (h:Int)):=by rw[dM il,eh];rfl
   have KM:i<gl.length:=by rw[L6.mid.len];exact il
   have OP:=N.sm _ _ hS nS;refine⟨_,rfl,_,rfl,Gn,_,_,_,rfl,rfl,aV.of N.gn,dM KM,rfl,_,rfl,?_⟩;rw[M7];refine bR (fun e=>?_) (fun e=>?_)
   rotate_left
   .exact⟨⟨_,_,_,rfl⟩,gl,dn,N,by rw[tk];exact L6.skip (fun z=>e (by rw[z];rfl))⟩
   have e':=Option.isNone_iff_eq_none.mp e;have FK:i∉dn:=fun z=>by
    obtain⟨_,_,_,b,_⟩:=L6.mid.inn i z;rw[e'] at b;cases b
   have Ws:(dn++[i]).Nodup:=iF.mpr ⟨L6.nd,dq.mpr ⟨(fun z=>nomatch z),h_⟩,fun u hu v hv z=>FK (by rw[bK] at hv;rw[<-hv,<-z];exact hu)⟩;have f0:=kM L6.mid Ws R Gd eh;have WA:=OF.dC N.sm hp kB;refine⟨_,rfl,_,rfl,_,rfl,S,_,_,_,rfl,rfl,cR.of OP,kU,O,_,rfl,WA.get hn,as.getD h 0,rfl,⟨_,aV.of (WA.rows.2 h hn)⟩,fun D7 I_=>?_⟩;have g8:=Gd.le h hn;refine pO (os:=g h) (fun o=>decide ((h,o)∉gg s gl dn)) (fun σ=>∃b,σ=[b,some (.ref S),some (.int (i:Int)),some (.ref Tk)]) (WA.rows.2 h hn) I_ (by lia) ⟨_,rfl⟩ ?_ ?_
   .rintro o σ H8 Kt Kf ho ⟨b',rfl⟩ Nf kt kf;refine⟨_,rfl,_,rfl,S,_,_,_,rfl,rfl,cR.of (Nf _ _ OP),kU,_,rfl,by show 2<=sizeLine;decide,fun t ht=>⟨_,rfl,Tk,_,rfl,iy.t (k:=lc (h,o)) (aj ht _ _ (Nf _ _ N.tk)) af,_,rfl,?_⟩⟩;refine bR (fun e=>?_) (fun e=>?_)
    .exact⟨_,rfl,kt _ _ ⟨_,rfl⟩ (aj ht) (bB (by rw[kW] at e;simpa using e))⟩
    .exact kf _ _ ⟨_,rfl⟩ (aj ht) (cH fun z=>z (by rw[kW] at e;simpa using e))
   intro H8 s8 TN;dsimp only;have N9:=N.same s8;have Wv:=s8 _ _ OP;have Wu:∀o∈(g h).filter (fun o=>decide ((h,o)∉gg s gl dn)),o∈g h/\(h,o)∉gg s gl dn:=fun o ho=>⟨(bX.mp ho).1,b9 (bX.mp ho).2⟩
   have frl:((g h).filter (fun o=>decide ((h,o)∉gg s gl dn))).length<=8:=bj (jG _ _) g8;have Wx:D7≠p:=by rintro rfl;exact N.po.some I_
   generalize (g h).filter (fun o=>decide ((h,o)∉gg s gl dn))=fr at *;refine⟨_,rfl,_,rfl,_,rfl,D7,_,rfl,.inl (aV.of TN),p,_,rfl,by rw[aG];lia,by rw[aG];lia,N9.po,fun d a2 b2 d0 d1 k0 k1 k2=>?_⟩;rw[aG] at d1;obtain⟨dd,rfl⟩:∃dd:Nat,(dd:Int)=d:=⟨d.toNat,by lia⟩
   have Ng:aW (upd H8 p (.lst [.int a2,.int b2])) p:=aW.upd k0 k1 k2;have Nh:=N9.ZA (aR.upd (o:=.lst [.int a2,.int b2])) Ng TB n2 n3;have Ni:(upd H8 p (.lst [.int a2,.int b2])) D7=some (.lst (NV fr)):=by rw[ai Wx];exact TN
   have Nj:(upd H8 p (.lst [.int a2,.int b2])) S=some (.tup (SV s)):=by rw[ai nS];exact Wv
   generalize upd H8 p (.lst [.int a2,.int b2])=ZE at *;have Wy:fR (NV fr) (dd:Int)=some (.int ((fr.getD dd 0:Nat):Int)):=mU (by lia);obtain⟨og,Q4⟩:=Wu _ (gU (js:=fr) (k:=dd) (by lia));generalize fr.getD dd 0=o at *;obtain⟨L6',ep,nd'⟩:=L6.take e' eh og Q4;have Nk:(SV gl).set i (.int (o:Int))=SV (gl.set i (some o)):=by unfold SV;rw[List.map_set];rfl
   have rP:fR (SV (gl.set i (some o))) (i:Int)=some (.int (o:Int)):=by rw[dM (by rw[lM];exact KM),dJ KM,ao rfl];rfl
   have Wz:S≠Gn:=ak hS Q3;refine⟨D7,_,_,_,rfl,rfl,aV.of Ni,Wy,_,rfl,_,rfl,Gn,_,_,i,rfl,rfl,Nh.gn,kN (by rw[aG];exact KM),?_⟩;rw[Nk];refine⟨_,rfl,_,rfl,_,rfl,S,_,_,_,rfl,rfl,cR.of (by rw[ai Wz];exact Nj),kU,_,rfl,_,rfl,Gn,_,_,_,rfl,rfl,aV.of af,rP,by show 2<=sizeLine;decide,fun t2 KJ=>?_⟩;refine⟨Tk,_,rfl,r_.t (k:=lc (h,o)) (aj KJ _ _ (by rw[ai OO.symm];exact Nh.tk)) af ?_,⟨_,_,_,rfl⟩,_,_,Nh.put Q3 Wr OO TF TH n2 n3 Q4 ep KJ,by rw[tk];exact L6'⟩;unfold CK gg;rw[aG,aG];have:dn.length<=us.length:=tQ L6.nd fun j hj=>by
    obtain⟨h',o',a,_,_⟩:=L6.mid.inn j hj;exact op.mem_iff.mpr (bX.mpr ⟨bL.mpr (aT a).1,by rw[a];rfl⟩)
   exact gq this (bV (show us.length<17 by lia) (by decide))
  rintro σ Hc ⟨⟨x8,x9,Na,rfl⟩,gl,dn,N,L6⟩;rw[show (NV us).length=us.length from aG _,h9] at L6;obtain⟨Hd,nf⟩:=Jc L5 L6 op;exact⟨_,rfl,Gn,_,rfl,.inl ⟨aV.of N.gn,fun t ht=>q t gl _ (N.sm.trans (aR.of (aj ht))) (N.po.same (aj ht)) af Hd nf⟩⟩
end
end xk
namespace L2
open PySem PySem.Spec PyProof.Rows
section
variable {X:Cx}
def TQ(X:Cx)(H:Hp)(d:Nat)(x y:V):Prop:=∀ (ae:List (Addr×Obj)) (s:Shared) (σ:St) (A:Around) (u v:Value),aP X ae σ H s->A.units+d<cLine->bi x u->bi y v->SeqAt.EqAt A s u v true
theorem Jd:TQ X H 0 (.int i) (.int i):=by
 intro ae s σ A u v I hu rx ry;have h:=DI (A:=A) (s:=s) rx ry rfl rfl;rw[show sQ (.int i) (.int i)=true by show decide (i=i)=true;simp] at h;exact h
theorem tV(I:aP X ae σ H s)(hu:A.units+d<cLine)(rx:aX xs us)(ry:aX ys vs)(he:∀i,i<xs.length->i<ys.length->TQ X H d (xs.getD i .bJ) (ys.getD i .bJ)):∀j (h1:j<us.toArray.size) (h2:j<vs.toArray.size),SeqAt.EqAt A s us.toArray[j] vs.toArray[j] true:=by
 intro j h1 h2;have j1:j<xs.length:=by rw[rx.length];simpa using h1
 have j2:j<ys.length:=by rw[ry.length];simpa using h2
 have e1:xs[j]?=some (xs.getD j .bJ):=by rw[bQ,bY j1];rfl
 have e2:ys[j]?=some (ys.getD j .bJ):=by rw[bQ,bY j2];rfl
 obtain⟨u,oP,ru⟩:=rx.get e1;obtain⟨v,Va,rv⟩:=ry.get e2;have eu:us.toArray[j]=u:=by
  have:us[j]?=some us.toArray[j]:=by simp at h1 |-
  rw[oP] at this;exact(aY this).symm
 have ev:vs.toArray[j]=v:=by
  have:vs[j]?=some vs.toArray[j]:=by simp at h2 |-
  rw[Va] at this;exact(aY this).symm
 rw[eu,ev];exact he j j1 j2 ae s σ A u v I hu ru rv
theorem xA:(List.range n).all (fun _=>true)=true:=lL.mpr fun _ _=>rfl
def KN(X:Cx)(Po:Bool)(d:Nat):R2:=fun x y H Q=>∃p q xs ys,x=.ref p/\y=.ref q/\aV X.K H p xs/\aV X.K H q ys/\xs.length=ys.length/\(∀i,i<xs.length->i<ys.length->TQ X H d (xs.getD i .bJ) (ys.getD i .bJ))/\Q (.bl (!Po)) H
theorem Je{d:Nat}(hu:X.A.units+(d+1)<cLine):mD X (compareOp .NotEq) (KN X true d):=by
 intro ae s σ H x y v u Q I rx ry h;obtain⟨p,q,xs,ys,rfl,rfl,hp,hq,hl,he,k⟩:=h;obtain rfl:v=Value.ref p:=rx;obtain rfl:u=Value.ref q:=ry;obtain⟨us,r1,p1,_⟩:=I.list hp;obtain⟨vs,r2,p2,_⟩:=I.list hq;refine SeqAt.RcNeAt.lists (e:=fun _=>true) p1.isList p2.isList (by simp only[cE];rw[<-r1.length,<-r2.length];exact hl) (by lia) (tV I (by show X.A.units+1+d<cLine;lia) r1 r2 he) _ _ _ _ ⟨.bl _,H,I,rfl,?_⟩;rw[xA];exact k
end
end L2
namespace xk
open PySem L2 sf
abbrev WB:Stmt:=gG 51
abbrev WC:Stmt:=gG 52
abbrev WD:Stmt:=gG 53
abbrev Nl:Stmt:=gG 54
theorem tW{K:PySem.W.Frag}{a D:Addr}{xs:List V}{g:TG}{tt:TT}{te:TE}{fin:Hp->Prop}{σB:St}{H0:Hp}(Pv:Nat->List V->St->Hp->Prop)(h0:Pv 0 [] σB H0)(hl:∀i ys σ H,i<=xs.length->Pv i ys σ H->cR K H a xs)(hs:∀i x ys σ H (Kt:V->St->Hp->Prop) (Kf:St->Hp->Prop),xs[i]?=some x->Pv i ys σ H->
   (∀v σ2 H4,H4 D=some (.lst ys)->ys.length<sizeLine->Pv (i+1) (ys++[v]) σ2 (upd H4 D (.lst (ys++[v])))->Kt v σ2 H4)->(∀σ2 H3,Pv (i+1) ys σ2 H3->Kf σ2 H3)->
   g x σ H fun σ2 H2=>tt σ2 H2 fun b H3=>if b=true then te σ2 H3 fun v H4=>Kt v σ2 H4 else Kf σ2 H3)(hd:∀ys σ H,Pv xs.length ys σ H->fin H):ig (Uw K a) g tt te D fin σB H0:=by
 refine⟨fun i m σ H=>m=xs.length-i/\i<=xs.length/\∃ys,Pv i ys σ H,⟨xs.length,by simp,dv _,[],h0⟩,?_⟩;rintro i m σ H ⟨rfl,hi,ys,p⟩;have q:=hl i ys σ H hi p;by_cases d9:i<xs.length
 .refine .inr ⟨⟨xs,xs[i],q,by simp[d9]⟩,?_⟩;rintro x H' ⟨rfl,y⟩;exact hs i x ys σ _ (fun v σ2 H4=>∃ys,H4 D=some (.lst ys)/\ys.length<sizeLine/\∃m',m'<xs.length-i/\m'=xs.length-(i+1)/\i+1<=xs.length/\∃o7,Pv (i+1) o7 σ2 (upd H4 D (.lst (ys++[v]))))
   (fun σ2 H3=>∃m',m'<xs.length-i/\m'=xs.length-(i+1)/\i+1<=xs.length/\∃o7,Pv (i+1) o7 σ2 H3) (y xs q) p
   (fun v σ2 H4 z1 z2 z3=>⟨ys,z1,z2,_,by lia,rfl,d9,_,z3⟩) (fun σ2 H3 z=>⟨_,by lia,rfl,d9,_,z⟩)
 .have e:i=xs.length:=by lia
  subst e;exact .inl ⟨⟨xs,q,ba _⟩,hd ys σ H p⟩
theorem Jf{X:Cx}{d:Nat}(hu:X.A.units+(d+1)<cLine):mD X (compareOp .Eq) (KN X false d):=by
 intro ae s σ H x y v u Q I rx ry h;obtain⟨p,q,xs,ys,rfl,rfl,hp,hq,hl,he,k⟩:=h;obtain rfl:v=Value.ref p:=rx;obtain rfl:u=Value.ref q:=ry;obtain⟨us,r1,p1,_⟩:=I.list hp;obtain⟨vs,r2,p2,_⟩:=I.list hq;refine SeqAt.eq_listAt (e:=fun _=>true) p1.isList p2.isList (by simp only[cE];rw[<-r1.length,<-r2.length];exact hl) (by lia) (tV I (by show X.A.units+1+d<cLine;lia) r1 r2 he) ⟨.bl _,H,I,rfl,?_⟩;rw[xA];exact k
theorem Nm:(["_law_one"]:List Str).Nodup:=by decide +kernel
theorem FN:(["_law_house"]:List Str).Nodup:=by decide +kernel
theorem FO{X:Cx}{H:Hp}{os:List Nat}:∀i,i<(NV os).length->i<(NV os).length->TQ X H 0 ((NV os).getD i .bJ) ((NV os).getD i .bJ):=fun i h _=>by
 rw[bQ,bY h,Option.getD_some,yB];exact Jd
theorem xB{as:List Addr}{k:Nat}:wz (as.map V.ref) none (some (k:Int))=(as.take k).map V.ref:=by
 have h1:HT.rW (as.map V.ref).length 0 none=0:=rfl;have h2:HT.rW (as.map V.ref).length (as.map V.ref).length (some (k:Int))=min k as.length:=by
  unfold HT.rW;simp;try lia
 unfold wz;rw[h1,h2,uz,Nat.sub_zero,List.map_take,List.take_eq_take_iff];simp;try lia
section
variable {n:Nat} {g:Nat->List Nat} {hs:List Int} {L:Nat} {ss ls:Nat->List (Option Nat)}
theorem gB.start{s:List (Option Nat)}{ls:Nat->List (Option Nat)}(h:QI n hs s)(R:eD n g s)(sl:s.length=hs.length):gB n g hs 0 (fun _=>s) ls []:=
 ⟨iN.start (fun z hz=>nomatch hz) fun i h e=>R.1 h (aT e).2,fun b hb=>absurd hb (by lia),h.1,fun b _=>h.2,fun b _=>sl⟩
theorem gB.push{gs:List (Option Nat)}(N:gB n g hs L ss ls [])(G:fh n g)(R:eD n g (ss L))(Hd:dk g (ss L) gs)(nf:NF n g hs (ss L) gs):gB n g hs (L+1) (xu ss (L+1) (bh hs gs)) (xu ls L gs) []:=by
 have R5:eD n g (bh hs gs):=Hd.right G R vC (fun i=>KD i);refine⟨N.r.push Hd (fun _ _=>rfl) (fun _ h=>h) (fun z hz=>nomatch hz) fun i h e=>R5.1 h (aT e).2,fun b hb=>?_,N.hm,fun b hb i h e=>?_,fun b hb=>?_⟩
 .rw[io (show b≠L+1 by lia)];by_cases e:b=L
  .rw[e,jj];exact nf
  .rw[io e];exact N.nf b (by lia)
 .by_cases e':b=L+1
  .rw[e',jj,vD] at e;intro z;unfold KB at e;split at e
   .cases e
   .rename_i x _;by_cases c:(x:Int)=hs.getD i 0
    .rw[ao c] at e;cases e
    .rw[ap c] at e;cases e;exact c z.symm
  .rw[io e'] at e;exact N.off b (by lia) i h e
 .by_cases e':b=L+1
  .rw[e',jj,vC,Hd.len];exact N.sl L (ba _)
  .rw[io e'];exact N.sl b (by lia)
theorem gB.cut{M:Nat}{ns:List Int}(N:gB n g hs L ss ls ns)(h:M<=L):gB n g hs M ss ls ns:=
 ⟨⟨fun b hb=>N.r.tie b (by lia),fun b hb=>N.r.next b (by lia),fun z hz b hb=>N.r.fresh z hz b (by lia),fun b hb i a c d e f=>N.r.out b (by lia) i a c d e (by lia),fun b hb=>N.r.lt b (by lia)⟩,fun b hb=>N.nf b (by lia),N.hm,fun b hb=>N.off b (by lia),fun b hb=>N.sl b (by lia)⟩
theorem tX{H:Hp}{as:List Addr}{L M:Nat}{f:Nat->HO}(h:Holds H as L f)(le:M<=L):Holds H (as.take M) M f:=by
 refine⟨by rw[iG,h.1];lia,fun j hj=>?_⟩;have e:(as.take M).getD j 0=as.getD j 0:=by rw[bQ,bQ,xX hj]
 rw[e];exact h.2 j (by lia)
end
def FP(H H':Hp)(v:V):Option (List Nat)->Prop
 |none=>v=.bJ
 |some zs=>∃D,v=.ref D/\H D=none/\H' D=some (.lst (NV zs))
section
variable {P:Program} {w:World} {K:PySem.W.Frag} {mg:Str->Option Value} {base:Heap}
theorem Q5:aI ["_law_pot_here","_law_stands","_law_log_here","_law_many"] ["_law_pot_here","_law_stands","_law_log_here"] (am WC):=⟨rfl,rfl,rfl,by decide +kernel,rfl,by decide +kernel,by decide +kernel⟩
def Nn:Sp:=fun vs H Q _=>∃ (p SA LA:Addr) (bA bp:List Addr) (m L:Nat) (ss ls:Nat->List (Option Nat)),vs=[.ref p,.ref SA,.ref LA]/\aW H p/\cS H SA LA bA bp m L ss ls/\SA≠p/\LA≠p/\L<=60/\
 ∀ (t WE WF:Addr) (WG WH:List Addr) (M:Nat) (H':Hp),H' t=some (.tup [.ref WE,.ref WF])->cS H' WE WF WG WH m M ss ls->M<=L->WE≠p->WF≠p->aR p H H'->aW H' p->Q (.ref t) H'
theorem Q6{f:Addr}{fd:FuncData}(F:fX K "_law_cut" "_law_cut" WC f fd)(B:Bl mg)(TK:cp P w K mg base be 1 "_law_take" ["_law_pot_here","_law_many"] ku):bz P w K mg base be 2 f fd ["_law_pot_here","_law_stands","_law_log_here"] Nn:=by
 refine F.ok Q5 (fun vs H Q E h=>?_) (fun dQ A outer s0 H vs Q E hr h=>?_)
 .obtain⟨p,SA,LA,bA,bp,m,L,ss,ls,rfl,_⟩:=h;rfl
 .obtain⟨p,SA,LA,bA,bp,m,L,ss,ls,rfl,hp,LG,Q7,TU,xR,q⟩:=h;have h1:b_ 1 _:=hr.mono (by decide);refine⟨_,(ah (bx (aK Dx (aE TK h1 aQ (aa (pv 0) (aa aq ag))) aq (aO _)) (al (aH (fN (aa (pv 1) (aa (pv 2) ag))))) aS)
   (ah (aL (i:=3) Q5.nd rfl (Or.inl rfl) (aE TK h1 aQ (aa (pv 0) (aa (bC dF (au aD (by rfl) B.len ce (aa (pv 2) ag)) aq) ag))))
   (al (aH (fN (aa (qC uU (pv 1) uR (uS (bC dF (pv 3) aq))) (aa (qC uU (pv 2) uR (uS (pv 3))) ag))))))),?_⟩
  refine⟨_,rfl,p,3,rfl,by decide,by decide,hp,fun d a b d0 d1 a0 b0 b1=>⟨_,_,rfl,rfl,_,rfl,?_⟩⟩;have CO:aW (upd H p (.lst [.int a,.int b])) p:=aW.upd a0 b0 b1;have QT:aR p H (upd H p (.lst [.int a,.int b])):=aR.upd;have Tt:=LG.dC QT hp Q7 TU;generalize upd H p (.lst [.int a,.int b])=H1 at *;refine bR (fun e=>?_) (fun e=>?_)
  .refine⟨_,rfl,_,rfl,by show 2<=sizeLine;decide,fun t ht=>?_⟩;have st:=aj (o:=.tup [.ref SA,.ref LA]) ht;exact q t SA LA bA bp L _ af (Tt.same st) (ba _) Q7 TU (QT.trans (aR.of st)) (CO.same st)
  .obtain⟨g1,g2,g3,g4,g5,g6⟩:=Tt;have ll:(((bp.map V.ref).length:Nat):Int)=(L:Int):=by rw[aG,g4.1]
   refine⟨_,rfl,_,rfl,LA,_,rfl,.inl (aV.of g2),_,_,rfl,rfl,p,_,rfl,by lia,by lia,CO,fun d2 a2 b2 e0 e1 c0 c1 c2=>?_⟩;have Gs:aW (upd H1 p (.lst [.int a2,.int b2])) p:=aW.upd c0 c1 c2;have Kz:aR p H1 (upd H1 p (.lst [.int a2,.int b2])):=aR.upd;have WI:=cS.dC ⟨g1,g2,g3,g4,g5,g6⟩ Kz CO Q7 TU;generalize upd H1 p (.lst [.int a2,.int b2])=H2 at *;obtain⟨k,rfl⟩:∃k:Nat,(k:Int)=d2:=⟨d2.toNat,by lia⟩
   have kL:k<=L:=by lia
   obtain⟨g1,g2,g3,g4,g5,g6⟩:=WI;refine⟨_,rfl,_,rfl,_,_,rfl,rfl,_,rfl,SA,_,rfl,aV.of g1,fun S2 ZG=>?_⟩;rw[show ((k:Int)+1)=((k+1:Nat):Int) by lia,xB];have s3:=aj (o:=.lst ((bA.take (k+1)).map V.ref)) ZG;refine⟨_,rfl,_,rfl,_,rfl,LA,_,rfl,aV.of (s3 _ _ g2),fun L2 Tl=>?_⟩;rw[xB];have s4:=aj (o:=.lst ((bp.take k).map V.ref)) Tl;have hSn:(upd (upd H2 S2 (.lst ((bA.take (k+1)).map V.ref))) L2 (.lst ((bp.take k).map V.ref))) S2=some (.lst ((bA.take (k+1)).map V.ref)):=s4 _ _ af;have hLn:(upd (upd H2 S2 (.lst ((bA.take (k+1)).map V.ref))) L2 (.lst ((bp.take k).map V.ref))) L2=some (.lst ((bp.take k).map V.ref)):=af;have s34:=s3.trans s4;have nS:S2≠p:=by rintro rfl;exact Gs.some ZG
   have nL:L2≠p:=by rintro rfl;exact(Gs.same s3).some Tl
   generalize upd (upd H2 S2 (.lst ((bA.take (k+1)).map V.ref))) L2 (.lst ((bp.take k).map V.ref))=H3 at *;refine⟨by show 2<=sizeLine;decide,fun t ht=>?_⟩;have st:=aj (o:=.tup [.ref S2,.ref L2]) ht;have s5:=s34.trans st;exact q t S2 L2 _ _ k _ af ⟨st _ _ hSn,st _ _ hLn,tX (g3.mono fun j _ e=>s5 _ _ e) (by lia),tX (g4.mono fun j _ e=>s5 _ _ e) kL,fun b hb=>g5 b (by lia),fun b hb=>g6 b (by lia)⟩ kL nS nL (QT.trans (Kz.trans (aR.of s5))) (Gs.same s5)
theorem WJ:aI ["_law_found","_law_due"] ["_law_found","_law_due"] (am WD):=⟨rfl,rfl,rfl,by decide +kernel,rfl,by decide +kernel,by decide +kernel⟩
def No:Sp:=fun vs H Q _=>∃ (a b:Addr) (os:List Nat),vs=[.ref a,.ref b]/\H a=some (.lst (NV os))/\H b=some (.lst (NV os))/\os.length<=100/\∀H',aM H H'->Q (.bl true) H'
theorem Q8{f:Addr}{fd:FuncData}(F:fX K "_law_is_list" "_law_is_list" WD f fd)(B:Bl mg):bz P w K mg base be 1 f fd ["_law_found","_law_due"] No:=by
 refine F.ok WJ (fun vs H Q E h=>?_) (fun dQ A outer s H vs Q E hr h=>?_)
 .obtain⟨a,b,os,rfl,_⟩:=h;rfl
 .obtain⟨a,b,os,rfl,ha,hb,ol,q⟩:=h;refine'⟨_,(ah (bx (PW.pt (oH (et (dE (au eV (by rfl) B.EB lf (aa (pv 0) (aa (fQ (v:=.ty "list") rfl B.lst ub rfl) ag))))) (l0 (aK (Je (d:=0) hr.u) (pv 0) (pv 1) (aO _))))) (al (aH fW)) aS)
   (al (aH (au (Cn rfl) (by rfl) B.all PyProof.Rows.boot_all (aa ?c1 ag))))),?_⟩
  case c1=>
   refine' cK (g:=(bH 0)) (te:=(JU (Pl (LH K) (bT (bb 0) (bT (tC (.ty "int")) jB))) (JV (Pl (LH K) (bT (bb 0) (bT (tC (.ty "bool")) jB)))))) (NB:=["_law_one"]) (src:=[none]) (cj (by kernel_rfl)) rfl (cJ (pv 0)) ?g ?t ?e;case g=>exact fun cl C s₃ H₃ fp=>(aF (i:=0) Nm rfl (Or.inl rfl) (Or.inr rfl))
   case t=>exact fun cl C s₃ H₃ fp=>fT
   case e=>exact fun cl C s₃ H₃ fp=>(fL (au eV (by rfl) B.EB lf (aa (pv 0) (aa (fQ (v:=.ty "int") rfl B.int pY rfl) ag))) (gm (yO (au eV (by rfl) B.EB lf (aa (pv 0) (aa (fQ (v:=.ty "bool") rfl B.bool x_ rfl) ag))))))
  refine⟨_,rfl,_,_,_,.type "list",true,rfl,⟨rfl,lE⟩,.of (.lst ha),true,rfl,?_⟩;refine bR (fun e=>absurd e (by decide)) (fun _=>?_);refine⟨_,rfl,_,rfl,a,b,_,_,rfl,rfl,aV.of ha,aV.of hb,rfl,FO,_,rfl,?_⟩;refine bR (fun e=>absurd e (by decide)) (fun _=>?_);refine⟨_,rfl,a,rfl,⟨_,aV.of ha⟩,fun D hD=>?_⟩;refine IY os (fun (x:Nat)=>V.int (x:Int)) (fun _=>V.bl true) (fun σ=>∃x,σ=[x]) ha hD (by lia) ⟨_,rfl⟩ ?_ ?_
  .rintro x σ H2 R Kf hx ⟨x',rfl⟩ sm kk;refine⟨_,rfl,_,_,_,.type "int",true,rfl,⟨rfl,im⟩,.of (.int _),true,rfl,?_⟩;exact mV ⟨_,rfl,_,_,_,.type "int",false,rfl,⟨rfl,gy⟩,.of (.int _),false,rfl,kk _ _ ⟨_,rfl⟩ (aM.refl _)⟩
  .intro H2 sm m5;have e0:(os.map fun _=>V.bl true)=(os.map fun _=>true).map V.bl:=by rw[ic];rfl
   rw[e0] at m5;refine⟨D,_,rfl,aV.of m5,?_⟩;have e:(os.map fun _=>true).all id=true:=by
    rw[lL];intro x s_;obtain⟨_,_,rfl⟩:=cf.mp s_;rfl
   rw[e];exact q _ sm
theorem Bd:aI ["_law_pot_here","_law_outs","_law_fars_here","_law_homes","_law_stand","_law_stands","_law_log_here","_law_beat"] ["_law_pot_here","_law_outs","_law_fars_here","_law_homes","_law_stand"] (am Nl):=⟨rfl,rfl,rfl,by decide +kernel,rfl,by decide +kernel,by decide +kernel⟩
def z4:Sp:=fun vs H Q _=>∃ (p O r a S:Addr) (as ds:List Addr) (n:Nat) (g:Nat->List Nat) (hs:List Int) (s:List (Option Nat)),vs=[.ref p,.ref O,.ref r,.ref a,.ref S]/\aW H p/\OE as n p/\fA H O as n g/\e_ H r ds n g/\fh n g/\H a=some (.tup (HV hs))/\H S=some (.tup (SV s))/\s.length=hs.length/\s.length<=16/\eD n g s/\QI n hs s/\
 ∀ (t SA LA:Addr) (bA bp:List Addr) (L:Nat) (ss ls:Nat->List (Option Nat)) (H':Hp),H' t=some (.tup [.ref SA,.ref LA])->cS H' SA LA bA bp s.length L ss ls->gB n g hs L ss ls []->L<=60->aR p H H'->aW H' p->H SA=none->H LA=none->Q (.ref t) H'
theorem Np{f:Addr}{fd:FuncData}(F:fX K "_law_log" "_law_log" Nl f fd)(B:Bl mg)(NE:cp P w K mg base be 3 "_law_eager" ["_law_pot_here","_law_outs","_law_fars_here","_law_homes","_law_stand"] M8)(BE:cp P w K mg base be 1 "_law_behind" ["_law_homes","_law_stand","_law_gone"] Fd):
  bz P w K mg base be 4 f fd ["_law_pot_here","_law_outs","_law_fars_here","_law_homes","_law_stand"] z4:=by
 refine F.ok Bd (fun vs H Q E h=>?_) (fun dQ A outer s0 H vs Q E hr h=>?_)
 .obtain⟨p,O,r,a,S,as,ds,n,g,hs,s,rfl,_⟩:=h;rfl
 .obtain⟨p,O,r,a,S,as,ds,n,g,hs,s,rfl,hp,kB,OF,FR,G,ha,hS,sl,OG,R,HM,q⟩:=h;have h1:b_ 1 _:=hr.mono (by decide);have h3:b_ 3 _:=hr;have Q7:S≠p:=by rintro rfl;obtain⟨u,v,e,_⟩:=hp;rw[e] at hS;cases hS
  have ZH:a≠p:=by rintro rfl;obtain⟨u,v,e,_⟩:=hp;rw[e] at ha;cases ha
  refine'⟨_,(ah (aL (i:=5) Bd.nd rfl (Or.inl rfl) (dS (aa (pv 4) ag)))
   (ah (aL (i:=6) Bd.nd rfl (Or.inl rfl) (dS ag))
   (ah (dR eR rfl (dP rfl B.range (aa aq ag)) (aF (i:=7) Bd.nd rfl (Or.inl rfl))
    (al (bx (aK (zo (e:=sQ) hr.u) ?c1 (dS ag) (aO _)) (ah (cw (gO gI jp jo cC (pv 6) (aa (aE NE h3 aQ (aa (pv 0) (aa (pv 1) (aa (pv 2) (aa (pv 3) (aa (aA aB (pv 5) (lv iw aq) (fun _ _=>rfl)) ag)))))) ag)))
     (al (cw (gO gI jp jo cC (pv 5) (aa (aE BE h1 aQ (aa (pv 3) (aa (aA aB (pv 5) (lv iw aq) (fun _ _=>rfl)) (aa (aA aB (pv 6) (lv iw aq) (fun _ _=>rfl)) ag)))) ag))))) aS)))
   (al (aH (fN (aa (pv 5) (aa (pv 6) ag)))))))),?_⟩
  case c1=>
   refine' cK (g:=(bH 0)) (tt:=(jZ (mE (fun x y H Q=>y=.bJ/\Q (.bl (!decide (x=.bJ))) H) (bb 0) (tC .bJ)))) (te:=(bb 0)) (NB:=["_law_house"]) (src:=[none]) (cj (by kernel_rfl)) rfl (Dt (aA aB (pv 5) (lv iw aq) (fun _ _=>rfl))) ?g ?t ?e;case g=>exact fun cl C s₃ H₃ fp=>(aF (i:=0) FN rfl (Or.inl rfl) (Or.inr rfl))
   case t=>exact fun cl C s₃ H₃ fp=>eF (aK pr (pv 0) cu (aO _))
   case e=>exact fun cl C s₃ H₃ fp=>(pv 0)
  refine⟨_,rfl,by show 1<=sizeLine;decide,fun SA Q9=>⟨by show 0<=sizeLine;decide,fun LA WK=>?_⟩⟩;have WL:SA≠LA:=ak af WK;have Nq:H LA=none:=(aj Q9).free WK;have KL:=(aj (o:=.lst [.ref S]) Q9).trans (aj (o:=.lst []) WK);have Q_:SA≠p:=by rintro rfl;exact hp.some Q9
  have Ra:LA≠p:=by rintro rfl;exact hp.some Nq
  let J:Nat->Hp->Prop:=fun i Hc=>aR p H Hc/\aW Hc p/\∃bA bp L ss ls,L<=i/\cS Hc SA LA bA bp s.length L ss ls/\eD n g (ss L)/\gB n g hs L ss ls []
  have J0:J 0 (upd (upd H SA (.lst [.ref S])) LA (.lst [])):=by
   refine⟨aR.of KL,hp.same KL,[S],[],0,fun _=>s,fun _=>[],ba _,⟨by rw[ai WL];exact af,af,⟨rfl,fun j hj=>?_⟩,Holds.nil,fun b _=>rfl,fun b hb=>absurd hb (by lia)⟩,R,gB.start HM R sl⟩;have:j=0:=by lia
   subst this;exact KL _ _ hS
  refine⟨60,rfl,by decide,by decide,eE (n:=60) (lo:=0) (fun i σ Hc=>(∃v6,σ=[some (.ref p),some (.ref O),some (.ref r),some (.ref a),some (.ref S),some (.ref SA),some (.ref LA),v6])/\J i Hc) ⟨⟨_,rfl⟩,J0⟩ ?_ ?_⟩
  .rintro i σ Hc hi ⟨⟨v6,rfl⟩,sc,pc,bA,bp,L,ss,ls,hL,LG,RC,LN⟩;obtain⟨g1,g2,g3,g4,g5,g6⟩:=LG;have LG:cS Hc SA LA bA bp s.length L ss ls:=⟨g1,g2,g3,g4,g5,g6⟩
   have ZI:(ss L).length=s.length:=g5 L (ba _);have hT:=g3.2 L (by lia);refine⟨_,rfl,_,rfl,SA,_,_,_,rfl,rfl,aV.of g1,mW g3.1,_,rfl,⟨_,cR.of hT⟩,fun D hD=>?_⟩;refine tW (K:=K) (xs:=SV (ss L)) (fun j ys σ H3=>(∃b,σ=[b])/\ys.length<=j/\aM Hc H3/\H3 D=some (.lst ys)) ⟨⟨_,rfl⟩,ba _,aj hD,af⟩ (fun j ys σ H3 _ z=>cR.of (z.2.2.1 _ _ hT)) ?_ ?_
   .rintro j x ys σ H3 Kt Kf hx ⟨⟨b,rfl⟩,yl,sm,jE⟩ kt kf;have hj:=(cM.mp hx).1;rw[aG] at hj;refine⟨_,rfl,rfl,_,rfl,?_⟩;refine bR (fun e=>?_) (fun e=>kf _ _ ⟨⟨_,rfl⟩,by lia,sm,jE⟩);exact⟨_,rfl,kt _ _ _ jE (gq yl (bV (show j<17 by lia) (by decide))) ⟨⟨_,rfl⟩,by rw[cr,ug];lia,dU.bU sm hD,af⟩⟩
   rintro ys σ H3 ⟨_,_,sm,jE⟩;dsimp only;refine⟨by show 0<=sizeLine;decide,fun E1 FM=>?_⟩;have s3:=sm.trans (aj (o:=.lst []) FM);have tK:=aj (o:=.lst []) FM _ _ jE;refine⟨D,E1,_,[],rfl,rfl,aV.of tK,aV.of af,fun i h1 h2=>absurd h2 (by simp),_,rfl,?_⟩;have ZJ:=LG.same s3;have Rb:=sc.trans (aR.of s3);have WM:=pc.same s3;generalize upd H3 E1 (.lst [])=H4 at *;refine bR (fun _=>?_) (fun _=>⟨⟨_,rfl⟩,Rb,WM,bA,bp,L,ss,ls,by lia,ZJ,RC,LN⟩);obtain⟨g1,g2,g3,g4,g5,g6⟩:=ZJ;refine⟨_,rfl,.inl ⟨rfl,_,aV.of g2⟩,_,rfl,_,rfl,_,rfl,_,rfl,_,rfl,_,rfl,SA,_,_,_,rfl,rfl,aV.of g1,mW g3.1,p,O,r,a,bA.getD L 0,as,ds,n,g,hs,ss L,rfl,WM,kB,OF.dC Rb hp kB,FR.dC Rb hp,G,Rb _ _ ha ZH,g3.2 L (by lia),by lia,by lia,RC,HM.1,fun t gs H5 s5 p5 ht Hd nf=>?_⟩;have gl:gs.length=s.length:=by rw[Hd.len];exact ZI
   have Nr:=s5 _ _ g2 Ra;refine⟨LA,_,_,rfl,rfl,Nr,by rw[aG,g4.1];exact bV (show L<61 by lia) (by decide),?_⟩;have C3:aR p H (upd H5 LA (.lst (bp.map V.ref++[.ref t]))):=gH (Rb.trans s5) Nq;have p6:aW (upd H5 LA (.lst (bp.map V.ref++[.ref t]))) p:=by obtain⟨x,y,e,z⟩:=p5;exact⟨x,y,by rw[ai Ra.symm];exact e,z⟩
   have kt6:rm H4 (upd H5 LA (.lst (bp.map V.ref++[.ref t]))):=(rm.Zd s5 WM).trans (rm.upd Nr);have OQ:(upd H5 LA (.lst (bp.map V.ref++[.ref t]))) SA=some (.lst (bA.map V.ref)):=by rw[ai WL];exact s5 _ _ g1 Q_
   have ZK:(upd H5 LA (.lst (bp.map V.ref++[.ref t]))) LA=some (.lst ((bp++[t]).map V.ref)):=by rw[af,cP];rfl
   have TV:(upd H5 LA (.lst (bp.map V.ref++[.ref t]))) t=some (.tup (SV gs)):=rm.upd Nr _ _ ht;generalize upd H5 LA (.lst (bp.map V.ref++[.ref t]))=H6 at *;have ll:(bp++[t]).length=L+1:=by rw[cr,g4.1];rfl
   have Re:fR ((bp++[t]).map V.ref) (-1)=some (.ref t):=by rw[mW ll,iM g4.1,ao rfl]
   refine⟨_,rfl,.inl ⟨rfl,_,aV.of OQ⟩,_,rfl,_,rfl,_,rfl,SA,_,_,_,rfl,rfl,aV.of OQ,mW g3.1,_,rfl,_,rfl,LA,_,_,_,rfl,rfl,aV.of ZK,Re,a,t,_,hs,gs,rfl,C3 _ _ ha ZH,TV,by lia,by lia,fun r2 H7 s7 Os=>?_⟩;have TW:=s7 _ _ OQ;refine⟨SA,_,_,rfl,rfl,TW,by rw[aG,g3.1];exact bV (show L+1<62 by lia) (by decide),?_⟩;have Nf:aR p H (upd H7 SA (.lst (bA.map V.ref++[.ref r2]))):=gH (C3.trans (aR.of s7)) Q9;have p8:aW (upd H7 SA (.lst (bA.map V.ref++[.ref r2]))) p:=by obtain⟨x,y,e,z⟩:=p6.same s7;exact⟨x,y,by rw[ai Q_.symm];exact e,z⟩
   have kt8:rm H4 (upd H7 SA (.lst (bA.map V.ref++[.ref r2]))):=(kt6.trans (rm.of s7)).trans (rm.upd TW);have Wt:(upd H7 SA (.lst (bA.map V.ref++[.ref r2]))) SA=some (.lst ((bA++[r2]).map V.ref)):=by rw[af,cP];rfl
   have hL8:(upd H7 SA (.lst (bA.map V.ref++[.ref r2]))) LA=some (.lst ((bp++[t]).map V.ref)):=by rw[ai WL.symm];exact s7 _ _ ZK
   have ht8:(upd H7 SA (.lst (bA.map V.ref++[.ref r2]))) t=some (.tup (SV gs)):=rm.upd TW _ _ (s7 _ _ TV);have hr8:(upd H7 SA (.lst (bA.map V.ref++[.ref r2]))) r2=some (.tup (SV (bh hs gs))):=rm.upd TW _ _ Os;generalize upd H7 SA (.lst (bA.map V.ref++[.ref r2]))=H8 at *;have mv:=Hd.moves G RC;have R5:eD n g (bh hs gs):=Hd.right G RC vC (fun i=>KD i);have bl:(bh hs gs).length=s.length:=by rw[vC];exact gl
   exact⟨⟨_,rfl⟩,Nf,p8,_,_,L+1,_,_,by lia,cS.push ⟨g1,g2,g3,g4,g5,g6⟩ kt8 Wt hL8 ht8 hr8 bl mv,by rw[jj];exact R5,LN.push G RC Hd nf⟩
  .rintro σ Hc ⟨⟨v6,rfl⟩,sc,pc,bA,bp,L,ss,ls,hL,LG,RC,LN⟩;refine⟨_,rfl,_,rfl,by show 2<=sizeLine;decide,fun t ht=>?_⟩;have st:=aj (o:=.tup [.ref SA,.ref LA]) ht;exact q t SA LA bA bp L ss ls _ af (LG.same st) LN hL (sc.trans (aR.of st)) (pc.same st) Q9 Nq
end
theorem xC{hs:List Int}{ls:Nat->List (Option Nat)}{nx:Nat->Nat->Nat}{k b c:Nat}(h:kF hs (ls b) c=true):vM hs ls nx (k+1) b c=some [c]:=ao h
theorem xD{hs:List Int}{ls:Nat->List (Option Nat)}{nx:Nat->Nat->Nat}{k b c:Nat}(h:kF hs (ls b) c≠true):vM hs ls nx (k+1) b c=(vM hs ls nx k (b+1) (nx (b+1) c)).map (c::·):=ap h
theorem xE{o:Option (List Nat)}{zs:List Nat}{c:Nat}:(o.map (c::·)).map (zs++·)=o.map ((zs++[c])++·):=by
 cases o with
 |none=>rfl
 |some l=>show some (zs++(c::l))=some ((zs++[c])++l);rw[jr];rfl
theorem xF{hs:List Int}{l:List (Option Nat)}{c:Nat}:decide (jF (l.getD c none)=V.int (hs.getD c 0))=kF hs l c:=by
 unfold kF;cases l.getD c none with
 |none=>exact cH fun z=>by cases z
 |some o=>exact pq
section
variable {P:Program} {w:World} {K:PySem.W.Frag} {mg:Str->Option Value} {base:Heap}
theorem CP:aI ["_law_outs","_law_fars_here","_law_homes","_law_stands","_law_log_here","_law_i","_law_beat","_law_found","_law_one","_law_at","_law_stand"] ["_law_outs","_law_fars_here","_law_homes","_law_stands","_law_log_here","_law_i","_law_beat"] (am WB):=⟨rfl,rfl,rfl,by decide +kernel,rfl,by decide +kernel,by decide +kernel⟩
def Jg:Sp:=fun vs H Q _=>∃ (O r a SA LA:Addr) (as ds bA bp:List Addr) (n L:Nat) (g:Nat->List Nat) (hs ns:List Int) (ss ls:Nat->List (Option Nat)) (i b:Nat),vs=[.ref O,.ref r,.ref a,.ref SA,.ref LA,.int i,.int b]/\fA H O as n g/\e_ H r ds n g/\fh n g/\eW n (bf n g)/\H a=some (.tup (HV hs))/\hs.length<=16/\cS H SA LA bA bp hs.length L ss ls/\gB n g hs L ss ls ns/\L<=60/\i<hs.length/\b<L/\
 ∀ (v:V) (H':Hp),aM H H'->FP H H' v (FF n g hs L ss ls b i)->Q v H'
theorem Rf{f:Addr}{fd:FuncData}(F:fX K "_law_blame" "_law_blame" WB f fd)(B:Bl mg)(LE:cp P w K mg base be 1 "_law_is_led" ["_law_fars_here","_law_homes","_law_stand","_law_gone","_law_i"] FI)(TR:cp P w K mg base be 1 "_law_taker" ["_law_stand","_law_gone","_law_i","_law_house"] M5)(GO:cp P w K mg base be 1 "_law_goods" ["_law_outs","_law_fars_here","_law_home","_law_house"] IZ):bz P w K mg base be 2 f fd ["_law_outs","_law_fars_here","_law_homes","_law_stands","_law_log_here","_law_i","_law_beat"] Jg:=by
 refine F.ok CP (fun vs H Q E h=>?_) (fun dQ A outer s0 H vs Q E hr h=>?_)
 .obtain⟨O,r,a,SA,LA,as,ds,bA,bp,n,L,g,hs,ns,ss,ls,i,b,rfl,_⟩:=h;rfl
 .obtain⟨O,r,a,SA,LA,as,ds,bA,bp,n,L,g,hs,ns,ss,ls,i,b,rfl,OF,FR,G,Fi,ha,CQ,LG,LN,xR,hi,hb,q⟩:=h;have h1:b_ 1 _:=hr.mono (by decide);refine⟨_,(ah (bx (et (dE (aE LE h1 aQ (aa (pv 1) (aa (pv 2) (aa (aA aB (pv 3) (pv 6) (fun _ _=>rfl)) (aa (aA aB (pv 4) (pv 6) (fun _ _=>rfl)) (aa (pv 5) ag)))))))) (al (aH cu)) aS)
   (ah (aL (i:=7) CP.nd rfl (Or.inl rfl) (dS ag))
   (ah (aL (i:=8) CP.nd rfl (Or.inl rfl) (pv 5))
   (ah (dR eR rfl (nK rfl B.range (aa (pv 6) (aa (au aD (by rfl) B.len ce (aa (pv 4) ag)) ag))) (aF (i:=9) CP.nd rfl (Or.inl rfl))
    (ah (aL (i:=10) CP.nd rfl (Or.inl rfl) (aA aB (pv 3) (pv 9) (fun _ _=>rfl)))
    (ah (bx (dE (aE LE h1 aQ (aa (pv 1) (aa (pv 2) (aa (pv 10) (aa (aA aB (pv 4) (pv 9) (fun _ _=>rfl)) (aa (pv 8) ag))))))) (al (aL (i:=8) CP.nd rfl (Or.inl rfl) (aE TR h1 aQ (aa (pv 10) (aa (aA aB (pv 4) (pv 9) (fun _ _=>rfl)) (aa (pv 8) (aa (aA aB (aE GO h1 aQ (aa (pv 0) (aa (pv 1) (aa (aA a9 (pv 2) (pv 8) (fun _ _=>rfl)) (aa (aA a9 (pv 10) (pv 8) (fun _ _=>rfl)) ag))))) aq (fun _ _=>rfl)) ag))))))) aS)
    (ah (cw (gO gI jp jo cC (pv 7) (aa (pv 8) ag)))
    (al (bx (aK eM (aA a9 (aA aB (pv 4) (pv 9) (fun _ _=>rfl)) (pv 8) (fun _ _=>rfl)) (aA a9 (pv 2) (pv 8) (fun _ _=>rfl)) (aO _)) (al (aH (pv 7))) aS))))))
   (al (aH cu)))))),?_⟩
  obtain⟨g1,g2,g3,g4,g5,g6⟩:=LG;have LG:cS H SA LA bA bp hs.length L ss ls:=⟨g1,g2,g3,g4,g5,g6⟩
  have ZL:∀c,c<L->dk g (ss c) (ls c):=LN.r.tie;have OM:∀c,c<=L->∀i h,(ss c).getD i none=some h->h<n:=fun c hc=>LN.r.lt c hc;refine⟨_,rfl,_,rfl,_,rfl,_,rfl,SA,_,_,_,rfl,rfl,aV.of g1,eQ (by rw[g3.1];lia),_,rfl,_,rfl,LA,_,_,_,rfl,rfl,aV.of g2,eQ (by rw[g4.1];exact hb),_,rfl,r,a,bA.getD b 0,bp.getD b 0,ds,n,g,hs,ss b,ls b,i,rfl,FR,ha,g3.2 b (by lia),g4.2 b hb,g5 b (by lia),ZL b hb,G,OM b (by lia),LN.hm,hi,_,rfl,?_⟩;unfold FF at q;refine bR (fun e=>?_) (fun e=>?_)
  .have e':g7 n g hs (ss b) (ls b) i=false:=by simpa using e
   rw[ap (fun z=>by rw[e'] at z;cases z.2)] at q;exact q .bJ H (aM.refl _) rfl
  have e':g7 n g hs (ss b) (ls b) i=true:=by simpa using e
  rw[ao ⟨hb,e'⟩] at q;refine⟨by show 0<=sizeLine;decide,fun Fo WN=>?_⟩;have sF:=aj (o:=.lst []) WN;have OH:(((bp.map V.ref).length:Nat):Int)=(L:Int):=by rw[aG,g4.1]
  refine⟨_,rfl,_,rfl,_,rfl,LA,_,rfl,.inl (aV.of (sF _ _ g2)),b,L,by rw[OH],⟨by lia,by lia,by lia,by lia⟩,?_⟩;have en:((L:Int)-(b:Int)).toNat=L-b:=by lia
  rw[en];refine eE (n:=L-b) (lo:=(b:Int)) (fun k σ Hc=>∃ (one:Nat) (zs:List Nat),(∃v9 Gu,σ=[some (.ref O),some (.ref r),some (.ref a),some (.ref SA),some (.ref LA),some (.int i),some (.int b),some (.ref Fo),some (.int one),v9,Gu])/\aM H Hc/\Hc Fo=some (.lst (NV zs))/\zs.length=k/\one<hs.length/\
    vM hs ls (kE n g hs ss ls) (L-b) b (kE n g hs ss ls b i)=(vM hs ls (kE n g hs ss ls) (L-b-k) (b+k) (kE n g hs ss ls (b+k) one)).map (zs++·)) ⟨i,[],⟨_,_,rfl⟩,sF,af,rfl,hi,?_⟩ ?_ ?_
  .show _=(vM hs ls (kE n g hs ss ls) (L-b) b (kE n g hs ss ls b i)).map ([]++·);cases vM hs ls (kE n g hs ss ls) (L-b) b (kE n g hs ss ls b i) <;> rfl
  .rintro k σ Hc hk ⟨one,zs,⟨v9,Gu,rfl⟩,sc,ZM,zl,ol,ch⟩;have Gz:b+k<L:=by lia
   have WO:=LG.same sc;obtain⟨c1,c2,c3,c4,c5,c6⟩:=WO;have TX:(b:Int)+(k:Int)=((b+k:Nat):Int):=by lia
   have rS:fR (bA.map V.ref) ((b:Int)+(k:Int))=some (.ref (bA.getD (b+k) 0)):=by rw[TX];exact eQ (by rw[c3.1];lia)
   have rL:fR (bp.map V.ref) ((b:Int)+(k:Int))=some (.ref (bp.getD (b+k) 0)):=by rw[TX];exact eQ (by rw[c4.1];exact Gz)
   have WP:=c3.2 (b+k) (by lia);have ZN:=c4.2 (b+k) Gz;have Hd:=ZL _ Gz;refine⟨_,rfl,_,rfl,SA,_,_,_,rfl,rfl,aV.of c1,rS,?_⟩;refine⟨_,rfl,_,rfl,_,rfl,_,rfl,_,rfl,LA,_,_,_,rfl,rfl,aV.of c2,rL,_,rfl,r,a,bA.getD (b+k) 0,bp.getD (b+k) 0,ds,n,g,hs,ss (b+k),ls (b+k),one,rfl,FR.same sc,sc _ _ ha,WP,ZN,g5 _ (by lia),Hd,G,OM _ (by lia),LN.hm,ol,_,rfl,?_⟩;refine A4 (fun σ Hx=>σ=[some (.ref O),some (.ref r),some (.ref a),some (.ref SA),some (.ref LA),some (.int i),some (.int b),some (.ref Fo),some (.int ((kE n g hs ss ls (b+k) one:Nat):Int)),some (.int ((b:Int)+(k:Int))),some (.ref (bA.getD (b+k) 0))]/\aM Hc Hx/\kE n g hs ss ls (b+k) one<hs.length) ?_ (fun led kc=>?_) (fun nl=>?_)
   .rintro σ Hx ⟨rfl,sx,nl⟩;have ZO:=sx _ _ ZM;refine⟨_,rfl,.inl ⟨rfl,_,aV.of ZO⟩,_,rfl,Fo,_,_,rfl,rfl,ZO,by rw[aG,zl];exact bV (show k<61 by lia) (by decide),?_⟩;have s2:aM H (upd Hx Fo (.lst (NV zs++[.int ((kE n g hs ss ls (b+k) one:Nat):Int)]))):=dU.bU (sc.trans sx) WN;have ZP:(upd Hx Fo (.lst (NV zs++[.int ((kE n g hs ss ls (b+k) one:Nat):Int)]))) Fo=some (.lst (NV (zs++[kE n g hs ss ls (b+k) one]))):=by rw[af,gZ]
    generalize upd Hx Fo (.lst (NV zs++[.int ((kE n g hs ss ls (b+k) one:Nat):Int)]))=H2 at *;generalize kE n g hs ss ls (b+k) one=Rg at *;have WI:=LG.same s2;obtain⟨d1,d2,d3,d4,d5,d6⟩:=WI;have Zn:(ls (b+k)).length=hs.length:=by rw[Hd.len];exact g5 _ (by lia)
    refine⟨_,rfl,_,rfl,LA,_,_,_,rfl,rfl,aV.of d2,rL,_,rfl,bp.getD (b+k) 0,_,_,_,rfl,rfl,cR.of (d4.2 (b+k) Gz),dM (by lia),_,rfl,_,rfl,a,_,_,_,rfl,rfl,cR.of (s2 _ _ ha),jy nl,kY,_,rfl,?_⟩;rw[xF];rw[show L-b-k=(L-b-(k+1))+1 by lia] at ch;refine bR (fun hm=>?_) (fun hm=>?_)
    .rw[xC hm] at ch;rw[ch] at q;exact⟨_,rfl,q _ H2 s2 ⟨Fo,rfl,WN,ZP⟩⟩
    .refine⟨Rg,zs++[Rg],⟨_,_,rfl⟩,s2,ZP,by rw[cr,zl];rfl,nl,?_⟩;rw[xD hm,xE] at ch;exact ch
   .obtain⟨h,o',o,l,j,f1,f2,f3,f4,f5,f6,f7,f8,f9,_⟩:=LN.taker Fi Gz led;obtain⟨kk,TL,ek,Gy⟩:=mZ LN.hm ol;have kU:fR (SV (ss (b+k))) (one:Int)=some (.int (h:Int)):=by rw[dM (by rw[g5 _ (by lia)];exact ol),f1];rfl
    have jl:j<hs.length:=by have:=(aT f7).1;rw[g5 _ (by lia)] at this;exact this
    have Nc:(g h).filter (fun o=>decide (far (bf n g) o kk<far (bf n g) h kk))=dw n g hs one h:=by unfold dw dH;rw[Gy]
    refine⟨_,rfl,_,rfl,_,rfl,LA,_,_,_,rfl,rfl,aV.of c2,rL,_,rfl,_,rfl,_,rfl,_,rfl,_,rfl,a,_,_,_,rfl,rfl,cR.of (sc _ _ ha),jy ol,_,rfl,_,rfl,bA.getD (b+k) 0,_,_,_,rfl,rfl,cR.of WP,kU,O,r,as,ds,n,g,kk,h,by rw[ek];rfl,OF.same sc,FR.same sc,G,TL,f4,fun D H6 s6 hD Qt=>?_⟩;rw[Nc,f5] at Qt;refine⟨D,_,_,_,rfl,rfl,aV.of Qt,bO (j:=0) rfl,bA.getD (b+k) 0,bp.getD (b+k) 0,g,ss (b+k),ls (b+k),one,h,o,j,rfl,s6 _ _ WP,s6 _ _ ZN,by rw[g5 _ (by lia)];exact CQ,Hd,f1,f7,f8,fun H7 s7=>?_⟩;refine kc _ _ ⟨?_,s6.trans s7,by rw[f6];exact jl⟩;rw[f6];rfl
   .refine⟨?_,aM.refl _,?_⟩ <;> (unfold kE;rw[ap nl])
    .rfl
    .exact ol
  .rintro σ Hc ⟨one,zs,⟨v9,Gu,rfl⟩,sc,ZM,zl,ol,ch⟩;rw[show L-b-(L-b)=0 by lia] at ch;have e0:vM hs ls (kE n g hs ss ls) (L-b) b (kE n g hs ss ls b i)=none:=ch;rw[e0] at q;exact q .bJ Hc sc rfl
end
end xk
namespace L2
open PySem PySem.Spec PyProof.Rows
def cI(cells:List (Str×Addr))(a:Addr):Prop:=∃x,cells.lookup x=some a
abbrev jz(h0:Heap)(b:Addr):HO:=.ext fun h=>h.get? b=h0.get? b
open Classical in
noncomputable def iP(S:Addr->Prop)(h0:Heap)(H:Hp):Hp:=fun b=>if S b then some (jz h0 b) else H b
open Classical in
noncomputable def Be(S:Addr->Prop)(H:Hp):Hp:=fun b=>if S b then none else H b
section
variable {S:Addr->Prop} {h0 h h':Heap} {H H':Hp} {b:Addr} {P:Program} {w:World} {fs:List Addr}
theorem m3(e:S b):iP S h0 H b=some (jz h0 b):=ao e
theorem bN(e:¬ S b):iP S h0 H b=H b:=ap e
theorem ow(e:S b):Be S H b=none:=ao e
theorem eK(e:¬ S b):Be S H b=H b:=ap e
theorem g9(e:H b=none):Be S H b=none:=by
 by_cases c:S b
 .exact ow c
 .rw[eK c];exact e
theorem Bg(x:i7 P w H h)(l:∀a,S a->H a=some (jz h0 a)):i7 P w (Be S H) h:=fun a o e=>by
 by_cases c:S a
 .rw[ow c] at e;cases e
 .rw[eK c] at e;exact(x a o e).oW (fun _ _ _ q=>q) (fun d q=>by rw[eK fun z=>by rw[l d z] at q;cases q];exact q) fun d xs q=>by rw[eK fun z=>by rw[l d z] at q;cases q];exact q
theorem xG(x:i7 P w H h)(l:∀a,S a->H a=none/\h.get? a=h0.get? a/\∃o,h0.get? a=some o):i7 P w (iP S h0 H) h:=fun a o e=>by
 by_cases c:S a
 .rw[m3 c] at e;cases e;obtain⟨_,e1,o,e2⟩:=l a c;exact⟨e1,⟨o,e1.trans e2⟩,fun h1 h2 z k=>(k o (z.trans e2)).trans e2.symm⟩
 .rw[bN c] at e;exact(x a o e).oW (fun _ _ _ q=>q) (fun d q=>by rw[bN fun z=>by rw[(l d z).1] at q;cases q];exact q) fun d xs q=>by rw[bN fun z=>by rw[(l d z).1] at q;cases q];exact q
theorem Nt(u:Un fs [] (iP S h0 H) H' h h')(l:∀a,S a->H a=none/\h.get? a=h0.get? a/\a∉fs)(l':∀a,S a->h'.get? a=h0.get? a):Un fs [] H (Be S H') h h' where
 keep:=fun b o e n hb hx=>by
  by_cases c:S b
  .rw[l' b c,<-(l b c).2.1];exact e
  .exact u.keep b o e (by rw[bN c];exact n) hb hx
 slot:=fun b o e n hb hx=>u.slot b o e (by rw[bN fun z=>(l b z).2.2 hb];exact n) hb hx
 free:=fun b o e n hx=>by
  by_cases c:S b
  .exact ow c
  .exact g9 (u.free b o e (by rw[bN c];exact n) hx)
 there:=u.there
 lZ:=fun b xs e=>by
  have c:¬ S b:=fun z=>by rw[(l b z).1] at e;cases e
  rw[eK c];exact u.lZ b xs (by rw[bN c];exact e)
 nC:=fun b o v e=>by
  have c:¬ S b:=fun z=>by rw[(l b z).1] at e;cases e
  rw[eK c];exact u.nC b o v (by rw[bN c];exact e)
 nE:=fun b ps e=>by
  have c:¬ S b:=fun z=>by rw[(l b z).1] at e;cases e
  rw[eK c];exact u.nE b ps (by rw[bN c];exact e)
theorem Jh(u:Un fs [] (Be S H) H' h h')(l:∀a,S a->H a=some (jz h0 a)):Un fs [] H (iP S h0 H') h h' where
 keep:=fun b o e n hb hx=>u.keep b o e (g9 n) hb hx
 slot:=fun b o e n hb hx=>u.slot b o e (g9 n) hb hx
 free:=fun b o e n hx=>by
  have c:¬ S b:=fun z=>by rw[l b z] at n;cases n
  rw[bN c];exact u.free b o e (g9 n) hx
 there:=u.there
 lZ:=fun b xs e=>by
  have c:¬ S b:=fun z=>by rw[l b z] at e;cases e
  rw[bN c];exact u.lZ b xs (by rw[eK c];exact e)
 nC:=fun b o v e=>by
  have c:¬ S b:=fun z=>by rw[l b z] at e;cases e
  rw[bN c];exact u.nC b o v (by rw[eK c];exact e)
 nE:=fun b ps e=>by
  have c:¬ S b:=fun z=>by rw[l b z] at e;cases e
  rw[bN c];exact u.nE b ps (by rw[eK c];exact e)
end
structure xH(cells:List (Str×Addr))(h0:Heap)(H:Hp):Prop where
 inj:∀x y c,cells.lookup x=some c->cells.lookup y=some c->x=y
 at_:∀a,cI cells a->H a=some (jz h0 a)
 cell:∀x c,cells.lookup x=some c->∃v,h0.IsCell c v
theorem xH.mono{cells:List (Str×Addr)}{h0:Heap}{H H':Hp}(l:xH cells h0 H)(s:∀a,cI cells a->H a=some (jz h0 a)->H' a=some (jz h0 a)):xH cells h0 H':=⟨l.inj,fun a c=>s a c (l.at_ a c),l.cell⟩
def rC(cells:List (Str×Addr))(h0:Heap)(x:Str)(v:V):Prop:=∃u c,bi v u/\cells.lookup x=some c/\h0.IsCell c (some u)
def Nu(X:Cx)(sp:Sp)(t:TA):TE:=fun σ H Q=>t σ H fun vs H1=>(∀a,cI X.env.cells a->H1 a=none)->∀h0:Heap,xH X.env.cells h0 (iP (cI X.env.cells) h0 H1)->(∀ (i:Nat) (x:Str) (v:V),X.N[i]?=some x->σ[i]?=some (some v)->X.env.scope.names.lookup x=some .cell->rC X.env.cells h0 x v)->
 sp vs (iP (cI X.env.cells) h0 H1) (fun v H'=>(∀a,cI X.env.cells a->H' a=some (jz h0 a))/\Q v (Be (cI X.env.cells) H')) E0
section
variable {X:Cx} {k:Nat} {x:Str} {ps:List Str} {sp:Sp} {e:Expr} {es:List Expr} {t:TA} {p pos:Pos}
theorem Ji(C:cp X.prog X.w X.K X.mg X.base be k x ps sp)(hr:b_ k X.A)(OZ:X.fn=fun _=>true)(ZQ:X.ex=[])(ha:PA X (e::es) t)(hg:Gl X x:=by rfl)(BK:(x==("__debug__":Str))=false:=by decide)(he:starEach (e::es) X.env=(false,eval e X.env)::starEach es X.env:=by rfl)(xO:(backTo pos (starEach es X.env)).any (·.1)=false:=by rfl):
  PE X (.Call (.Name x p) (e::es) [] pos) (Nu X sp t):=by
 obtain⟨f,fd,hm,hk,hb,F⟩:=C.ex;intro ae s σ H Q I h;refine lI (pj I hg hm ?_ BK);refine ur (h₀:=X.base) I.ok.mod.Oj hk (cm (ha pos ae s σ H _ I h) fun us s1 ⟨vs,H1,I1,r,q⟩=>⟨I1.nG,?_⟩) he xO;have cF:∀a,cI X.env.cells a->H1 a=none/\(∃o,s1.heap.get? a=some o)/\a∉BA X.stack/\X.base.get? a=none:=fun a ⟨y,ey⟩=>by
  obtain⟨v,o,ho,hd⟩:=I1.cell y a ey;have ab:=I1.ok.Ol y a (by rw[OZ]) ey;refine⟨I1.jU y a ey,⟨o,ho⟩,fun o6=>?_,lH (bj I1.ok.C0 ab)⟩;rcases bP.mp (I1.qt a o6) with z|z
  .exact I1.JP y a ey z
  .obtain⟨_,o',Dm,_⟩:=I1.ok.nF.mem z;exact absurd (bV (a_ Dm) ab) (jw _)
 have L:xH X.env.cells s1.heap (iP (cI X.env.cells) s1.heap H1):=⟨I1.ok.inj,fun a c=>m3 c,I1.cell⟩
 have q':=q (fun a c=>(cF a c).1) s1.heap L fun i y v h1 h2 h3=>by
  obtain⟨m,_,hl⟩:=I1.loc;obtain⟨u,ru,lk⟩:=hl i y v h1 h2 (.inr (.inl h3));rcases lk with ⟨z,_⟩|⟨_,c,e1,e2⟩
  .have z:X.env.scope.names.lookup y=some .local:=z;rw[h3] at z;cases z
  .exact⟨u,c,ru,e1,e2⟩
 have E0':ww X.prog X.w X.K X.mg X.base X.A X.stack s1 (iP (cI X.env.cells) s1.heap H1):=by
  obtain⟨e1,e2,e3,e4,e5,e6,e7,e8⟩:=I1.Lo;refine⟨e1,e2,fun b o eb=>⟨(e3 b o eb).1,?_⟩,e4,e5,fun b o6=>?_,xG e7 fun a c=>⟨(cF a c).1,rfl,(cF a c).2.1⟩,e8⟩
  .rw[bN fun z=>by rw[(cF b z).2.2.2] at eb;cases eb];exact(e3 b o eb).2
  .rw[bN fun z=>(cF b z).2.2.1 o6];exact e6 b o6
 have hl:us.length=ps.length:=by rw[<-r.length];exact F.len _ _ _ _ q'
 have o6:=hb s1 us I1.nG (by rw[nu];exact hl);rw[nu] at o6;refine ny (lT (F.run X.A X.stack s1 _ ⟨us,[]⟩ us vs _ E0 hr E0' o6 r q') fun rr s' hq=>?_);cases rr with
 |error e=>exact hq.elim
 |ok fl=>
  cases fl with
  |ret u=>
   obtain⟨v,H',os,bare,un,bE,rv,k1,k2⟩:=hq;have l':∀a,cI X.env.cells a->s'.heap.get? a=s1.heap.get? a:=fun a c=>(bE a _ (k1 a c)).1;exact I1.after ⟨v,Be _ H',os,bare,Nt un (fun a c=>⟨(cF a c).1,rfl,(cF a c).2.2.1⟩) l',Bg bE k1,rv,k2⟩
  |next=>exact False.elim hq
  |brk=>exact False.elim hq
  |cont=>exact False.elim hq
end
def vP(scope:Scope)(dA:List (Str×Addr))(qual:Str)(f c L:Addr):Env:=
 { scope:=scope,locals:=L,globals:=mainGlobals,cells:=dA,qual:=qual++".<locals>.",func:=some f,code:=.ref c,frame:=some L,builtins:=builtinsNs }
def z5(X:Cx)(NB:List Str)(scope:Scope)(dA:List (Str×Addr))(qual:Str)(f c:Addr)(s:Shared)(H:Hp):Cx:=
 { X with A:=X.A.deeper (vP scope dA qual f c s.heap.objs.size),N:=NB,s₀:=s,H₀:=H,env:=vP scope dA qual f c s.heap.objs.size,outer:=X.stack,stack:=vP scope dA qual f c s.heap.objs.size::X.stack,ex:=[],fn:=fun _=>false,pn:=[],xe:=fun _ _=>False }
structure Bh(NB:List Str)(nP:Nat)(scope:Scope)(qual:Str)(params:Arguments)(body:Expr):Prop where
 kind:scope.kind=.function
 nd:NB.Nodup
 bind:∀dA pm c u_ us,us.length=nP->bindArgs (PySem.W.kla_fn "<lambda>" qual params body scope dA pm (.ref c) u_) ⟨us,[]⟩=pure ((NB.take nP).zip us)
 par:∀x∈NB.take nP,scope.names.lookup x=some .local
 fr:∀i x,nP<=i->NB[i]?=some x->scope.names.lookup x=some .free
 va:∀z∈scope.names,z.2≠.cell
 co:scope.isCoroutine=false
 gen:scope.isGenerator=false
theorem xI{x:Str}{v:Value}:∀ {l:List (Str×Value)},(l.map (·.1)).Nodup->(x,v)∈l->l.lookup x=some v
 |(y,u)::l,nd,h=>by
  obtain⟨n1,n2⟩:=dq.mp nd;rcases bP.mp h with z|z
  .injection z with z1 z2;rw[z1,z2,fE,beq_self_eq_true]
  .have ne:x≠y:=fun e=>n1 (by rw[<-e];exact cf.mpr ⟨_,z,rfl⟩);rw[fE,show (x==y)=false by simpa using ne];exact xI n2 z
theorem FQ{x:Str}{v:Value}{l:List Str}{us:List Value}{i:Nat}(nd:l.Nodup)(hl:l.length<=us.length)(h1:l[i]?=some x)(h2:us[i]?=some v):(l.zip us).reverse.lookup x=some v:=by
 refine xI ?_ (List.mem_reverse.mpr (dW (i:=i) ?_))
 .rw[List.map_reverse,List.map_fst_zip hl];exact(List.reverse_perm l).nodup_iff.mpr nd
 .rw[Df];exact⟨h1,h2⟩
section
variable {X:Cx} {ae:List (Addr×Obj)} {σ:St} {H:Hp} {s:Shared} {NB:List Str} {nP:Nat} {scope:Scope} {qual:Str} {params:Arguments} {body:Expr} {dA cells:List (Str×Addr)} {f c:Addr} {h₁ h0:Heap} {t₁:Nat} {vs ws:List V} {us:List Value}
theorem FS(I:aP X ae σ H s)(S:Bh NB nP scope qual params body)(hd:X.A.handled=none)(TY:X.calm=true)(c1:∀x c,dA.lookup x=some c->cells.lookup x=some c)(c2:∀x,(x,NameKind.free)∈scope.names->∃c,dA.lookup x=some c)(L:xH cells h0 H)(hw:∀ (i:Nat) (x:Str) (v:V),NB[nP+i]?=some x->ws[i]?=some v->rC cells h0 x v)(hn:h₁.Ns s.heap.objs.size (fun x=>((NB.take nP).zip us).reverse.lookup x))(hk:∀b o,s.heap.get? b=some o->h₁.get? b=some o)(rv:aX vs us)(hv:vs.length=nP)(eC:nP+ws.length=NB.length):
  aP (z5 X NB scope dA qual f c s (Be (cI cells) H)) [] ((vs++ws).map some) (Be (cI cells) H) { s with heap:=h₁,toks:=t₁ }:=by
 have inS:∀ {x c},dA.lookup x=some c->cI cells c:=fun {x c} e=>⟨x,c1 x c e⟩
 have OI:∀a,cI cells a->s.heap.get? a=h0.get? a:=fun a z=>(I.bE a _ (L.at_ a z)).1;have qD:∀x c v,cells.lookup x=some c->h0.IsCell c v->h₁.IsCell c v:=fun x c v e ⟨o,ho,K7⟩=>⟨o,hk _ _ ((OI c ⟨x,e⟩).trans ho),K7⟩
 refine⟨⟨I.ok.mod,S.kind,rfl,rfl,ba _,fun x y c e1 e2=>L.inj x y c (c1 x c e1) (c1 y c e2),fun x hx=>?_,(fun x c z e=>by cases z),fun _=>hd,Around.frames_deeper I.ok.frames,.inr ⟨rfl,rfl⟩,(fun b hb=>by cases hb),fun b o e=>⟨(I.bs b o e).1,g9 (I.bs b o e).2⟩,bj I.ok.C0 I.sz,(fun b o e hb=>by cases hb),(fun b hb=>by cases hb),I.stack,fun b hb=>g9 (I.pi b hb)⟩,
  rfl,I.bare,Un.kept hk,⟨_,hn,fun i x w e1 e2 e3=>?_⟩,fun x c e=>?_,g9 (I.bE.fresh (ba _)),fun x c e=>ow (inS e),fun p hp=>absurd (show p∈([]:List (Addr×Obj)) from hp) (by simp),(Bg I.bE L.at_).kept hk,?_⟩
 .have hx:scope.names.lookup x=some .cell\/scope.names.lookup x=some .free:=hx;rcases hx with z|z
  .exact absurd rfl (S.va _ (jH z))
  .exact c2 x (jH z)
 .have e1:NB[i]?=some x:=e1;have e2:(vs++ws)[i]?=some w:=by
   rw[bq] at e2;obtain⟨w',h1,h2⟩:=oA.mp e2;rw[h1];exact h2
  by_cases hi:i<nP
  .rw[iC (by rw[hv];exact hi)] at e2;obtain⟨u,hu,ru⟩:=rv.get e2;have hp:(NB.take nP)[i]?=some x:=by rw[xX hi];exact e1
   have hx:x∈NB.take nP:=dW hp;refine⟨u,ru,.inl ⟨S.par x hx,?_⟩⟩;exact FQ (S.nd.sublist (yw _ _)) (by rw[<-rv.length,hv];exact ym _ _) hp hu
  .rw[oz (by rw[hv];lia),hv] at e2;obtain⟨u,c',ru,ec,hc⟩:=hw (i-nP) x w (by rw[show nP+(i-nP)=i by lia];exact e1) e2;have hF:=S.fr i x (by lia) e1;obtain⟨TZ,Rh⟩:=c2 x (jH hF);have:TZ=c':=by have:=c1 x TZ Rh;rw[ec] at this;exact(aY this).symm
   subst this;exact⟨u,ru,.inr ⟨.inr hF,TZ,Rh,qD x TZ _ ec hc⟩⟩
 .obtain⟨v,yU⟩:=L.cell x c (c1 x c e);exact⟨v,qD x c v (c1 x c e) yU⟩
 .show ((vs++ws).map some).length=NB.length;rw[aG,cr,hv];exact eC
def FT(nP:Nat)(scope:Scope)(qual:Str)(params:Arguments)(body:Expr)(NB:List Str)(te:TE)(f:Addr)(vs:List V)(H:Hp)(Q:VK):Prop:=∃ (cells:List (Str×Addr)) (c:Addr) (h0:Heap) (ws:List V),H f=some (qH f qual params body scope cells c)/\H c=some (oQ c qual)/\vs.length=nP/\nP+ws.length=NB.length/\xH cells h0 H/\
 (∀ (i:Nat) (x:Str) (v:V),NB[nP+i]?=some x->ws[i]?=some v->rC cells h0 x v)/\te ((vs++ws).map some) (Be (cI cells) H) fun v H'=>(∀a,cI cells a->H' a=none)->Q v (iP (cI cells) h0 H')
theorem Jj{te:TE}{Q:VK}{k:Nat}(hr:b_ k X.A)(TY:X.calm=true)(S:Bh NB nP scope qual params body)(I:aP X ae σ H s)(rv:aX vs us)(hb:∀dA c s H,PE (z5 X NB scope dA qual f c s H) body te)(h:FT nP scope qual params body NB te f vs H Q):
  wpAny (model X.prog X.w) X.A (call (.ref f) us) (EP X ae σ Q) X.xe s:=by
 obtain⟨cells,c,h0,ws,hf,hc,hv,eC,L,hw,h⟩:=h;obtain⟨dA,pm,u_,c1,c2,Lz⟩:=(I.bE f _ hf).1;have Vi:s.heap.CodeRec (.ref c) qual:=(I.bE c _ hc).1;have Ea:X.A.depth<recursionLimit:=by have:=hr.dp;lia
 have hul:us.length=nP:=by rw[<-rv.length];exact hv
 refine ny (PySem.W.kla_callFunE Ea Lz rfl S.co S.gen rfl Vi ?_);rw[S.bind _ _ _ _ _ hul];refine wpAny_pure (wpAny_newFunctionEnv S.va (fun x hx=>?_) (fun h₁ LV P3=>⟨I.nolimit.fresh _ P3,?_⟩) S.kind)
 .exact S.par _ (nq hx).1
 have LW:∀b o,s.heap.get? b=some o->h₁.get? b=some o:=fun b o e=>P3.extBut b o (aZ (a_ e)) (cD _ e);refine PySem.W.kla_codeExpr ?_;have J:=FS (f:=f) (c:=c) (t₁:=s.toks+((NB.take nP).zip us).length) I S hr.hd TY c1 c2 L hw LV LW rv hv eC;refine ir (hb dA c s _ [] _ _ _ _ J h) (fun w s' ⟨v',H',J',r',q'⟩=>?_) fun _ _ z=>z.elim;have kp:∀a,cI cells a->H' a=none/\s'.heap.get? a=h0.get? a/\∃o,h0.get? a=some o:=fun a z=>by
  obtain⟨y,ey⟩:=id z;have e0:s.heap.get? a=h0.get? a:=(I.bE a _ (L.at_ a z)).1;obtain⟨v,o,ho,_⟩:=L.cell y a ey;have es:s.heap.get? a=some o:=e0.trans ho;refine⟨J'.base.free a o es (ow z) (by intro z;cases z),?_,o,ho⟩;rw[ho];exact J'.base.keep a o es (ow z) (fun o6=>by have:=I.pi a o6;rw[L.at_ a z] at this;cases this) (by intro z;cases z)
 exact⟨v',iP (cI cells) h0 H',I.JT (ch:=[]) J'.os (Jh J'.base L.at_) (xG J'.bE kp) J'.bare (fun b hb=>by cases hb),r',q' fun a z=>(kp a z).1⟩
def Ri(i:Nat)(nP:Nat)(scope:Scope)(qual:Str)(params:Arguments)(body:Expr)(NB:List Str)(te:TE)(t:TA):TE:=fun σ H Q=>∃f,σ[i]?=some (some (.ref f))/\(∃cells c,H f=some (qH f qual params body scope cells c))/\t σ H fun vs H1=>FT nP scope qual params body NB te f vs H1 Q
theorem Bi{te:TE}{k i:Nat}{x:Str}{e:Expr}{es:List Expr}{t:TA}{p pos:Pos}(hr:b_ k X.A)(TY:X.calm=true)(S:Bh NB nP scope qual params body)(hx:PE X (.Name x p) (bb i))(ha:PA X (e::es) t)(hb:∀f dA c s H,PE (z5 X NB scope dA qual f c s H) body te)(he:starEach (e::es) X.env=(false,eval e X.env)::starEach es X.env:=by rfl)(xO:(backTo pos (starEach es X.env)).any (·.1)=false:=by rfl):
  PE X (.Call (.Name x p) (e::es) [] pos) (Ri i nP scope qual params body NB te t):=by
 intro ae s σ H Q I h;obtain⟨f,hσ,⟨cells,c,hf⟩,h⟩:=h;have fn:∀ {s:Shared} {H:Hp} {cells:List (Str×Addr)} {c:Addr},i7 X.prog X.w H s.heap->H f=some (qH f qual params body scope cells c)->PySem.W.FnAt f s.heap:=fun {s H cells c} bE hf=>by
  obtain⟨dA,pm,u_,_,_,e⟩:=(bE f _ hf).1;exact⟨_,_,_,_,e⟩
 refine lI (cm (hx ae s σ H (fun v H1=>v=.ref f/\H1=H) I ⟨_,hσ,rfl,rfl⟩) fun u s1 ⟨v,H1,I1,r1,ev,eH⟩=>?_);subst ev;subst eH;cases r1;refine PySem.W.callWith_F (fn I1.bE hf) (cm (ha pos ae s1 σ H1 _ I1 h) fun us s2 ⟨vs,H2,I2,r,q⟩=>⟨?_,?_⟩) he xO
 .obtain⟨WQ,c',_,_,B4,_⟩:=id q;exact fn I2.bE B4
 .exact Jj hr TY S I2 r (hb f) q
end
end L2
namespace dU
open PySem L2 sf
theorem mU{xs:List Nat}{i:Nat}{x:V}(h:(NV xs)[i]?=some x):∃z,xs[i]?=some z/\x=.int (z:Nat):=by
 rw[bq] at h;obtain⟨z,hz,rfl⟩:=oA.mp h;exact⟨z,hz,rfl⟩
theorem Jk{xs ys:List Nat}:NV (xs++ys)=NV xs++NV ys:=cP
theorem V0:(["other","self","home","own"]:List Str).Nodup:=by decide +kernel
noncomputable def Bj(n:Nat)(ts:Ts)(i j:Nat):List Nat:=(fg n ts i).filter fun o=>decide (far ts o j<far ts i j)
theorem KO(n:Int)(tl ol ds:Addr):(o_ n tl ol ds).lookup ("good":Str)=none:=vt n tl ol ds (by decide +kernel) (by decide +kernel) (by decide +kernel) (by decide +kernel)
section
variable {P:Program} {w:World} {K:PySem.W.Frag} {mg:Str->Option Value} {base:Heap}
theorem FU:aI ["self","house","home","own"] ["self","house","home"] (am EH):=⟨rfl,rfl,rfl,by decide +kernel,rfl,by decide +kernel,by decide +kernel⟩
def pP(C:Addr):Sp:=fun vs H Q _=>∃ (L:Addr->Prop) (p:Addr) (n:Nat) (ts:Ts) (i j:Nat),vs=[.ref p,.int i,.int j]/\cZ C H L p n ts/\i<n/\j<n/\∀r H',aM H H'->H r=none->H' r=some (.lst (NV (Bj n ts i j)))->Q (.ref r) H'
theorem FV{f C:Addr}{fd:FuncData}(F:fX K "good" "Net.good" EH f fd)(T:NT K mg C)(M:mR P w K mg base be 5 C "far" ["self","one","other"] (oa C)):
  bz P w K mg base be 6 f fd ["self","house","home"] (pP C):=by
 obtain⟨fM,fdM,mM,bM,GM⟩:=M.ex;refine F.ok FU (fun vs H Q E h=>?_) (fun dQ A outer s H vs Q E hr h=>?_)
 .obtain⟨L,p,n,ts,i,j,rfl,_⟩:=h;rfl
 .obtain⟨L,p,n,ts,i,j,rfl,N,hi,hj,k2⟩:=h;obtain⟨dx,tl,ol,ds,h1,_,_,RO,R,_⟩:=N.ob;have fi:=N.km;have n2:=fi.n2;refine'⟨_,ah (aL (i:=3) FU.nd rfl (Or.inr rfl) (ja (pv 0) T.cl mM GM hr bM .nil aQ (aa (pv 1) (aa (pv 2) ag))))
   (al (aH ?c)),?_⟩
  case c=>
   refine' cK (g:=bH 0) (tt:=jZ (mE (BF fun i j=>.bl (decide (i<j))) (mE (BN K) (mE (BN K) (Ll K (bb 1) "distances") (bb 0)) (bb 2)) (bb 3))) (te:=bb 0) (NB:=["other","self","home","own"]) (src:=[none,some 0,some 2,some 3]) (cj (by kernel_rfl)) rfl (cJ (aA aB (nN (pv 0) rfl) (pv 1) (fun _ _=>rfl))) ?g ?t ?e;case g=>exact fun cl C s₃ H₃ fp=>aF (i:=0) V0 rfl (Or.inl rfl) (Or.inr rfl)
   case t=>exact fun cl C s₃ H₃ fp=>eF (aK oI (aA aB (aA aB (nN (pv 1) rfl) (pv 0) (fun _ _=>rfl)) (pv 2) (fun _ _=>rfl)) (pv 3) (aO _))
   case e=>exact fun cl C s₃ H₃ fp=>pv 0
  refine⟨_,rfl,p,dx,_,rfl,h1,Cy _ _ _ _,_,rfl,_,rfl,L,p,n,ts,i,j,rfl,N,hi,hj,?_⟩;obtain⟨bs,b,r1,r2,r3,_⟩:=RO.row hi;refine⟨_,rfl,p,C,dx,_,_,rfl,h1,T.cl,T.nO,HZ _ _ _ _,_,rfl,ol,_,_,_,rfl,rfl,aV.of r1,bO r2,b,rfl,⟨_,aV.of r3⟩,fun D hD=>?_⟩;have nb:b≠D:=ak r3 hD;refine ff (xs:=NV (fg n ts i)) (fun m ys σ H2=>(∃a,σ=[a,some (.ref p),some (.int (j:Int)),some (.int ((far ts i j:Nat):Int))])/\ys=NV (((fg n ts i).take m).filter fun o=>decide (far ts o j<far ts i j))/\H2=upd H D (.lst ys)) ⟨⟨_,rfl⟩,by simp,rfl⟩ (fun m ys σ H2 _ ⟨_,_,e⟩=>by rw[e];exact aV.of (by rw[ai nb];exact r3)) ?_ ?_
  .rintro m x ys σ H2 Kt Kf hx ⟨⟨a,rfl⟩,ey,rfl⟩ kt kf;obtain⟨v,hv,rfl⟩:=mU hx;have Oz:v∈fg n ts i:=dW hv;have EQ:v<n:=AR fi hi Oz;have sm:aM H (upd H D (.lst ys)):=aj hD;obtain⟨bs2,b2,q1,q2,q3,_⟩:=R.row EQ;have hg:(NV ((List.range n).map (far ts v)))[j]?=some (.int (far ts v j:Nat)):=by
    rw[bq,bq,oE hj];rfl
   have tk:(fg n ts i).take (m+1)=(fg n ts i).take m++[v]:=by rw[hX,hv];rfl
   have hm:m<(fg n ts i).length:=(cM.mp hv).1;refine⟨_,rfl,p,C,dx,_,_,rfl,sm _ _ h1,T.cl,T.nD,AT _ _ _ _,_,rfl,ds,_,_,_,rfl,rfl,aV.of (sm _ _ q1),bO q2,_,rfl,b2,_,_,_,rfl,rfl,aV.of (sm _ _ q3),bO hg,_,rfl,_,_,rfl,rfl,_,rfl,?_⟩;refine bR (fun e=>?_) (fun e=>?_)
   .refine⟨_,rfl,kt _ _ _ af ?_ ⟨⟨_,rfl⟩,?_,by rw[ie]⟩⟩
    .rw[ey,re];refine gq (jG _ _) (gq (ym _ _) (bV (show m<33 from ?_) (by decide)));have:(fg n ts i).length<=n:=bj (jG _ _) (by simp);lia
    .have:decide (far ts v j<far ts i j)=true:=by simp at e |-;lia
     rw[ey,tk,jJ,Jk];simp[jL,this]
   .refine kf _ _ ⟨⟨_,rfl⟩,?_,rfl⟩;have:decide (far ts v j<far ts i j)=false:=by simp at e |-;lia
    rw[ey,tk,jJ];simp[jL,this]
  .rintro ys σ H2 ⟨_,ey,rfl⟩;rw[re,h9] at ey;refine k2 D _ (aj hD) hD ?_;rw[af,ey];rfl
end
theorem FW{ts Bk:Ts}(p:ts.Perm Bk){a b:Nat}:T ts a b↔T Bk a b:=p.mem_iff
theorem kZ{ts Bk:Ts}(p:ts.Perm Bk):∀ {k a b:Nat},dg ts k a b->dg Bk k a b
 |0,_,_,e=>e
 |k+1,a,b,⟨c,w,t⟩=>⟨c,kZ p w,(FW p).mp t⟩
theorem tY{n:Nat}{ts Bk:Ts}(p:ts.Perm Bk)(F:eW n ts):eW n Bk:=by
 refine⟨F.n1,F.n2,p.nodup_iff.mp F.nd,fun t ht=>F.rg t (p.mem_iff.mpr ht),fun t ht=>F.ne t (p.mem_iff.mpr ht),fun h=>?_,fun h=>?_,fun a b ha hb=>?_⟩
 .rw[<-(p.filter _).length_eq,<-(p.filter _).length_eq];exact F.Ez h
 .rw[<-(p.filter _).length_eq];exact F.most h
 .obtain⟨k,w⟩:=F.con a b ha hb;exact⟨k,kZ p w⟩
theorem FX{n:Nat}{ts Bk:Ts}(p:ts.Perm Bk)(F:eW n ts){a b:Nat}(ha:a<n)(hb:b<n):far Bk a b=far ts a b:=by
 have h:=F.EA ha hb;exact vo ⟨kZ p h.1,fun k w=>h.2 k (kZ p.symm w)⟩
theorem iB.Rj{H:Hp}{L:Addr->Prop}{l:Addr}{n:Nat}{r r':Nat->List Nat}(R:iB H L l n r)(e:∀h,h<n->r' h=r h):iB H L l n r':=
 let ⟨bs,a,b,c⟩:=R
 ⟨bs,a,b,c.1,fun j hj=>by
  show _=some (HO.lst (NV (r' j)));rw[e j hj];exact c.2 j hj⟩
theorem cZ.perm{C:Addr}{H:Hp}{L:Addr->Prop}{p:Addr}{n:Nat}{ts Bk:Ts}(N:cZ C H L p n ts)(pm:ts.Perm Bk):cZ C H L p n Bk:=by
 obtain⟨dx,tl,ol,ds,a,l1,l2,b,c,l3,zs,d1,d2,d3,d4,d5⟩:=N.ob;refine⟨tY pm N.km,dx,tl,ol,ds,a,l1,l2,b.Rj fun h hh=>?_,c.Rj fun h hh=>?_,l3,zs,d1,d2,d3,d4.trans pm,d5⟩
 .unfold fg;exact List.filter_congr fun o _=>qc.mpr (FW pm).symm
 .exact jI fun x hx=>FX pm N.km hh (bL.mp hx)
end dU
namespace xk
open PySem L2 sf
open dU (cZ NT mR Cy KO Bj oa pP)
abbrev Nv:Stmt:=gG 14
abbrev WR:Stmt:=gG 2
abbrev WS:Stmt:=gG 19
abbrev WT:Stmt:=gG 20
abbrev T4:Stmt:=gG 18
def sX(n:Nat)(g:Nat->List Nat):Prop:=∀h,h<n->fg n (bf n g) h=g h
theorem Nw{n:Nat}{g:Nat->List Nat}(G:fh n g):sX n (gr n g):=by
 intro h hh;obtain⟨m,rfl⟩:∃m,n=m+1:=⟨n-1,by lia⟩
 have nh:¬ T (bf (m+1) (gr (m+1) g)) h h:=fun t=>((A3 G).lt h hh h (vH.mp t).2).2 rfl;unfold fg;have e0:(h+0) % (m+1)=h:=lK hh;rw[ud,cQ,e0,List.filter_cons_of_neg (by simpa using nh),ic];show _=CG (m+1) g h m;unfold CG;have e:((fun s=>(h+s) % (m+1)) ∘ Nat.succ)=fun s=>(h+(1+s)) % (m+1):=funext fun s=>by
  show (h+(s+1)) % (m+1)=_;rw[Nat.add_comm s 1]
 rw[e];refine List.filter_congr fun o _=>qc.mpr ?_;rw[vH];exact⟨fun z=>(gA G hh).mem_iff.mp z.2,fun z=>⟨hh,(gA G hh).mem_iff.mpr z⟩⟩
section
variable {P:Program} {w:World} {K:PySem.W.Frag} {mg:Str->Option Value} {base:Heap}
theorem KP:aI ["stand","handing","house","goes","letter"] ["stand","handing","house","goes"] (am Nv):=⟨rfl,rfl,rfl,by decide +kernel,rfl,by decide +kernel,by decide +kernel⟩
def FY:Sp:=fun vs H Q _=>∃ (S G:Addr) (g:Nat->List Nat) (s l:List (Option Nat)) (h o j:Nat),vs=[.ref S,.ref G,.int h,.int o]/\H S=some (.tup (SV s))/\H G=some (.tup (SV l))/\s.length<=16/\dk g s l/\s.getD j none=some h/\l.getD j none=some o/\Q (.int j) H
theorem Nx{f:Addr}{fd:FuncData}(F:fX K "taker" "taker" Nv f fd)(B:Bl mg):bz P w K mg base be 1 f fd ["stand","handing","house","goes"] FY:=by
 refine F.ok KP (fun vs H Q E h=>?_) (fun dQ A outer s0 H vs Q E hr h=>?_)
 .obtain⟨S,G,g,s,l,h,o,j,rfl,_⟩:=h;rfl
 .obtain⟨S,G,g,s,l,h,o,j,rfl,hS,hG,OG,Hd,e1,e2,q⟩:=h;refine⟨_,(ah (dR eR rfl (dP rfl B.range (aa (au aD (by rfl) B.len ce (aa (pv 0) ag)) ag)) (aF (i:=4) KP.nd rfl (Or.inl rfl))
    (al (bx (PW.pt (yN (aK eM (aA a9 (pv 0) (pv 4) (fun _ _=>rfl)) (pv 2) (aO _)) (uJ (aK eM (aA a9 (pv 1) (pv 4) (fun _ _=>rfl)) (pv 3) (aO _))))) (al (aH (pv 4))) aS)))
   (al (aH cu))),?_⟩
  have jl:=(aT e1).1;refine⟨_,rfl,S,_,rfl,.inr (cR.of hS),(s.length:Nat),by rw[aG],by lia,by lia,?_⟩;refine eE (n:=s.length) (lo:=0) (fun k σ Hc=>(∃v,σ=[some (.ref S),some (.ref G),some (.int h),some (.int o),v])/\Hc=H/\k<=j) ⟨⟨_,rfl⟩,rfl,dv _⟩ ?_ ?_
  .rintro k σ Hc hk ⟨⟨v,rfl⟩,rfl,kj⟩;rw[jS];refine⟨_,rfl,_,rfl,S,_,_,_,rfl,rfl,cR.of hS,dM hk,_,rfl,kY,_,rfl,?_⟩;have d1:decide (jF (s.getD k none)=V.int (h:Int))=decide (s.getD k none=some h):=vN (b:=some h);rw[d1];refine bR (fun a1=>?_) (fun a1=>?_)
   .refine⟨_,rfl,_,rfl,G,_,_,_,rfl,rfl,cR.of hG,dM (by rw[Hd.len];exact hk),_,rfl,kY,_,rfl,?_⟩;have d2:decide (jF (l.getD k none)=V.int (o:Int))=decide (l.getD k none=some o):=vN (b:=some o);rw[d2];refine bR (fun a2=>?_) (fun a2=>?_)
    .have:=Hd.Tn k j h o (b9 a1) e1 (b9 a2) e2;subst this;exact⟨_,rfl,q⟩
    .refine⟨⟨_,rfl⟩,rfl,?_⟩;rcases Nat.lt_or_eq_of_le kj with z|z
     .exact z
     .exact absurd (bB (by rw[z];exact e2)) a2
   .refine tP ⟨⟨_,rfl⟩,rfl,?_⟩;rcases Nat.lt_or_eq_of_le kj with z|z
    .exact z
    .exact absurd (bB (by rw[z];exact e1)) a1
  .rintro σ Hc ⟨_,_,kj⟩;exact absurd jl (by lia)
theorem Ny:aI ["net","homes","stand","handing","letter","house","goes"] ["net","homes","stand","handing","letter"] (am WR):=⟨rfl,rfl,rfl,by decide +kernel,rfl,by decide +kernel,by decide +kernel⟩
def FZ(C:Addr):Sp:=fun vs H Q _=>∃ (Lp:Addr->Prop) (p a S G:Addr) (n:Nat) (g:Nat->List Nat) (hs:List Int) (s l:List (Option Nat)) (i:Nat),vs=[.ref p,.ref a,.ref S,.ref G,.int i]/\cZ C H Lp p n (bf n g)/\H a=some (.tup (HV hs))/\H S=some (.tup (SV s))/\H G=some (.tup (SV l))/\s.length=hs.length/\dk g s l/\fh n g/\(∀i h,s.getD i none=some h->h<n)/\(∀h∈hs,0<=h/\h<n)/\i<hs.length/\Q (.bl (g7 n g hs s l i)) H
theorem Nz{f C:Addr}{fd:FuncData}(F:fX K "is_led" "is_led" WR f fd)(T:NT K mg C)(MF:mR P w K mg base be 5 C "far" ["self","one","other"] (oa C)):bz P w K mg base be 6 f fd ["net","homes","stand","handing","letter"] (FZ C):=by
 obtain⟨fF,fdF,mF,bF,GF⟩:=MF.ex;refine F.ok Ny (fun vs H Q E h=>?_) (fun dQ A outer s0 H vs Q E hr h=>?_)
 .obtain⟨Lp,p,a,S,G,n,g,hs,s,l,i,rfl,_⟩:=h;rfl
 .obtain⟨Lp,p,a,S,G,n,g,hs,s,l,i,rfl,N,ha,hS,hG,sl,Hd,Gd,OM,hm,hi,q⟩:=h;have h5:b_ 5 _:=hr;refine⟨_,(ah (aL (i:=5) Ny.nd rfl (Or.inl rfl) (aA a9 (pv 2) (pv 4) (fun _ _=>rfl)))
   (ah (aL (i:=6) Ny.nd rfl (Or.inl rfl) (aA a9 (pv 3) (pv 4) (fun _ _=>rfl)))
   (ah (bx (PW.pt (oH (aK jY (pv 6) cu (aO _)) (l0 (aK eM (pv 6) (pv 5) (aO _))))) (al (aH fW)) aS)
   (al (aH (dG Dy (ja (pv 0) T.cl mF GF h5 bF .nil aQ (aa (pv 6) (aa (aA a9 (pv 1) (pv 4) (fun _ _=>rfl)) ag))) (ja (pv 0) T.cl mF GF h5 bF .nil aQ (aa (pv 5) (aa (aA a9 (pv 1) (pv 4) (fun _ _=>rfl)) ag))) (aO _))))))),?_⟩
  have kU:fR (SV s) (i:Int)=some (jF (s.getD i none)):=dM (by lia);have rP:fR (SV l) (i:Int)=some (jF (l.getD i none)):=dM (by rw[Hd.len];lia);refine⟨_,rfl,_,rfl,S,_,_,_,rfl,rfl,cR.of hS,kU,?_⟩;refine⟨_,rfl,_,rfl,G,_,_,_,rfl,rfl,cR.of hG,rP,?_⟩;refine⟨_,rfl,rfl,_,rfl,?_⟩;cases es:s.getD i none with
  |none=>
   rw[Hd.bJ i es];refine bR (fun _=>?_) (fun e=>absurd (bB rfl) e);have e2:g7 n g hs s l i=false:=by unfold g7;rw[es]
   rw[e2] at q;exact mV q
  |some h=>
   obtain⟨o,eo,mo⟩:=Hd.tie i h es;rw[eo];have hn:=OM i h es;obtain⟨on,one⟩:=Gd.lt h hn o mo;obtain⟨k,hk,ek,Gy⟩:=mZ hm hi;refine bR (fun e=>absurd (b9 e) (by intro z;cases z)) (fun _=>?_);refine⟨_,rfl,_,rfl,rfl,_,rfl,?_⟩;refine bR (fun e=>absurd (eT (V.int.inj (b9 e))) one) (fun _=>?_);obtain⟨dx,tl,ol,ds,hp,_⟩:=N.ob;have OR:fR (HV hs) (i:Int)=some (.int (k:Int)):=by rw[jy hi,ek]
   refine⟨_,rfl,p,dx,_,rfl,hp,Cy _ _ _ _,_,rfl,_,rfl,_,rfl,a,_,_,_,rfl,rfl,cR.of ha,OR,Lp,p,n,bf n g,o,k,rfl,N,on,hk,?_⟩;refine⟨_,rfl,p,dx,_,rfl,hp,Cy _ _ _ _,_,rfl,_,rfl,_,rfl,a,_,_,_,rfl,rfl,cR.of ha,OR,Lp,p,n,bf n g,h,k,rfl,N,hn,hk,?_⟩;refine⟨_,_,rfl,rfl,?_⟩;rw[kG es eo] at q;unfold dH at q;rw[Gy] at q;have e3:decide (((far (bf n g) h k:Nat):Int)<=((far (bf n g) o k:Nat):Int))=decide (far (bf n g) h k<=far (bf n g) o k):=qc.mpr (by lia);show Q (V.bl (decide (((far (bf n g) h k:Nat):Int)<=((far (bf n g) o k:Nat):Int)))) H;rw[e3];exact q
theorem Rk:aI ["net","homes","stand","handing","letter","house"] ["net","homes","stand","handing","letter"] (am WS):=⟨rfl,rfl,rfl,by decide +kernel,rfl,by decide +kernel,by decide +kernel⟩
noncomputable def F0(n:Nat)(g:Nat->List Nat)(hs:List Int)(ss ls:Nat->List (Option Nat))(b i:Nat):V:=if g7 n g hs (ss b) (ls b) i=true then .int ((kE n g hs ss ls b i:Nat):Int) else .bJ
def Jl(C:Addr):Sp:=fun vs H Q _=>∃ (Lp:Addr->Prop) (p a S G:Addr) (n L:Nat) (g:Nat->List Nat) (hs ns:List Int) (ss ls:Nat->List (Option Nat)) (b i:Nat),vs=[.ref p,.ref a,.ref S,.ref G,.int i]/\cZ C H Lp p n (bf n g)/\sX n g/\fh n g/\H a=some (.tup (HV hs))/\H S=some (.tup (SV (ss b)))/\H G=some (.tup (SV (ls b)))/\gB n g hs L ss ls ns/\b<L/\i<hs.length/\hs.length<=16/\∀H',aM H H'->Q (F0 n g hs ss ls b i) H'
theorem Rl{f C:Addr}{fd:FuncData}(F:fX K "good_tie_taker" "good_tie_taker" WS f fd)(T:NT K mg C)(IL:cp P w K mg base be 6 "is_led" ["net","homes","stand","handing","letter"] (FZ C))(TA:cp P w K mg base be 1 "taker" ["stand","handing","house","goes"] FY)(MG:mR P w K mg base be 6 C "good" ["self","house","home"] (pP C)):bz P w K mg base be 7 f fd ["net","homes","stand","handing","letter"] (Jl C):=by
 obtain⟨fG,fdG,mG,bG,GG⟩:=MG.ex;refine F.ok Rk (fun vs H Q E h=>?_) (fun dQ A outer s0 H vs Q E hr h=>?_)
 .obtain⟨Lp,p,a,S,G,n,L,g,hs,ns,ss,ls,b,i,rfl,_⟩:=h;rfl
 .obtain⟨Lp,p,a,S,G,n,L,g,hs,ns,ss,ls,b,i,rfl,N,Rn,Gd,ha,hS,hG,LN,hb,hi,CQ,q⟩:=h;have h1:b_ 1 _:=hr.mono (by decide);have h6:b_ 6 _:=hr;refine⟨_,(ah (bx (et (dE (aE IL h6 aQ (aa (pv 0) (aa (pv 1) (aa (pv 2) (aa (pv 3) (aa (pv 4) ag)))))))) (al (aH cu)) aS)
   (ah (aL (i:=5) Rk.nd rfl (Or.inl rfl) (aA a9 (pv 2) (pv 4) (fun _ _=>rfl)))
   (al (aH (aE TA h1 aQ (aa (pv 2) (aa (pv 3) (aa (pv 5) (aa (aA aB (ja (pv 0) T.cl mG GG h6 bG .nil aQ (aa (pv 5) (aa (aA a9 (pv 1) (pv 4) (fun _ _=>rfl)) ag))) aq (fun _ _=>rfl)) ag))))))))),?_⟩
  have Hd:=LN.r.tie b hb;have sl:=LN.sl b (d_ hb);refine⟨_,rfl,_,rfl,_,rfl,_,rfl,_,rfl,Lp,p,a,S,G,n,g,hs,ss b,ls b,i,rfl,N,ha,hS,hG,sl,Hd,Gd,LN.r.lt b (d_ hb),LN.hm,hi,_,rfl,?_⟩;unfold F0 at q;refine bR (fun e=>?_) (fun e=>?_)
  .have e':g7 n g hs (ss b) (ls b) i=false:=by simpa using e
   rw[ap (by rw[e'];decide)] at q;exact q H (aM.refl _)
  have led:g7 n g hs (ss b) (ls b) i=true:=by simpa using e
  rw[ao led] at q;obtain⟨h,o',o,l,j,f1,f2,f3,f4,f5,f6,f7,f8,f9,_⟩:=LN.taker N.km hb led;obtain⟨k,hk,ek,Gy⟩:=mZ LN.hm hi;have kU:fR (SV (ss b)) (i:Int)=some (.int (h:Int)):=by rw[dM (by lia),f1];rfl
  have OR:fR (HV hs) (i:Int)=some (.int (k:Int)):=by rw[jy hi,ek]
  obtain⟨dx,tl,ol,ds,hp,_⟩:=N.ob;refine⟨_,rfl,_,rfl,S,_,_,_,rfl,rfl,cR.of hS,kU,?_⟩;refine⟨_,rfl,_,rfl,_,rfl,_,rfl,p,dx,_,rfl,hp,KO _ _ _ _,_,rfl,_,rfl,_,rfl,a,_,_,_,rfl,rfl,cR.of ha,OR,Lp,p,n,bf n g,h,k,rfl,N,f4,hk,fun D H1 s1 hD Kl=>?_⟩;have ge:Bj n (bf n g) h k=o::l:=by
   unfold Bj;rw[Rn h f4,<-f5];unfold dw dH;rw[Gy]
  rw[ge] at Kl;refine⟨D,_,_,_,rfl,rfl,aV.of Kl,bO (j:=0) rfl,S,G,g,ss b,ls b,h,o,j,rfl,s1 _ _ hS,s1 _ _ hG,by lia,Hd,f7,f8,?_⟩;rw[f6] at q;exact q H1 s1
end
open dU (cZ NT mR cg)
theorem _root_.L2.j6.not{lp:Pos}{q:Str}{Pt:Addr}{H:Hp}(t:j6 lp q Pt H){b:Addr}{o:HO}(h:H b=some o)(n:∀ps,o≠.nA ps):b≠Pt:=by
 rintro rfl;rcases t with z|⟨c,z,_⟩ <;> · rw[h] at z;exact n _ (aY z)
theorem _root_.L2.j6.keep{lp:Pos}{q:Str}{Pt:Addr}{H H':Hp}(t:j6 lp q Pt H)(e:∀b o,H b=some o->(b=Pt\/∃p,o=.ext p)->H' b=some o):j6 lp q Pt H':=by
 rcases t with z|⟨c,z,y⟩
 .exact .inl (e _ _ z (.inl rfl))
 .exact .inr ⟨c,e _ _ z (.inl rfl),e _ _ y (.inr ⟨_,rfl⟩)⟩
theorem tZ{S:Addr->Prop}{h0:Heap}{H1 H:Hp}(n:∀a,S a->H1 a=none)(s:aM (iP S h0 H1) H):aM H1 (Be S H):=fun b o e=>by
 have c:¬ S b:=fun z=>by rw[n b z] at e;cases e
 rw[eK c];exact s b o (by rw[bN c];exact e)
theorem F1{S:Addr->Prop}{h0:Heap}{H H':Hp}(n:∀a,S a->H a=some (jz h0 a))(s:aM (Be S H) H'):aM H (iP S h0 H'):=fun b o e=>by
 by_cases c:S b
 .rw[m3 c,<-e,n b c]
 .rw[bN c];exact s b o (by rw[eK c];exact e)
theorem Jm{S:Addr->Prop}{h0:Heap}{H:Hp}{b:Addr}{o:HO}(n:∀a,S a->H a=some (jz h0 a))(e:H b=some o)(x:∀p,o≠.ext p):Be S H b=some o:=by
 rw[eK fun z=>by rw[n b z] at e;exact x _ (aY e).symm];exact e
def T5:Expr:=match (bZ T4).getD 0 (.Pass ⟨0,0,0,0⟩) with
 |.Return (some (.Call _ (_::_::_::_::_::k::_) _ _)) _=>k
 |_=>.Name "x" ⟨0,0,0,0⟩
def z6:Arguments:=match T5 with
 |.Lambda a _ _ _=>a
 |_=>{ posonlyargs:=[],args:=[],vararg:=none,kwonlyargs:=[],kw_defaults:=[],kwarg:=none,defaults:=[] }
def z7:Expr:=match T5 with
 |.Lambda _ b _ _=>b
 |e=>e
def NA:Scope:=match T5 with
 |.Lambda _ _ s _=>s
 |_=>{ kind:=.function,names:=[],isGenerator:=false,isCoroutine:=false }
def Rm:Pos:=match T5 with
 |.Lambda _ _ _ p=>p
 |_=>⟨0,0,0,0⟩
def Ro:Str:=("blame":Str)++".<locals>."++"<lambda>"
abbrev jC(Pb:Addr)(H:Hp):Prop:=j6 Rm Ro Pb H
abbrev ZR:List Str:=["one","at","net","homes","stands","log"]
theorem KQ:Bh ZR 2 NA Ro z6 z7:=by
 refine⟨rfl,by decide +kernel,fun dA pm c u_ us hl=>?_,by decide +kernel,fun i x hi hx=>?_,by decide +kernel,rfl,rfl⟩
 .match us,hl with
  |[_,_],_=>rfl
 .match i,hi,hx with
  |2,_,hx=>cases hx;rfl
  |3,_,hx=>cases hx;rfl
  |4,_,hx=>cases hx;rfl
  |5,_,hx=>cases hx;rfl
theorem cZ.rD{C p Pb:Addr}{H H':Hp}{L:Addr->Prop}{n:Nat}{ts:Ts}{lp:Pos}{qq:Str}(h:cZ C H L p n ts)(nL:¬ L Pb)(t:j6 lp qq Pb H)(s:cg Pb H H'):cZ C H' L p n ts:=by
 obtain⟨dx',tl,ol,ds,e,_⟩:=h.ob;exact h.keep (fun b o lb e=>s _ _ e (by rintro rfl;exact nL lb)) (fun o e'=>s _ _ e' (t.not e (by intro ps z;cases z)))
theorem cS.rD{Pb SA LA:Addr}{H H':Hp}{bA bp:List Addr}{m L:Nat}{ss ls:Nat->List (Option Nat)}{lp:Pos}{qq:Str}(h:cS H SA LA bA bp m L ss ls)(t:j6 lp qq Pb H)(s:cg Pb H H'):cS H' SA LA bA bp m L ss ls:=by
 obtain⟨g1,g2,g3,g4,g5,g6⟩:=h;exact⟨s _ _ g1 (t.not g1 (by intro ps z;cases z)),s _ _ g2 (t.not g2 (by intro ps z;cases z)),g3.mono fun j _ e=>s _ _ e (t.not e (by intro ps z;cases z)),g4.mono fun j _ e=>s _ _ e (t.not e (by intro ps z;cases z)),g5,g6⟩
structure Ca(C:Addr)(H1:Hp)(Lp:Addr->Prop)(p a SA LA f c:Addr)(bA bp:List Addr)(n L:Nat)(g:Nat->List Nat)(hs ns:List Int)(ss ls:Nat->List (Option Nat))(cells:List (Str×Addr))(h0:Heap):Prop where
 nS:∀x,cI cells x->H1 x=none
 le:xH cells h0 (iP (cI cells) h0 H1)
 cn:rC cells h0 "net" (.ref p)
 ch:rC cells h0 "homes" (.ref a)
 cs:rC cells h0 "stands" (.ref SA)
 cl:rC cells h0 "log" (.ref LA)
 net:cZ C H1 Lp p n (bf n g)
 rn:sX n g
 gd:fh n g
 hH:H1 a=some (.tup (HV hs))
 lg:cS H1 SA LA bA bp hs.length L ss ls
 ln:gB n g hs L ss ls ns
 CQ:hs.length<=16
 xR:L<=60
 hf:H1 f=some (qH f Ro z6 z7 NA cells c)
 hc:H1 c=some (oQ c Ro)
abbrev WU(K:PySem.W.Frag)(C:Addr):TE:=qB (Jl C) [] E0 (bT (bb 2) (bT (bb 3) (bT (mE (BN K) (bb 4) (bb 1)) (bT (mE (BN K) (bb 5) (bb 1)) (bT (bb 0) jB)))))
theorem Ca.call{K:PySem.W.Frag}{C:Addr}{H1:Hp}{Lp:Addr->Prop}{p a SA LA f c:Addr}{bA bp:List Addr}{n L:Nat}{g:Nat->List Nat}{hs ns:List Int}{ss ls:Nat->List (Option Nat)}{cells:List (Str×Addr)}{h0:Heap}(X:Ca C H1 Lp p a SA LA f c bA bp n L g hs ns ss ls cells h0){Hc:Hp}{Q:VK}{one b:Nat}(s:aM (iP (cI cells) h0 H1) Hc)(ho:one<hs.length)(hb:b<L)(q:∀H',aM Hc H'->Q (F0 n g hs ss ls b one) H'):FT 2 NA Ro z6 z7 ZR (WU K C) f [.int one,.int b] Hc Q:=by
 have inj:aM H1 (iP (cI cells) h0 H1):=fun b o e=>by rw[bN fun z=>by rw[X.nS b z] at e;cases e];exact e
 have nk:∀a,cI cells a->Hc a=some (jz h0 a):=fun a z=>s _ _ (m3 z);have su:=tZ X.nS s;obtain⟨g1,g2,g3,g4,g5,g6⟩:=X.lg;refine⟨cells,c,h0,[.ref p,.ref a,.ref SA,.ref LA],s _ _ (inj _ _ X.hf),s _ _ (inj _ _ X.hc),rfl,rfl,X.le.mono (fun a _ e=>s _ _ e),fun i x v h1 h2=>?_,?_⟩
 .match i,h1,h2 with
  |0,h1,h2=>cases h1;cases h2;exact X.cn
  |1,h1,h2=>cases h1;cases h2;exact X.ch
  |2,h1,h2=>cases h1;cases h2;exact X.cs
  |3,h1,h2=>cases h1;cases h2;exact X.cl
 .exact⟨_,rfl,_,rfl,_,rfl,_,rfl,SA,_,_,_,rfl,rfl,aV.of (su _ _ g1),eQ (by rw[g3.1];lia),_,rfl,_,rfl,LA,_,_,_,rfl,rfl,aV.of (su _ _ g2),eQ (by rw[g4.1];exact hb),_,rfl,Lp,p,a,bA.getD b 0,bp.getD b 0,n,L,g,hs,ns,ss,ls,b,one,rfl,X.net.same su,X.rn,X.gd,su _ _ X.hH,su _ _ (g3.2 b (by lia)),su _ _ (g4.2 b hb),X.ln,hb,ho,X.CQ,fun H4 s4 n4=>q _ (F1 nk s4)⟩
noncomputable def GA(n:Nat)(g:Nat->List Nat)(hs:List Int)(L:Nat)(ss ls:Nat->List (Option Nat))(b:Int)(i:Nat):Option (List Nat):=if 0<=b then FF n g hs L ss ls b.toNat i else none
theorem vQ{n:Nat}{g:Nat->List Nat}{hs:List Int}{L:Nat}{ss ls:Nat->List (Option Nat)}{b i:Nat}:GA n g hs L ss ls (b:Int) i=FF n g hs L ss ls b i:=by unfold GA;rw[ao (by lia),cN]
section
variable {P:Program} {w:World} {K:PySem.W.Frag} {mg:Str->Option Value} {base:Heap}
theorem CS:aI ["homes","stands","log","letter","beat","instead_of","going","chain","other"] ["homes","stands","log","letter","beat","instead_of"] (am WT):=⟨rfl,rfl,rfl,by decide +kernel,rfl,by decide +kernel,by decide +kernel⟩
def NC(C:Addr):Sp:=fun vs H Q _=>∃ (H1:Hp) (Lp:Addr->Prop) (p a SA LA f c:Addr) (bA bp:List Addr) (n L:Nat) (g:Nat->List Nat) (hs ns:List Int) (ss ls:Nat->List (Option Nat)) (cells:List (Str×Addr)) (h0:Heap) (i:Nat) (b:Int),vs=[.ref a,.ref SA,.ref LA,.int i,.int b,.ref f]/\H=iP (cI cells) h0 H1/\
 Ca C H1 Lp p a SA LA f c bA bp n L g hs ns ss ls cells h0/\i<hs.length/\∀v H',aM H H'->FP H H' v (GA n g hs L ss ls b i)->Q v H'
theorem Rp{f C:Addr}{fd:FuncData}(F:fX K "chain_along" "chain_along" WT f fd)(B:Bl mg)(HO:cp P w K mg base be 3 "is_handed_on" ["stands","log","letter","beat"] kC)(GT:cp P w K mg base be 7 "good_tie_taker" ["net","homes","stand","handing","letter"] (Jl C)):
  bz P w K mg base be 9 f fd ["homes","stands","log","letter","beat","instead_of"] (NC C):=by
 refine F.ok CS (fun vs H Q E h=>?_) (fun dQ A outer s H vs Q E hr h=>?_)
 .obtain⟨H1,Lp,p,a,SA,LA,f',c,bA,bp,n,L,g,hs,ns,ss,ls,cells,h0,i,b,rfl,_⟩:=h;rfl
 .obtain⟨H1,Lp,p,a,SA,LA,f',c,bA,bp,n,L,g,hs,ns,ss,ls,cells,h0,i,bI,rfl,rfl,X,hi,q⟩:=h;have h3:b_ 3 _:=hr.mono (by decide);have inj:aM H1 (iP (cI cells) h0 H1):=fun b o e=>by rw[bN fun z=>by rw[X.nS b z] at e;cases e];exact e
  refine⟨_,(ah (bx (et (dE (aE HO h3 aQ (aa (pv 1) (aa (pv 2) (aa (pv 3) (aa (pv 4) ag))))))) (al (aH cu)) aS)
   (ah (aL (i:=6) CS.nd rfl (Or.inl rfl) (Bi (te:=WU K C) (i:=5) hr rfl KQ (pv 5) (aa (pv 3) (aa (pv 4) ag)) (fun f dA c s H=>aE GT (hr.deeper _) aQ (aa (pv 2) (aa (pv 3) (aa (aA aB (pv 4) (pv 1) (fun _ _=>rfl)) (aa (aA aB (pv 5) (pv 1) (fun _ _=>rfl)) (aa (pv 0) ag))))))))
   (ah (bx (aK jY (pv 6) cu (aO _)) (al (aH cu)) aS)
   (ah (aL (i:=7) CS.nd rfl (Or.inl rfl) (dS (aa (pv 6) ag)))
   (ah (qw eR (aK sG (aA a9 (aA aB (pv 2) (pv 4) (fun _ _=>rfl)) (pv 6) (fun _ _=>rfl)) (aA a9 (pv 0) (pv 6) (fun _ _=>rfl)) (aO _)) (ah (Do (i:=4) CS.nd rfl (Or.inl rfl) aq Dp)
    (ah (bx (aK eM (pv 4) (au aD (by rfl) B.len ce (aa (pv 2) ag)) (aO _)) (al (aH cu)) aS)
    (ah (aL (i:=8) CS.nd rfl (Or.inl rfl) (Bi (te:=WU K C) (i:=5) hr rfl KQ (pv 5) (aa (pv 6) (aa (pv 4) ag)) (fun f dA c s H=>aE GT (hr.deeper _) aQ (aa (pv 2) (aa (pv 3) (aa (aA aB (pv 4) (pv 1) (fun _ _=>rfl)) (aa (aA aB (pv 5) (pv 1) (fun _ _=>rfl)) (aa (pv 0) ag))))))))
    (ah (aL (i:=6) CS.nd rfl (Or.inl rfl) (wd (aK jY (pv 8) cu (aO _)) (pv 6) (pv 8)))
    (al (cw (gO gI jp jo cC (pv 7) (aa (pv 6) ag)))))))))
   (al (aH (pv 7)))))))),?_⟩
  have ZS:=X.lg.same inj;have LN:=X.ln;have xR:=X.xR;refine⟨_,rfl,_,rfl,_,rfl,_,rfl,SA,LA,bA,bp,hs.length,L,ss,ls,i,bI,rfl,ZS,_,rfl,?_⟩;refine bR (fun e=>?_) (fun e=>?_)
  .have e':dY hs.length L ss i bI=false:=by simpa using e
   have n0:GA n g hs L ss ls bI i=none:=by
    unfold GA;by_cases b0:0<=bI
    .rw[ao b0];unfold FF;refine ap ?_;rintro⟨hb,led⟩;obtain⟨h,o,f1,f2⟩:=tU led;have z:=iI hi hb f1;rw[show ((bI.toNat:Nat):Int)=bI by lia,e'] at z;cases z
    .exact ap b0
   exact q .bJ _ (aM.refl _) (by rw[n0];rfl)
  have e':dY hs.length L ss i bI=true:=by simpa using e
  obtain⟨i',b,h,ei,rfl,_,hb,_⟩:=gY e';rw[vQ] at q;refine⟨f',rfl,⟨cells,c,inj _ _ X.hf⟩,_,rfl,_,rfl,X.call (aM.refl _) hi hb fun H2 s2=>?_⟩;unfold FF at q;unfold F0;by_cases led:g7 n g hs (ss b) (ls b) i=true
  rotate_left
  .rw[ap led];rw[ap (fun z=>led z.2)] at q;exact⟨_,rfl,rfl,_,rfl,mV (q .bJ H2 s2 rfl)⟩
  rw[ao led];rw[ao ⟨hb,led⟩] at q;obtain⟨_,_,_,_,j,_,_,_,_,_,f6,f7,_⟩:=LN.taker X.net.km hb led;have jl:j<hs.length:=by have:=(aT f7).1;rw[LN.sl b (d_ hb)] at this;exact this
  rw[f6] at q |-;refine⟨_,rfl,rfl,_,rfl,tP ?_⟩;refine⟨_,rfl,by show 1<=sizeLine;decide,fun Z hZ=>?_⟩;have WV:(iP (cI cells) h0 H1) Z=none:=s2.free hZ;refine⟨fun m σ Hc=>∃ (k one:Nat) (zs:List Nat),m=L-(b+k)/\(∃v8,σ=[some (.ref a),some (.ref SA),some (.ref LA),some (.int i),some (.int ((b+k:Nat):Int)),some (.ref f'),some (.int one),some (.ref Z),v8])/\aM (iP (cI cells) h0 H1) Hc/\Hc Z=some (.lst (NV (zs++[one])))/\zs.length=k/\one<hs.length/\b+k<L/\
    vM hs ls (kE n g hs ss ls) (L-b) b j=(vM hs ls (kE n g hs ss ls) (L-(b+k)) (b+k) one).map (zs++·),⟨_,0,j,[],rfl,⟨_,rfl⟩,s2.trans (aj hZ),af,rfl,jl,hb,?_⟩,?_⟩
  .show _=(vM hs ls (kE n g hs ss ls) (L-b) b j).map ([]++·);cases vM hs ls (kE n g hs ss ls) (L-b) b j <;> rfl
  rintro m σ Hc ⟨k,one,zs,rfl,⟨v8,rfl⟩,sc,ZT,zl,ol,Gz,ch⟩;have WO:=ZS.same sc;obtain⟨c1,c2,c3,c4,c5,c6⟩:=WO;have Hd:=LN.r.tie _ Gz;have Zn:(ls (b+k)).length=hs.length:=by rw[Hd.len];exact LN.sl _ (d_ Gz)
  refine⟨_,rfl,_,rfl,LA,_,_,_,rfl,rfl,aV.of c2,eQ (by rw[c4.1];exact Gz),_,rfl,bp.getD (b+k) 0,_,_,_,rfl,rfl,cR.of (c4.2 (b+k) Gz),dM (by lia),_,rfl,_,rfl,a,_,_,_,rfl,rfl,cR.of (sc _ _ (inj _ _ X.hH)),jy ol,kY,_,rfl,?_⟩;rw[xF];rw[show L-(b+k)=(L-(b+(k+1)))+1 by lia] at ch;cases hm:kF hs (ls (b+k)) one with
  |true=>
   rw[xC hm] at ch;rw[ch] at q;exact tP ⟨_,rfl,q _ Hc sc ⟨Z,rfl,WV,ZT⟩⟩
  |false=>
   rw[xD (by rw[hm];decide),xE] at ch;refine mV ⟨_,fun σ' H' z=>z,?_⟩;refine⟨_,rfl,_,_,rfl,rfl,?_⟩;have TX:(((b+k:Nat):Int)+1)=((b+(k+1):Nat):Int):=by lia
   change bH 4 (V.int (((b+k:Nat):Int)+1)) _ _ _;rw[TX];refine⟨_,rfl,_,rfl,LA,_,rfl,.inl (aV.of c2),rfl,_,rfl,?_⟩;rw[aG,c4.1];refine bR (fun e2=>?_) (fun e2=>?_)
   .have e3:b+(k+1)=L:=by have:=V.int.inj (b9 e2);lia
    rw[show L-(b+(k+1))=0 by lia] at ch;have e0:vM hs ls (kE n g hs ss ls) (L-b) b j=none:=ch;rw[e0] at q;exact q .bJ Hc sc rfl
   .have Ms:b+(k+1)<L:=by
     have:¬ (((b+(k+1):Nat):Int)=(L:Int)):=fun z=>e2 (bB (by show V.int _=V.int _;rw[z]));lia
    refine⟨f',rfl,⟨cells,c,sc _ _ (inj _ _ X.hf)⟩,_,rfl,_,rfl,X.call sc ol Ms fun H3 s3=>?_⟩;have T6:=s3 _ _ ZT;unfold F0;by_cases Jn:g7 n g hs (ss (b+(k+1))) (ls (b+(k+1))) one=true
    .obtain⟨_,_,_,_,j2,_,_,_,_,_,k6,k7,_⟩:=LN.taker X.net.km Ms Jn;have jl2:j2<hs.length:=by have:=(aT k7).1;rw[LN.sl _ (d_ Ms)] at this;exact this
     rw[ao Jn,k6];rw[show kE n g hs ss ls (b+k+1) one=j2 from k6] at ch;refine⟨_,rfl,rfl,_,rfl,tP ⟨_,rfl,?_⟩⟩;refine⟨_,rfl,.inl ⟨rfl,_,aV.of T6⟩,_,rfl,Z,_,_,rfl,rfl,T6,by rw[aG,cr,zl];exact bV (show k+1<62 by lia) (by decide),?_⟩;exact⟨L-(b+(k+1)),by lia,k+1,j2,zs++[one],rfl,⟨_,rfl⟩,dU.bU (sc.trans s3) WV,by rw[af];exact congrArg (fun z=>some (L2.HO.lst z)) gZ.symm,by rw[cr,zl];rfl,jl2,Ms,ch⟩
    .have k6:kE n g hs ss ls (b+(k+1)) one=one:=by unfold kE;rw[ap Jn]
     rw[ap Jn];rw[show kE n g hs ss ls (b+k+1) one=one from k6] at ch;refine⟨_,rfl,rfl,_,rfl,mV ⟨_,rfl,?_⟩⟩;refine⟨_,rfl,.inl ⟨rfl,_,aV.of T6⟩,_,rfl,Z,_,_,rfl,rfl,T6,by rw[aG,cr,zl];exact bV (show k+1<62 by lia) (by decide),?_⟩;exact⟨L-(b+(k+1)),by lia,k+1,one,zs++[one],rfl,⟨_,rfl⟩,dU.bU (sc.trans s3) WV,by rw[af];exact congrArg (fun z=>some (L2.HO.lst z)) gZ.symm,by rw[cr,zl];rfl,ol,Ms,ch⟩
theorem WW:aI ["net","homes","stands","log","letter","beat"] ["net","homes","stands","log","letter","beat"] (am T4):=⟨rfl,rfl,rfl,by decide +kernel,rfl,by decide +kernel,by decide +kernel⟩
def F2(C Pb:Addr):Sp:=fun vs H Q _=>∃ (Lp:Addr->Prop) (p a SA LA:Addr) (bA bp:List Addr) (n L:Nat) (g:Nat->List Nat) (hs ns:List Int) (ss ls:Nat->List (Option Nat)) (i:Nat) (b:Int),vs=[.ref p,.ref a,.ref SA,.ref LA,.int i,.int b]/\cZ C H Lp p n (bf n g)/\¬ Lp Pb/\sX n g/\fh n g/\H a=some (.tup (HV hs))/\cS H SA LA bA bp hs.length L ss ls/\gB n g hs L ss ls ns/\hs.length<=16/\L<=60/\i<hs.length/\jC Pb H/\
 ∀v H',jC Pb H'->cg Pb H H'->FP H H' v (GA n g hs L ss ls b i)->Q v H'
theorem Rq{f c C Pb:Addr}{fd:FuncData}(F:wS K "blame" "blame" T4 f fd c)(kb:K.In base)(hb:r9 mg base)(hc:PySem.W.codeHdIn K c Pb=true)(CA:cp P w K mg base be 9 "chain_along" ["homes","stands","log","letter","beat","instead_of"] (NC C)):bz P w K mg base be 10 f fd ["net","homes","stands","log","letter","beat"] (F2 C Pb):=by
 refine F.ok WW (fun vs H Q E h=>?_) (fun A outer s H vs Q E hr h=>?_)
 .obtain⟨Lp,p,a,SA,LA,bA,bp,n,L,g,hs,ns,ss,ls,i,b,rfl,_⟩:=h;rfl
 .obtain⟨Lp,p,a,SA,LA,bA,bp,n,L,g,hs,ns,ss,ls,i,b,rfl,N,nL,Rn,G,ha,LG,LN,CQ,xR,hi,tb,q⟩:=h;refine⟨_,(al (aH (Ji CA hr rfl rfl (aa (pv 1) (aa (pv 2) (aa (pv 3) (aa (pv 4) (aa (pv 5) (aa (D9 (NB:=["one","at","net","homes","stands","log"]) (src:=[none,none,some 0,some 1,some 2,some 3]) (AA kb hb hc) (cj (by kernel_rfl))) ag))))))))),?_⟩;refine⟨_,rfl,_,rfl,_,rfl,_,rfl,_,rfl,tb,fun f' c' H2 VD old Dn B4 nS h0 LE cv=>?_⟩;have t2:jC Pb H2:=VD;refine⟨H2,Lp,p,a,SA,LA,f',c',bA,bp,n,L,g,hs,ns,ss,ls,_,h0,i,b,rfl,rfl,⟨nS,LE,cv 0 "net" _ rfl rfl rfl,cv 1 "homes" _ rfl rfl rfl,cv 2 "stands" _ rfl rfl rfl,cv 3 "log" _ rfl rfl rfl,cZ.rD N nL tb old,Rn,G,old _ _ ha (tb.not ha (by intro ps z;cases z)),LG.rD tb old,LN,CQ,xR,B4,Dn⟩,hi,fun v H' s' tl=>?_⟩;have nk:∀a,cI _ a->H' a=some (jz h0 a):=fun a z=>s' _ _ (m3 z);have su:=tZ nS s';refine⟨nk,q v _ (t2.keep fun b o e _=>su _ _ e) (fun b o e n=>su _ _ (old b o e n)) ?_⟩;cases hz:GA n g hs L ss ls b i with
  |none=>rw[hz] at tl;exact tl
  |some zs=>
   rw[hz] at tl;obtain⟨D,rfl,nD,hD⟩:=tl;have WX:H2 D=none:=by
    cases z:H2 D with
    |none=>rfl
    |some o=>
     have:¬ cI _ D:=fun y=>by rw[nS D y] at z;cases z
     rw[bN this,z] at nD;cases nD
   refine⟨D,rfl,?_,Jm nk hD (by intro p z;cases z)⟩;cases z:H D with
   |none=>rfl
   |some o=>
    by_cases hP:D=Pb
    .rcases t2 with y|⟨_,y,_⟩ <;> · rw[<-hP,WX] at y;cases y
    .rw[old D o z hP] at WX;cases WX
end
abbrev WY:Stmt:=gG 55
structure Ev(C Pb:Addr)(Lp:Addr->Prop)(p O r a SA LA:Addr)(as ds bA bp:List Addr)(n L:Nat)(g:Nat->List Nat)(hs ns:List Int)(ss ls:Nat->List (Option Nat))(H:Hp):Prop where
 net:cZ C H Lp p n (bf n g)
 nL:¬ Lp Pb
 rn:sX n g
 gd:fh n g
 rg:Tr n g
 of:fA H O as n g
 fr:e_ H r ds n g
 ha:H a=some (.tup (HV hs))
 lg:cS H SA LA bA bp hs.length L ss ls
 ln:gB n g hs L ss ls ns
 CQ:hs.length<=16
 xR:L<=60
 tb:jC Pb H
theorem Ev.keep{C Pb:Addr}{Lp:Addr->Prop}{p O r a SA LA:Addr}{as ds bA bp:List Addr}{n L:Nat}{g:Nat->List Nat}{hs ns:List Int}{ss ls:Nat->List (Option Nat)}{H H':Hp}(E:Ev C Pb Lp p O r a SA LA as ds bA bp n L g hs ns ss ls H)(s:cg Pb H H')(t:jC Pb H'):Ev C Pb Lp p O r a SA LA as ds bA bp n L g hs ns ss ls H':=by
 have up:∀ {b o},H b=some o->(∀ps,o≠.nA ps)->H' b=some o:=fun e n=>s _ _ e (E.tb.not e n);refine⟨cZ.rD E.net E.nL E.tb s,E.nL,E.rn,E.gd,E.rg,⟨?_,E.of.rows.mono fun j _ e=>up e (by intro ps z;cases z),E.of.inj⟩,⟨?_,fun j hj=>?_⟩,up E.ha (by intro ps z;cases z),E.lg.rD E.tb s,E.ln,E.CQ,E.xR,t⟩
 .obtain⟨o,ks,x,y⟩:=E.of.dict;exact⟨o,ks,x,up y (by intro ps z;cases z)⟩
 .obtain⟨ks,x,y⟩:=E.fr.dict;exact⟨ks,x,up y (by intro ps z;cases z)⟩
 .obtain⟨R,x,y⟩:=E.fr.rows j hj;exact⟨R,up x (by intro ps z;cases z),y⟩
theorem jn{Pb:Addr}{H H':Hp}(t:jC Pb H)(s:aM H H'):jC Pb H':=t.keep fun b o e _=>s b o e
theorem Ev.same{C Pb:Addr}{Lp:Addr->Prop}{p O r a SA LA:Addr}{as ds bA bp:List Addr}{n L:Nat}{g:Nat->List Nat}{hs ns:List Int}{ss ls:Nat->List (Option Nat)}{H H':Hp}(E:Ev C Pb Lp p O r a SA LA as ds bA bp n L g hs ns ss ls H)(s:aM H H'):Ev C Pb Lp p O r a SA LA as ds bA bp n L g hs ns ss ls H':=E.keep (cg.of s) (jn E.tb s)
theorem Bm{zs:List Nat}(h:zs≠[]):fR (NV zs) (-1)=some (.int ((zs.getD (zs.length-1) 0:Nat):Int)):=by
 have:=pL (zs:=IN zs) (by intro z;exact h (List.map_eq_nil_iff.mp z));rw[vE,aG,jk] at this;exact this
section
variable {P:Program} {w:World} {K:PySem.W.Frag} {mg:Str->Option Value} {base:Heap}
theorem ND:aI ["_law_net","_law_outs","_law_fars_here","_law_homes","_law_stands","_law_log_here","_law_i","_law_beat","_law_due","_law_told"] ["_law_net","_law_outs","_law_fars_here","_law_homes","_law_stands","_law_log_here","_law_i","_law_beat"] (am WY):=⟨rfl,rfl,rfl,by decide +kernel,rfl,by decide +kernel,by decide +kernel⟩
def NG(C Pb:Addr):Sp:=fun vs H Q _=>∃ (Lp:Addr->Prop) (p O r a SA LA:Addr) (as ds bA bp:List Addr) (n L:Nat) (g:Nat->List Nat) (hs ns:List Int) (ss ls:Nat->List (Option Nat)) (i b:Nat),vs=[.ref p,.ref O,.ref r,.ref a,.ref SA,.ref LA,.int i,.int b]/\Ev C Pb Lp p O r a SA LA as ds bA bp n L g hs ns ss ls H/\i<hs.length/\b<L/\
 ∀H',jC Pb H'->cg Pb H H'->Q (.bl true) H'
theorem Rt{f C Pb:Addr}{fd:FuncData}(F:fX K "_law_told_right" "_law_told_right" WY f fd)(B:Bl mg)(LB:cp P w K mg base be 2 "_law_blame" ["_law_outs","_law_fars_here","_law_homes","_law_stands","_law_log_here","_law_i","_law_beat"] Jg)(BL:cp P w K mg base be 10 "blame" ["net","homes","stands","log","letter","beat"] (F2 C Pb))(IS:cp P w K mg base be 1 "_law_is_list" ["_law_found","_law_due"] No)(CH:cp P w K mg base be 5 "is_chain" ["homes","stands","log","letter","beat","thing"] pM)(ST:cp P w K mg base be 6 "is_straight" ["net","homes","stands","log","letter","beat","chain"] (FB C)):
  bz P w K mg base be 11 f fd ["_law_net","_law_outs","_law_fars_here","_law_homes","_law_stands","_law_log_here","_law_i","_law_beat"] (NG C Pb):=by
 refine F.ok ND (fun vs H Q E h=>?_) (fun dQ A outer s0 H vs Q E hr h=>?_)
 .obtain⟨Lp,p,O,r,a,SA,LA,as,ds,bA,bp,n,L,g,hs,ns,ss,ls,i,b,rfl,_⟩:=h;rfl
 .obtain⟨Lp,p,O,r,a,SA,LA,as,ds,bA,bp,n,L,g,hs,ns,ss,ls,i,b,rfl,X,hi,hb,q⟩:=h;have h1:b_ 1 _:=hr.mono (by decide);have h2:b_ 2 _:=hr.mono (by decide);have h5:b_ 5 _:=hr.mono (by decide);have h6:b_ 6 _:=hr.mono (by decide);have oP:=hr.u (n:=1);refine⟨_,(ah (aL (i:=8) ND.nd rfl (Or.inl rfl) (aE LB h2 aQ (aa (pv 1) (aa (pv 2) (aa (pv 3) (aa (pv 4) (aa (pv 5) (aa (pv 6) (aa (pv 7) ag)))))))))
   (ah (aL (i:=9) ND.nd rfl (Or.inl rfl) (aE BL hr aQ (aa (pv 0) (aa (pv 3) (aa (pv 4) (aa (pv 5) (aa (pv 6) (aa (pv 7) ag))))))))
   (ah (bx (aK jY (pv 8) cu (aO _)) (al (aH (dG jY (pv 9) cu (aO _)))) aS)
   (ah (bx (PW.pt (oH (et (dE (aE IS h1 aQ (aa (pv 9) (aa (pv 8) ag))))) (l0 (aK oI (cx oP (cx oP (pv 2) (aA a9 (pv 3) (aA aB (pv 8) (lv iw aq) (fun _ _=>rfl)) (fun _ _=>rfl)) (fun _ _=>rfl)) (aA a9 (aA aB (pv 5) (pv 7) (fun _ _=>rfl)) (pv 6) (fun _ _=>rfl)) (fun _ _=>rfl)) (au aD (by rfl) B.len ce (aa (pv 8) ag)) (aO _))))) (al (aH fW)) aS)
   (ah (bx (aK tT (aE CH h5 aQ (aa (pv 3) (aa (pv 4) (aa (pv 5) (aa (pv 6) (aa (pv 7) (aa (pv 8) ag))))))) fW (aO _)) (al (aH fW)) aS)
   (ah (bx (aK tT (aE ST h6 aQ (aa (pv 0) (aa (pv 3) (aa (pv 4) (aa (pv 5) (aa (pv 6) (aa (pv 7) (aa (pv 8) ag)))))))) fW (aO _)) (al (aH fW)) aS)
   (ah (cw (gO gI jp jo cC (pv 9) (aa (pv 6) ag)))
   (al (aH (dG (Jf (d:=0) hr.u) (aE BL hr aQ (aa (pv 0) (aa (pv 3) (aa (pv 4) (aa (pv 5) (aa (pv 6) (aa (pv 7) ag))))))) (pv 8) (aO _))))))))))),?_⟩
  refine⟨_,rfl,_,rfl,_,rfl,_,rfl,_,rfl,_,rfl,_,rfl,O,r,a,SA,LA,as,ds,bA,bp,n,L,g,hs,ns,ss,ls,i,b,rfl,X.of,X.fr,X.gd,X.net.km,X.ha,X.CQ,X.lg,X.ln,X.xR,hi,hb,fun v H1 s1 tl=>?_⟩;have X1:=X.same s1;refine⟨_,rfl,_,rfl,_,rfl,_,rfl,_,rfl,_,rfl,Lp,p,a,SA,LA,bA,bp,n,L,g,hs,ns,ss,ls,i,b,rfl,X1.net,X1.nL,X1.rn,X1.gd,X1.ha,X1.lg,X1.ln,X1.CQ,X1.xR,hi,X1.tb,fun v2 H2 AX s2 Ru=>?_⟩;rw[vQ] at Ru;have X2:=X1.keep s2 AX;have Rv:cg Pb H H2:=(cg.of s1).trans s2;cases hz:FF n g hs L ss ls b i with
  |none=>
   rw[hz] at tl Ru;obtain rfl:v=.bJ:=tl;obtain rfl:v2=.bJ:=Ru;refine⟨_,rfl,rfl,_,rfl,?_⟩;refine bR (fun _=>?_) (fun e=>absurd (bB rfl) e);exact⟨_,rfl,rfl,q H2 AX Rv⟩
  |some zs=>
   rw[hz] at tl Ru;obtain⟨Du,rfl,nDu,Rx⟩:=tl;obtain⟨To,rfl,ZU,ZV⟩:=Ru;obtain⟨h,o',e,d,_,_,f1,f2,hn,on,en,T7,ed,dl,he,NH,A7,zL⟩:=Bc X.ln X.net.km X.rg hz;have Ry:H2 Du=some (.lst (NV zs)):=s2 _ _ Rx (X1.tb.not Rx (by intro ps z;cases z));have zl:zs.length<=60:=bj zL X.xR;refine⟨_,rfl,rfl,_,rfl,?_⟩;refine bR (fun e=>absurd (b9 e) (by intro z;cases z)) (fun _=>?_);refine⟨_,rfl,_,rfl,To,Du,zs,rfl,ZV,Ry,by lia,fun H3 s3=>⟨_,rfl,?_⟩⟩;refine bR (fun e=>absurd e (by decide)) (fun _=>?_);have X3:=X2.same s3;have Jo:=s3 _ _ Ry;have WZ:=s3 _ _ ZV;obtain⟨g1,g2,g3,g4,g5,g6⟩:=X3.lg;have Hd:=X.ln.r.tie b hb;have sl:=X.ln.sl b (d_ hb);have ats:fR (SV (ss b)) (i:Int)=some (.int (h:Int)):=by rw[dM (by lia),f1];rfl
   have atl:fR (SV (ls b)) (i:Int)=some (.int (o':Int)):=by rw[dM (by rw[Hd.len];lia),f2];rfl
   have OR:fR (HV hs) ((zs.getD (zs.length-1) 0:Nat):Int)=some (.int (e:Int)):=by rw[ed,jy dl,he]
   have OI:fR (NV zs) 0=some (.int ((zs.getD 0 0:Nat):Int)):=mU (k:=0) (uo.mpr A7);have rS:fR (bA.map V.ref) (b:Int)=some (.ref (bA.getD b 0)):=eQ (by rw[g3.1];lia);have rL:fR (bp.map V.ref) (b:Int)=some (.ref (bp.getD b 0)):=eQ (by rw[g4.1];exact hb);refine⟨_,rfl,_,rfl,_,rfl,_,rfl,Du,_,_,_,rfl,rfl,aV.of Jo,Bm A7,a,_,_,_,rfl,rfl,cR.of X3.ha,OR,r,_,rfl,X3.fr.get en,_,rfl,_,rfl,LA,_,_,_,rfl,rfl,aV.of g2,rL,_,rfl,bp.getD b 0,_,_,_,rfl,rfl,cR.of (g4.2 b hb),atl,_,_,rfl,(X3.fr.rows e en).get on,_,rfl,Du,_,rfl,.inl (aV.of Jo),_,_,rfl,rfl,_,rfl,?_⟩;refine bR (fun z=>absurd (b9 z) (by rw[aG];lia)) (fun _=>?_);have Rz:H3 Du=some (.lst (HV (IN zs))):=by rw[vE];exact Jo
   refine⟨_,rfl,_,rfl,_,rfl,_,rfl,_,rfl,_,rfl,a,SA,LA,Du,bA,bp,hs.length,L,ss,ls,hs,IN zs,i,b,rfl,X3.ha,rfl,X3.lg,Rz,fun H4 s4=>?_⟩;rw[T7];refine⟨true,true,rfl,rfl,_,rfl,?_⟩;refine bR (fun z=>absurd z (by decide)) (fun _=>?_);have X4:=X3.same s4;refine⟨_,rfl,_,rfl,_,rfl,_,rfl,_,rfl,_,rfl,_,rfl,p,a,SA,LA,Du,bA,bp,hs.length,L,ss,ls,hs,IN zs,ns,i,b,n,g,Lp,rfl,X4.ha,rfl,X4.lg,X.ln.r,s4 _ _ Rz,hi,X4.net,T7,fun bt H5 s5 W1=>?_⟩;have ebt:bt=true:=by
    rw[W1 d o' e (by rw[aG,jk,ed]) f2 he,aG];exact bB NH
   subst ebt;refine⟨true,true,rfl,rfl,_,rfl,?_⟩;refine bR (fun z=>absurd z (by decide)) (fun _=>?_);have T8:=s4.trans s5;have X5:=X3.same T8;have Jp:=T8 _ _ WZ;have W2:=T8 _ _ Jo;have nTD:Du≠To:=fun z=>by rw[z] at Rx;rw[ZU] at Rx;cases Rx
   have W3:H To=none:=s1.free ZU;refine⟨_,rfl,.inl ⟨rfl,_,aV.of Jp⟩,_,rfl,To,_,_,rfl,rfl,Jp,by rw[aG];exact bV (show zs.length<61 by lia) (by decide),?_⟩;have s6:cg Pb H (upd H5 To (.lst (NV zs++[.int (i:Int)]))):=fun x o ex nx=>by
    rw[ai (ak ex W3)];exact T8 _ _ (s3 _ _ (Rv _ _ ex nx))
   have ZW:jC Pb (upd H5 To (.lst (NV zs++[.int (i:Int)]))):=by
    have t5:=X5.tb;refine t5.keep fun x o ex cs=>?_;have:x≠To:=by
     rintro rfl;rw[Jp] at ex;rcases cs with cs|⟨_,cs⟩
     .exact(t5.not Jp (by intro ps z;cases z)) cs
     .rw[cs] at ex;cases ex
    rw[ai this];exact ex
   have RA:(upd H5 To (.lst (NV zs++[.int (i:Int)]))) Du=some (.lst (NV zs)):=by rw[ai nTD];exact W2
   generalize upd H5 To (.lst (NV zs++[.int (i:Int)]))=H6 at *;have X6:=X.keep s6 ZW;refine⟨_,rfl,_,rfl,_,rfl,_,rfl,_,rfl,_,rfl,Lp,p,a,SA,LA,bA,bp,n,L,g,hs,ns,ss,ls,i,b,rfl,X6.net,X6.nL,X6.rn,X6.gd,X6.ha,X6.lg,X6.ln,X6.CQ,X6.xR,hi,X6.tb,fun v3 H7 tb7 s7 ZX=>?_⟩;rw[vQ,hz] at ZX;obtain⟨D3,rfl,nD3,jE⟩:=ZX;have W4:=s7 _ _ RA (ZW.not RA (by intro ps z;cases z));exact⟨_,rfl,D3,Du,_,_,rfl,rfl,aV.of jE,aV.of W4,rfl,FO,q H7 tb7 (s6.trans s7)⟩
end
end xk
namespace L2
open PySem PySem.Spec PyProof.Rows
theorem CV{X:Cx}(hc:X.calm=true):eU X (.type "set") (fun xs H Q=>∃ (l:Addr) (ns:List Int),xs=[.ref l]/\aV X.K H l (ns.map V.int)/\ns.length<=100/\∀D S,H D=none->Q (.ref D) (upd H D (.set S (firstMet (fun i=>ns.getD i 0) ns.length).length))):=by
 intro ae s σ H xs us Q I r h;obtain⟨l,ns,rfl,hl,Vh,q⟩:=h;obtain⟨u1,rfl,r1⟩:=r.one;obtain rfl:u1=Value.ref l:=r1;obtain⟨its,rv,pl,_⟩:=I.list hl;have ia:=y4 rv;have il:its.length=ns.length:=ia.length;refine call_set_list (I.ok.hd hc) pl.isList (by simpa using ia) (by rw[cE,il];exact gq (show ns.length+1<=101 by lia) (by decide)) fun h' tk S' k=>?_;have e2:its.toArray.size=ns.length:=by rw[cE,il]
 rw[e2] at S';exact⟨.ref s.heap.objs.size,_,I.wH (t':=tk) (o:=.set _ _) (fun b u e=>k b u (a_ e) e) (lH (ba _)) S',rfl,q _ _ I.fresh⟩
theorem CW{X:Cx}:eU X (.builtin "len") (fun xs H Q=>∃D S n,xs=[.ref D]/\H D=some (.set S n)/\n<=4000/\Q (.int n) H):=by
 intro ae s σ H xs us Q I r h;obtain⟨D,S,n,rfl,e,hn,q⟩:=h;obtain⟨u1,rfl,r1⟩:=r.one;obtain rfl:u1=Value.ref D:=r1;obtain⟨o,es,ep,t,q1,ZQ,hd,_,_,_,hf,hz⟩:=(show s.heap.SetOf (intKind X.prog X.w) D S n from I.bE D _ e)
 exact call_len_set q1 ZQ hd hf (by rw[hz];lia) ⟨.int n,H,I.tok _,⟨_,by rw[hz]⟩,q⟩
theorem Bn{val:Nat->Int}:∀ {m:Nat},((List.range m).map val).Nodup->(firstMet val m).length=m
 |0,_=>rfl
 |m+1,h=>by
  rw[mB,cP] at h;obtain⟨n1,n2,n3⟩:=iF.mp h;rw[firstMet_succ];unfold step_dedup;by_cases c:(firstMet val m).any (·==val m)=true
  .rw[firstMet_any] at c;obtain⟨x,hx,e⟩:=List.any_eq_true.mp c;exact absurd (eq_of_beq e) (n3 x hx (val m) (by simp))
  .rw[ap c,cr,ug,Bn n1]
end L2
namespace xk
open PySem L2 sf
open dU (cZ NT mR cg)
abbrev W5:Stmt:=gG 56
theorem fj:(["_law_at","_law_net","_law_homes","_law_stands","_law_log_here","_law_i"]:List Str).Nodup:=by decide +kernel
theorem F5{es:List Nat}(nd:es.Nodup):(PyProof.Rows.firstMet (fun i=>(IN es).getD i 0) (IN es).length).length=es.length:=by
 rw[L2.Bn,aG];have e:(List.range (IN es).length).map (fun i=>(IN es).getD i 0)=IN es:=by
  refine List.ext_getElem (by rw[aG,fq]) fun i h1 h2=>?_;rw[yB,List.getElem_range,bQ,bY h2];rfl
 rw[e];exact jq.mpr (nd.imp fun {a b} h z=>h (eT z))
section
variable {P:Program} {w:World} {K:PySem.W.Frag} {mg:Str->Option Value} {base:Heap}
theorem Jq:aI ["_law_net","_law_outs","_law_fars_here","_law_homes","_law_stands","_law_log_here","_law_i","_law_ends","_law_beat","_law_chain"] ["_law_net","_law_outs","_law_fars_here","_law_homes","_law_stands","_law_log_here","_law_i"] (am W5):=⟨rfl,rfl,rfl,by decide +kernel,rfl,by decide +kernel,by decide +kernel⟩
def NI(C Pb:Addr):Sp:=fun vs H Q _=>∃ (Lp:Addr->Prop) (p O r a SA LA:Addr) (as ds bA bp:List Addr) (n L:Nat) (g:Nat->List Nat) (hs ns:List Int) (ss ls:Nat->List (Option Nat)) (i:Nat),vs=[.ref p,.ref O,.ref r,.ref a,.ref SA,.ref LA,.int i]/\Ev C Pb Lp p O r a SA LA as ds bA bp n L g hs ns ss ls H/\i<hs.length/\
 ∀H',jC Pb H'->cg Pb H H'->Q (.bl true) H'
theorem RB{f C Pb:Addr}{fd:FuncData}(F:fX K "_law_letter_right" "_law_letter_right" W5 f fd)(B:Bl mg)(Hj:mg "set"=none)(TD:cp P w K mg base be 11 "_law_told_right" ["_law_net","_law_outs","_law_fars_here","_law_homes","_law_stands","_law_log_here","_law_i","_law_beat"] (NG C Pb))(LB:cp P w K mg base be 2 "_law_blame" ["_law_outs","_law_fars_here","_law_homes","_law_stands","_law_log_here","_law_i","_law_beat"] Jg)(BL:cp P w K mg base be 10 "blame" ["net","homes","stands","log","letter","beat"] (F2 C Pb)):
  bz P w K mg base be 12 f fd ["_law_net","_law_outs","_law_fars_here","_law_homes","_law_stands","_law_log_here","_law_i"] (NI C Pb):=by
 refine F.ok Jq (fun vs H Q E h=>?_) (fun dQ A outer s0 H vs Q E hr h=>?_)
 .obtain⟨Lp,p,O,r,a,SA,LA,as,ds,bA,bp,n,L,g,hs,ns,ss,ls,i,rfl,_⟩:=h;rfl
 .obtain⟨Lp,p,O,r,a,SA,LA,as,ds,bA,bp,n,L,g,hs,ns,ss,ls,i,rfl,X,hi,q⟩:=h;have h2:b_ 2 _:=hr.mono (by decide);have h10:b_ 10 _:=hr.mono (by decide);refine'⟨_,(ah (aL (i:=7) Jq.nd rfl (Or.inl rfl) (dS ag))
   (ah (dR eR rfl (dP rfl B.range (aa (au aD (by rfl) B.len ce (aa (pv 5) ag)) ag)) (aF (i:=8) Jq.nd rfl (Or.inl rfl))
    (ah (bx (et (dE (aE TD hr aQ (aa (pv 0) (aa (pv 1) (aa (pv 2) (aa (pv 3) (aa (pv 4) (aa (pv 5) (aa (pv 6) (aa (pv 8) ag))))))))))) (al (aH fW)) aS)
    (ah (aL (i:=9) Jq.nd rfl (Or.inl rfl) (aE LB h2 aQ (aa (pv 1) (aa (pv 2) (aa (pv 3) (aa (pv 4) (aa (pv 5) (aa (pv 6) (aa (pv 8) ag)))))))))
    (al (bx (aK pr (pv 9) cu (aO _)) (al (cw (gO gI jp jo cC (pv 7) (aa (aA aB (pv 9) (lv iw aq) (fun _ _=>rfl)) ag)))) aS)))))
   (ah (bx (aK (zo (e:=sQ) hr.u) ?c1 (dS ag) (aO _)) (al (aH fW)) aS)
   (al (aH (fL (dG eM (au CW (by rfl) B.len ce (aa (cV (CV rfl) (by rfl) Hj PyProof.Rows.boot_set (aa (pv 7) ag)) ag)) (au aD (by rfl) B.len ce (aa (pv 7) ag)) (aO _)) (gm (dG uW (pv 6) (pv 7) rfl)))))))),?_⟩
  case c1=>
   refine' cK (g:=(bH 0)) (tt:=(jZ (mE (fun x y H Q=>y=.bJ/\Q (.bl (!decide (x=.bJ))) H) (qB (F2 C Pb) [] E0 (bT (bb 1) (bT (bb 2) (bT (bb 3) (bT (bb 4) (bT (bb 5) (bT (bb 0) jB))))))) (tC .bJ)))) (te:=(bb 0)) (NB:=["_law_at","_law_net","_law_homes","_law_stands","_law_log_here","_law_i"]) (src:=[none,some 0,some 3,some 4,some 5,some 6]) (cj (by kernel_rfl)) rfl (Dt (fN (aa (au aD (by rfl) B.len ce (aa (pv 5) ag)) (aa (bC dF (au aD (by rfl) B.len ce (aa (pv 5) ag)) aq) (aa (lv iw aq) ag))))) ?g ?t ?e;case g=>exact fun cl C s₃ H₃ fp=>(aF (i:=0) fj rfl (Or.inl rfl) (Or.inr rfl))
   case t=>exact fun cl C s₃ H₃ fp=>eF (aK pr (aE BL h10 aQ (aa (pv 1) (aa (pv 2) (aa (pv 3) (aa (pv 4) (aa (pv 5) (aa (pv 0) ag))))))) cu (aO _))
   case e=>exact fun cl C s₃ H₃ fp=>(pv 0)
  refine⟨by show 0<=sizeLine;decide,fun En ZY=>?_⟩;have W8:=aj (o:=.lst []) ZY;obtain⟨g1,g2,g3,g4,g5,g6⟩:=X.lg;have OH:(((bp.map V.ref).length:Nat):Int)=(L:Int):=by rw[aG,g4.1]
  have xR:=X.xR;have LN:=X.ln;have Fi:=X.net.km;have nEP:∀ {Hc:Hp} {xs:List V},jC Pb Hc->Hc En=some (.lst xs)->En≠Pb:=fun t e=>t.not e (by intro ps z;cases z);refine⟨_,rfl,LA,_,rfl,.inl (aV.of (W8 _ _ g2)),L,by rw[OH],by lia,by lia,?_⟩;refine eE (n:=L) (lo:=0) (fun b σ Hc=>(∃v8 v9,σ=[some (.ref p),some (.ref O),some (.ref r),some (.ref a),some (.ref SA),some (.ref LA),some (.int i),some (.ref En),v8,v9])/\cg Pb H Hc/\jC Pb Hc/\∃es:List Nat,Hc En=some (.lst (NV es))/\es.length<=b/\es.Nodup/\∀d∈es,d≠i/\∃c M o h0,c<b/\OJ n g hs hs.length L ss ls i c M d o h0/\∀e:Nat,hs.getD d 0=(e:Int)->M<=far (bf n g) o e)
   ⟨⟨_,_,rfl⟩,cg.of W8,jn X.tb W8,[],af,ba _,h_,fun d hd=>nomatch hd⟩ ?_ ?_
  .rintro b σ Hc hb ⟨⟨v8,v9,rfl⟩,sc,tb,es,hE,esl,nd,T9⟩;rw[jS];have Xc:=X.keep sc tb;refine⟨_,rfl,_,rfl,_,rfl,_,rfl,_,rfl,_,rfl,_,rfl,_,rfl,Lp,p,O,r,a,SA,LA,as,ds,bA,bp,n,L,g,hs,ns,ss,ls,i,b,rfl,Xc,hi,hb,fun H1 Kv s1=>⟨_,rfl,l5 ?_⟩⟩;have X1:=Xc.keep s1 Kv;have FM:=s1 _ _ hE (nEP tb hE);refine⟨_,rfl,_,rfl,_,rfl,_,rfl,_,rfl,_,rfl,_,rfl,O,r,a,SA,LA,as,ds,bA,bp,n,L,g,hs,ns,ss,ls,i,b,rfl,X1.of,X1.fr,X1.gd,Fi,X1.ha,X1.CQ,X1.lg,LN,xR,hi,hb,fun v H2 s2 tl=>?_⟩;have Rv:cg Pb H H2:=(sc.trans s1).trans (cg.of s2);have AX:=jn Kv s2;have RD:=s2 _ _ FM;have old:∀d∈es,d≠i/\∃c M o h0,c<b+1/\OJ n g hs hs.length L ss ls i c M d o h0/\∀e:Nat,hs.getD d 0=(e:Int)->M<=far (bf n g) o e:=fun d hd=>
    let ⟨x,c,M,o,h0,y,z⟩:=T9 d hd
    ⟨x,c,M,o,h0,by lia,z⟩
   refine⟨_,rfl,rfl,_,rfl,?_⟩;cases hz:FF n g hs L ss ls b i with
   |none=>
    rw[hz] at tl;obtain rfl:v=.bJ:=tl;refine bR (fun e=>absurd e (by rw[bB rfl];decide)) (fun _=>?_);exact⟨⟨_,_,rfl⟩,Rv,AX,es,RD,by lia,nd,old⟩
   |some zs=>
    rw[hz] at tl;obtain⟨Dz,rfl,nDz,hDz⟩:=tl;obtain⟨h,o',e,d,_,_,f1,f2,hn,on,en,T7,ed,dl,he,NH,A7,_⟩:=Bc LN Fi X.rg hz;obtain⟨d',o,h0,zd,aag,Ch⟩:=zU LN.r T7;rw[aG] at Ch;obtain rfl:d=d':=by rw[aG,jk,ed] at zd;exact eT zd
    obtain rfl:o'=o:=by have:=Ch.o0;rw[f2] at this;exact aY this
    have di:d≠i:=fun z=>by
     subst z;obtain⟨e',w1,w2,w3⟩:=Ft LN.r Fi Ch;obtain rfl:e=e':=by rw[he] at w1;exact(eT w1).symm
     lia
    have de:d∉es:=fun z=>by
     obtain⟨_,c',M',o2,h02,w0,C',str⟩:=T9 d z;obtain⟨e',w1,w2,w3⟩:=IP LN.r Fi C' Ch w0;have:=str e' w1.symm;lia
    refine bR (fun _=>?_) (fun e=>absurd (by rw[cH (by intro z;cases z)];rfl) e);refine⟨_,rfl,.inl ⟨rfl,_,aV.of RD⟩,_,rfl,_,rfl,Dz,_,_,_,rfl,rfl,aV.of hDz,Bm A7,En,_,_,rfl,rfl,RD,by rw[aG];exact bV (show es.length<61 by lia) (by decide),?_⟩;rw[ed];refine⟨⟨_,_,rfl⟩,fun x o ex nx=>?_,?_,es++[d],by rw[af];exact congrArg (fun z=>some (HO.lst z)) gZ.symm,by rw[cr,ug];lia,iF.mpr ⟨nd,dq.mpr ⟨(fun z=>nomatch z),h_⟩,fun u hu v hv z=>de (by rw[bK] at hv;rw[<-hv,<-z];exact hu)⟩,fun x hx=>?_⟩
    .rw[ai (ak ex ZY)];exact Rv _ _ ex nx
    .refine AX.keep fun x o ex cs=>?_;have:x≠En:=by
      rintro rfl;rw[RD] at ex;rcases cs with cs|⟨_,cs⟩
      .exact(AX.not RD (by intro ps z;cases z)) cs
      .rw[cs] at ex;cases ex
     rw[ai this];exact ex
    .rcases bg.mp hx with m|m
     .exact old x m
     .rw[bK.mp m];refine⟨di,b,zs.length,o',h0,by lia,Ch,fun e' ZZ=>?_⟩;obtain rfl:e=e':=by rw[he] at ZZ;exact eT ZZ
      exact NH
  .rintro σ Hc ⟨⟨v8,v9,rfl⟩,sc,tb,es,hE,esl,nd,T9⟩;have Xc:=X.keep sc tb;obtain⟨b1,b2,_⟩:=Xc.lg;refine⟨_,rfl,LA,_,rfl,.inl (aV.of b2),_,rfl,LA,_,rfl,.inl (aV.of b2),_,_,rfl,rfl,_,rfl,by show 3<=sizeLine;decide,fun t3 ht3=>⟨_,rfl,⟨_,cR.of af⟩,fun D hD=>?_⟩⟩;have sT:=aj (o:=.tup [.int (((bp.map V.ref).length:Nat):Int),.int ((((bp.map V.ref).length:Nat):Int)+1),.int (-1)]) ht3;refine tW (K:=K) (xs:=[.int (((bp.map V.ref).length:Nat):Int),.int ((((bp.map V.ref).length:Nat):Int)+1),.int (-1)]) (fun j ys σ H3=>(∃x,σ=[x,some (.ref p),some (.ref a),some (.ref SA),some (.ref LA),some (.int i)])/\ys=[]/\cg Pb Hc H3/\jC Pb H3/\H3 t3=some (.tup [.int (((bp.map V.ref).length:Nat):Int),.int ((((bp.map V.ref).length:Nat):Int)+1),.int (-1)])/\H3 D=some (.lst [])) ⟨⟨_,rfl⟩,rfl,cg.of (sT.trans (aj hD)),jn (jn tb sT) (aj hD),aj hD _ _ af,af⟩ (fun j ys σ H3 _ z=>cR.of z.2.2.2.2.1) ?_ ?_
   .rintro j x ys σ H3 Kt Kf hx ⟨⟨x0,rfl⟩,rfl,s3,Gr,ht,jE⟩ kt kf;obtain⟨bt,rfl,W1⟩:∃bt:Int,x=.int bt/\GA n g hs L ss ls bt i=none:=by
     have no:∀bt:Int,bt<0\/(L:Int)<=bt->GA n g hs L ss ls bt i=none:=fun bt z=>by
      unfold GA;by_cases b0:0<=bt
      .rw[ao b0];unfold FF;exact ap fun y=>by have:=y.1;lia
      .exact ap b0
     match j,hx with
     |0,hx=>exact⟨_,(aY hx).symm,no _ (by lia)⟩
     |1,hx=>exact⟨_,(aY hx).symm,no _ (by lia)⟩
     |2,hx=>exact⟨_,(aY hx).symm,no _ (by lia)⟩
     |j+3,hx=>simp at hx
    have X3:=Xc.keep s3 Gr;refine⟨_,rfl,_,rfl,_,rfl,_,rfl,_,rfl,_,rfl,Lp,p,a,SA,LA,bA,bp,n,L,g,hs,ns,ss,ls,i,bt,rfl,X3.net,X3.nL,X3.rn,X3.gd,X3.ha,X3.lg,LN,X3.CQ,xR,hi,Gr,fun v H4 Kw s4 tl=>?_⟩;rw[W1] at tl;obtain rfl:v=.bJ:=tl;refine⟨rfl,_,rfl,?_⟩;refine bR (fun e=>absurd e (by rw[bB rfl];decide)) (fun _=>kf _ _ ⟨⟨_,rfl⟩,rfl,s3.trans s4,Kw,s4 _ _ ht (Gr.not ht (by intro ps z;cases z)),s4 _ _ jE (Gr.not jE (by intro ps z;cases z))⟩)
   rintro ys σ H3 ⟨_,rfl,s3,Gr,_,jE⟩
   (try dsimp only)
   refine⟨by show 0<=sizeLine;decide,fun E1 FM=>?_⟩;have sE:=aj (o:=.lst []) FM;refine⟨D,E1,_,[],rfl,rfl,aV.of (sE _ _ jE),aV.of af,fun i h1 h2=>absurd h2 (by simp),_,rfl,?_⟩;refine bR (fun e=>absurd e (by decide)) (fun _=>?_);have Z0:=sE _ _ (s3 _ _ hE (tb.not hE (by intro ps z;cases z)));have tbE:=jn Gr sE;have sE3:cg Pb H (upd H3 E1 (.lst [])):=(sc.trans s3).trans (cg.of sE);generalize upd H3 E1 (.lst [])=H4 at *;have hEI:H4 En=some (.lst ((IN es).map V.int)):=by
    have e:=vE (js:=es);unfold HV at e;rw[e];exact Z0
   refine⟨_,rfl,En,IN es,rfl,aV.of hEI,by rw[aG];lia,fun D S hD=>⟨D,_,_,rfl,af,?_,?_⟩⟩
   .rw[F5 nd];lia
   rw[F5 nd];have sD:=aj (o:=.set S es.length) hD;have FM:=sD _ _ Z0;have Kv:=jn tbE sD;generalize upd H4 D (.set S es.length)=H5 at *;refine⟨_,rfl,En,_,rfl,.inl (aV.of FM),rfl,_,rfl,?_⟩;refine bR (fun _=>?_) (fun e=>absurd (bB (by rw[aG])) e);have nin:DK (.int (i:Int)) (NV es)=false:=by
    rw[pJ];exact cH fun z=>(T9 i z).1 rfl
   refine⟨_,rfl,_,rfl,En,NV es,rfl,.inl (aV.of FM),rfl,rh,?_⟩;rw[ao rfl,nin];exact q H5 Kv (sE3.trans (cg.of sD))
end
open dU (cZ NT pI vy fw zr zp PO Zs cg lB)
abbrev z8:Stmt:=gG 57
section
variable {P:Program} {w:World} {K:PySem.W.Frag} {mg:Str->Option Value} {base:Heap}
def KR(K:PySem.W.Frag)(H:Hp)(a:Addr)(xs:List V):Prop:=(∃o,H a=some (.iR o (.lst xs)))\/(∀H':Hp,aV K H' a xs)
theorem KR.seq{H:Hp}{a:Addr}{xs:List V}(h:KR K H a xs):aV K H a xs:=by
 rcases h with ⟨o,h⟩|h
 .exact .inl (.inr ⟨o,h⟩)
 .exact h H
theorem KR.mono{H H':Hp}{a:Addr}{xs:List V}(h:KR K H a xs)(e:∀o u,H a=some (.iR o (.lst u))->H' a=some (.iR o (.lst u))):KR K H' a xs:=by
 rcases h with ⟨o,h⟩|h
 .exact .inl ⟨o,e _ _ h⟩
 .exact .inr h
def LD(H:Hp)(q:Addr):Prop:=(∃xs,H q=some (.lst xs))\/∃k,H q=some (.dK k)
theorem LD.ne{H:Hp}{q b:Addr}{o:HO}(h:LD H q)(e:H b=some o)(h1:∀xs,o≠.lst xs)(h2:∀k,o≠.dK k):b≠q:=by
 rintro rfl;rcases h with ⟨xs,z⟩|⟨k,z⟩
 .rw[e] at z;exact h1 _ (aY z)
 .rw[e] at z;exact h2 _ (aY z)
structure Kp(K:PySem.W.Frag)(Pt Pb a:Addr)(xs:List V)(H:Hp):Prop where
 s:KR K H a xs
 t:pI Pt H
 b:jC Pb H
theorem Kp.of{Pt Pb a:Addr}{xs:List V}{H H':Hp}(k:Kp K Pt Pb a xs H)(f:∀o u,H a=some (.iR o (.lst u))->H' a=some (.iR o (.lst u)))(up:∀b o,H b=some o->(b=Pt\/b=Pb\/∃p,o=.ext p)->H' b=some o):Kp K Pt Pb a xs H':=
 ⟨k.s.mono f,k.t.keep fun b o e z=>up b o e (z.elim .inl fun y=>.inr (.inr y)),k.b.keep fun b o e z=>up b o e (z.elim (fun y=>.inr (.inl y)) fun y=>.inr (.inr y))⟩
theorem Kp.nA{Pt Pb a:Addr}{xs:List V}{H:Hp}(k:Kp K Pt Pb a xs H){b:Addr}{o:HO}(e:H b=some o)(z:b=Pt\/b=Pb\/∃p,o=.ext p):(∀xs,o≠.lst xs)/\∀k,o≠.dK k:=by
 rcases z with rfl|rfl|⟨p,rfl⟩
 .rcases k.t with y|⟨c,y,_⟩ <;> (rw[e] at y;cases y;exact⟨fun _ z=>(by cases z),fun _ z=>(by cases z)⟩)
 .rcases k.b with y|⟨c,y,_⟩ <;> (rw[e] at y;cases y;exact⟨fun _ z=>(by cases z),fun _ z=>(by cases z)⟩)
 .exact⟨fun _ z=>(by cases z),fun _ z=>(by cases z)⟩
theorem Kp.dC{Pt Pb a q:Addr}{xs:List V}{H H':Hp}(k:Kp K Pt Pb a xs H)(s:aR q H H')(hq:LD H q):Kp K Pt Pb a xs H':=
 k.of (fun o u z=>s _ _ z (hq.ne z (by intro x y;cases y) (by intro x y;cases y))) fun b o e z=>s _ _ e (hq.ne e (k.nA e z).1 (k.nA e z).2)
theorem Kp.same{Pt Pb a:Addr}{xs:List V}{H H':Hp}(k:Kp K Pt Pb a xs H)(s:aM H H'):Kp K Pt Pb a xs H':=k.of (fun o u z=>s _ _ z) fun b o e _=>s _ _ e
theorem Kp.rD{Pt Pb a:Addr}{xs:List V}{H H':Hp}(k:Kp K Pt Pb a xs H)(OS:Pt≠Pb)(s:cg Pb H H')(t:jC Pb H'):Kp K Pt Pb a xs H':=by
 refine⟨k.s.mono fun o u z=>s _ _ z (k.b.not z (by intro ps z;cases z)),k.t.keep fun b o e z=>s _ _ e ?_,t⟩;rcases z with rfl|⟨p,rfl⟩
 .exact OS
 .exact k.b.not e (by intro ps z;cases z)
theorem aW.ld{H:Hp}{p:Addr}(h:aW H p):LD H p:=let ⟨a,b,e,_⟩:=h;.inl ⟨_,e⟩
theorem iQ:aI ["_law_script","_law_k","_law_pot_here","_law_outs","_law_fars_here","_law_homes","_law_stand","_law_stands","_law_log_here","_law_net","_law_i"] ["_law_script"] (am z8):=⟨rfl,rfl,rfl,by decide +kernel,rfl,by decide +kernel,by decide +kernel⟩
def Bo(K:PySem.W.Frag)(Pt Pb:Addr):Sp:=fun vs H Q _=>∃ (a:Addr) (ns:List Int),vs=[.ref a]/\KR K H a (ns.map V.int)/\ns.length<=63/\pI Pt H/\jC Pb H/\∀H',Q (.bl true) H'
theorem NJ{f C Pt Pb fI:Addr}{fd Z1:FuncData}(F:fX K "law" "law" z8 f fd)(OS:Pt≠Pb)(B:Bl mg)(T:NT K mg C)(PO':cp P w K mg base be 1 "_law_pot" ["_law_script","_law_k"] (EX K))(TK:cp P w K mg base be 1 "_law_take" ["_law_pot_here","_law_many"] ku)(RG:cp P w K mg base be 3 "_law_tree" ["_law_pot_here","_law_many"] zY)(GR:cp P w K mg base be 1 "_law_going_round" ["_law_outs"] ML)(FA:cp P w K mg base be 2 "_law_fars" ["_law_outs"] zV)(LE:cp P w K mg base be 2 "_law_letters" ["_law_pot_here","_law_outs","_law_most"] Fa)(LO:cp P w K mg base be 4 "_law_log" ["_law_pot_here","_law_outs","_law_fars_here","_law_homes","_law_stand"] z4)(CU:cp P w K mg base be 2 "_law_cut" ["_law_pot_here","_law_stands","_law_log_here"] Nn)(TI:cp P w K mg base be 1 "_law_ties" ["_law_outs"] vK)(M:Mk K C fI)(bI:j4 K Z1 ["self","many","ties"] [])(GI:bz P w K mg base be 7 fI Z1 ["self","many","ties"] (vy C Pt))(LR:cp P w K mg base be 12 "_law_letter_right" ["_law_net","_law_outs","_law_fars_here","_law_homes","_law_stands","_law_log_here","_law_i"] (NI C Pb)):
  bz P w K mg base be 13 f fd ["_law_script"] (Bo K Pt Pb):=by
 refine F.ok iQ (fun vs H Q E h=>?_) (fun dQ A outer s0 H vs Q E hr h=>?_)
 .obtain⟨a,ns,rfl,_⟩:=h;rfl
 .obtain⟨a,ns,rfl,hS,LV,tb,tbb,q⟩:=h;have h1:b_ 1 _:=hr.mono (by decide);have h2:b_ 2 _:=hr.mono (by decide);have h3:b_ 3 _:=hr.mono (by decide);have h8:b_ 8 _:=hr.mono (by decide);have h4:b_ 4 _:=hr.mono (by decide);refine⟨_,ah (dR eR rfl (dP rfl B.range (aa (au (sH rfl) (by rfl) B.max PyProof.Rows.boot_max (aa aq (aa (au (BG rfl) (by rfl) B.min PyProof.Rows.boot_min (aa (au aD (by rfl) B.len ce (aa (pv 0) ag)) (aa aq ag))) ag))) ag)) (aF (i:=1) iQ.nd rfl (Or.inl rfl))
    (ah (aL (i:=2) iQ.nd rfl (Or.inl rfl) (aE PO' h1 aQ (aa (pv 0) (aa (pv 1) ag))))
    (ah (aL (i:=3) iQ.nd rfl (Or.inl rfl) (aE GR h1 aQ (aa (aE RG h3 aQ (aa (pv 2) (aa (bC dF aq (aE TK h1 aQ (aa (pv 2) (aa aq ag)))) ag))) ag)))
    (ah (aL (i:=4) iQ.nd rfl (Or.inl rfl) (aE FA h2 aQ (aa (pv 3) ag)))
    (ah (i9 (aE LE h2 aQ (aa (pv 2) (aa (pv 3) (aa aq ag)))) (gL (n:=2) rfl (bu (aF (i:=5) iQ.nd rfl (Or.inl rfl)) (bu (aF (i:=6) iQ.nd rfl (Or.inl rfl)) ft))))
    (ah (i9 (aE LO h4 aQ (aa (pv 2) (aa (pv 3) (aa (pv 4) (aa (pv 5) (aa (pv 6) ag)))))) (gL (n:=2) rfl (bu (aF (i:=7) iQ.nd rfl (Or.inl rfl)) (bu (aF (i:=8) iQ.nd rfl (Or.inl rfl)) ft))))
    (ah (i9 (aE CU h2 aQ (aa (pv 2) (aa (pv 7) (aa (pv 8) ag)))) (gL (n:=2) rfl (bu (aF (i:=7) iQ.nd rfl (Or.inl rfl)) (bu (aF (i:=8) iQ.nd rfl (Or.inl rfl)) ft))))
    (ah (aL (i:=9) iQ.nd rfl (Or.inl rfl) (GX M GI h8 rfl T.mgC bI .nil aQ (aa (au tO (by rfl) B.len ce (aa (pv 3) ag)) (aa (aE TI h1 aQ (aa (pv 3) ag)) ag))))
    (al (dR eR rfl (dP rfl B.range (aa (au aD (by rfl) B.len ce (aa (pv 5) ag)) ag)) (aF (i:=10) iQ.nd rfl (Or.inl rfl))
     (al (bx (et (dE (aE LR hr aQ (aa (pv 9) (aa (pv 3) (aa (pv 4) (aa (pv 5) (aa (pv 7) (aa (pv 8) (aa (pv 10) ag)))))))))) dO aS))))))))))))
   (al (aH fW)),?_⟩
  refine⟨_,rfl,a,_,rfl,.inl hS.seq,_,_,rfl,_,_,rfl,_,rfl,?_,?_,?_⟩
  .split <;> split <;> lia
  .split <;> split <;> lia
  have W9:(if (if (3:Int)<(((ns.map V.int).length:Nat):Int) then 3 else (((ns.map V.int).length:Nat):Int)) > 1 then (if (3:Int)<(((ns.map V.int).length:Nat):Int) then 3 else (((ns.map V.int).length:Nat):Int)) else 1).toNat<=3:=by split <;> split <;> lia
  refine eE (lo:=0) (fun k σ Hc=>(∃v1 v2 v3 v4 v5 v6 v7 v8 v9 Gu,σ=[some (.ref a),v1,v2,v3,v4,v5,v6,v7,v8,v9,Gu])/\Kp K Pt Pb a (ns.map V.int) Hc) ⟨⟨_,_,_,_,_,_,_,_,_,_,rfl⟩,hS,tb,tbb⟩ ?_ ?_
  .rintro k σ Hc hk ⟨⟨v1,v2,v3,v4,v5,v6,v7,v8,v9,Gu,rfl⟩,kp⟩;have k3:k<3:=bV hk W9;rw[jS];refine⟨_,rfl,_,rfl,a,ns,k,rfl,kp.s.seq,by lia,fun p H1 sm1 YV CO=>?_⟩;have kp1:=kp.same sm1;refine⟨_,rfl,_,rfl,p,23,rfl,by decide,by decide,CO,fun d ya yb d0 d1 a0 b0 b1=>⟨_,_,rfl,rfl,?_⟩⟩;have NK:aW (upd H1 p (.lst [.int ya,.int yb])) p:=aW.upd a0 b0 b1;have W_:Kp K Pt Pb a (ns.map V.int) (upd H1 p (.lst [.int ya,.int yb])):=kp1.dC aR.upd CO.ld;generalize upd H1 p (.lst [.int ya,.int yb])=H1' at *;obtain⟨n,hn⟩:∃n:Nat,(n:Int)=2+d:=⟨(2+d).toNat,by lia⟩
   refine⟨p,n,by rw[hn];rfl,NK,by lia,by lia,fun O as g H2 NN tr0 Kz Gs=>?_⟩;have kp2:=W_.dC Kz NK.ld;obtain⟨G,n2,Ky,hO,hO1,aah,gC⟩:=NN;refine⟨O,as,n,g,rfl,G,gC,n2,Ky,hO,fun O' m6 g' H3 NN3 eg ON MS=>?_⟩;obtain⟨ks0,_,hd0⟩:=hO.dict;have kp3:=kp2.dC ON (.inr ⟨_,hd0⟩);obtain⟨G',_,_,Z2,aai,Xa,gC'⟩:=NN3;have npO:p≠O:=by rintro rfl;exact NK.some hO1
   have AW:aW H3 p:=by obtain⟨u,v,e,z⟩:=Gs;exact⟨u,v,ON _ _ e npO,z⟩
   have kB:OE m6 n p:=fun h hh z=>by
    have:=Xa h hh;rw[<-z] at this;exact Gs.some this
   have Fi:=IJ G' gC' n2 Ky;have Rn:sX n g':=by rw[eg];exact Nw G
   have RGx:Tr n g':=by rw[eg];exact tr0.round G
   refine⟨_,rfl,O',m6,n,g',rfl,Z2,Fi,fun r ds H4 FR4 Z3 Z4 Th=>?_⟩;obtain⟨ks1,_,QD⟩:=Z2.dict;have kp4:=kp3.dC Z4 (.inr ⟨_,QD⟩);have Xb:p≠O':=by rintro rfl;obtain⟨u,v,e,_⟩:=AW;rw[e] at QD;cases QD
   have OL:aW H4 p:=by obtain⟨u,v,e,z⟩:=AW;exact⟨u,v,Z4 _ _ e Xb,z⟩
   refine⟨_,rfl,_,rfl,p,O',m6,n,g',rfl,OL,Z3,kB,n2,Ky,fun t a4 b4 hs s H5 ht ha hb hl OG R BH Xd NL=>?_⟩;have kp5:=kp4.dC Xd OL.ld;have Z5:=Z3.dC Xd OL kB;have M3:=FR4.dC Xd OL;refine⟨t,_,rfl,cR.of ht,rfl,_,_,rfl,_,_,rfl,rfl,?_⟩;refine⟨_,rfl,_,rfl,_,rfl,_,rfl,_,rfl,p,O',r,a4,b4,m6,ds,n,g',hs,s,rfl,NL,kB,Z5,M3,G',ha,hb,hl.symm,by lia,R,BH,fun t5 Z6 Z7 Xe Xf L0 ss ls H6 ht5 LG0 LN0 L60 s6 T_ Xg Xh=>?_⟩;have kp6:=kp5.dC s6 NL.ld;have OF6:=Z5.dC s6 NL kB;have FR6:=M3.dC s6 NL;have nS0:Z6≠p:=by rintro rfl;exact NL.some Xg
   have nL0:Z7≠p:=by rintro rfl;exact NL.some Xh
   refine⟨t5,_,rfl,cR.of ht5,rfl,_,_,rfl,_,_,rfl,rfl,?_⟩;refine⟨_,rfl,_,rfl,_,rfl,p,Z6,Z7,Xe,Xf,s.length,L0,ss,ls,rfl,T_,LG0,nS0,nL0,L60,fun t6 SA LA bA bp L Ua TV LG hLL Q7 TU Jr aaj=>?_⟩;have LN:=LN0.cut hLL;have F6:=kp6.dC Jr T_.ld;have Js:=OF6.dC Jr T_ kB;have RE:=FR6.dC Jr T_;have RF:a4≠p:=by rintro rfl;obtain⟨u,v,e,_⟩:=NL;rw[e] at ha;cases ha
   have ha6:=Jr _ _ (s6 _ _ ha RF) RF;refine⟨t6,_,rfl,cR.of TV,rfl,_,_,rfl,_,_,rfl,rfl,?_⟩;obtain⟨oo,ks,OK,Z8⟩:=Js.dict;refine⟨_,rfl,O',_,rfl,⟨oo,Z8⟩,_,rfl,O',m6,n,g',rfl,Js,G',Ky,fun l zs H7 s7 hl7 hz7 Wn ez=>fun px dx nx ndx nex=>?_⟩;have kp7:=F6.same s7;have sN:aM H7 (upd (upd H7 dx (.own px)) px (.ins C dx [])):=(aj (o:=.own px) ndx).trans (aj (D:=px) (o:=.ins C dx []) (by rw[ai nex.symm];exact nx));have gpx:(upd (upd H7 dx (.own px)) px (.ins C dx [])) px=some (.ins C dx []):=af;have pxN:Ua px=none:=s7.free nx;generalize upd (upd H7 dx (.own px)) px (.ins C dx [])=HM at *;have Z9:=kp7.same sN;have sM:aM Ua HM:=s7.trans sN;have FiZ:eW n (zp zs):=dU.tY ez.symm Fi;have TM:fw HM l n zs:=⟨FiZ,sN _ _ hz7,fun z hz=>sN _ _ (Wn z hz)⟩
   refine⟨px,dx,n,l,zs,by rw[bW,OK.len];rfl,gpx,TM,Z9.t,fun H8 N8 t8 s8=>⟨rfl,?_⟩⟩;have N8':=N8.perm ez;have Z_:∀b o,Ua b=some o->b≠Pt->H8 b=some o:=fun b o e z=>s8 _ _ (sM _ _ e) (ak e pxN) z;have GB:∀b o,Ua b=some o->(∀ps,o≠.nA ps)->H8 b=some o:=fun b o e z=>Z_ b o e (F6.t.not e z);have Xi:jC Pb H8:=F6.b.keep fun b o e z=>Z_ b o e (by
    rcases z with rfl|⟨p,rfl⟩
    .exact OS.symm
    .exact F6.t.not e (by intro ps w;cases w))
   obtain⟨g1,g2,g3,g4,g5,g6⟩:=LG;have LG8:cS H8 SA LA bA bp hs.length L ss ls:=⟨GB _ _ g1 (by intro ps w;cases w),GB _ _ g2 (by intro ps w;cases w),g3.mono fun j _ e=>GB _ _ e (by intro ps w;cases w),g4.mono fun j _ e=>GB _ _ e (by intro ps w;cases w),fun b hb=>by rw[hl];exact g5 b hb,g6⟩
   have Xj:¬ (HM Pb=none):=by
    have:=Z9.b;intro z;rcases this with y|⟨_,y,_⟩ <;> (rw[z] at y;cases y)
   have X8:Ev C Pb (fun b=>HM b=none) px O' r a4 SA LA m6 ds bA bp n L g' hs [] ss ls H8:=by
    refine⟨N8',Xj,Rn,G',RGx,⟨⟨oo,ks,OK,GB _ _ Z8 (by intro ps w;cases w)⟩,Js.rows.mono fun j _ e=>GB _ _ e (by intro ps w;cases w),Js.inj⟩,⟨?_,fun j hj=>?_⟩,GB _ _ ha6 (by intro ps w;cases w),LG8,LN,by lia,by lia,Xi⟩
    .obtain⟨ks2,x,y⟩:=RE.dict;exact⟨ks2,x,GB _ _ y (by intro ps w;cases w)⟩
    .obtain⟨Rr,x,y⟩:=RE.rows j hj;exact⟨Rr,GB _ _ x (by intro ps w;cases w),y⟩
   have kp8:Kp K Pt Pb a (ns.map V.int) H8:=⟨F6.s.mono fun o u z=>GB _ _ z (by intro ps w;cases w),t8,Xi⟩
   refine⟨_,rfl,a4,_,rfl,.inr (cR.of X8.ha),(hs.length:Nat),by rw[aG],by lia,by lia,?_⟩;refine eE (n:=hs.length) (lo:=0) (fun i σ H9=>(∃v,σ=[some (.ref a),some (.int k),some (.ref p),some (.ref O'),some (.ref r),some (.ref a4),some (.ref b4),some (.ref SA),some (.ref LA),some (.ref px),v])/\cg Pb H8 H9/\jC Pb H9) ⟨⟨_,rfl⟩,cg.of (aM.refl _),Xi⟩ ?_ ?_
   .rintro i σ H9 hi ⟨⟨v,rfl⟩,s9,Xk⟩;rw[jS];exact⟨_,rfl,_,rfl,_,rfl,_,rfl,_,rfl,_,rfl,_,rfl,_,px,O',r,a4,SA,LA,m6,ds,bA,bp,n,L,g',hs,[],ss,ls,i,rfl,X8.keep s9 Xk,hi,fun ZE Xl s10=>⟨_,rfl,l5 ⟨⟨_,rfl⟩,s9.trans s10,Xl⟩⟩⟩
   .rintro σ H9 ⟨⟨v,rfl⟩,s9,Xk⟩;exact⟨⟨_,_,_,_,_,_,_,_,_,_,rfl⟩,kp8.rD OS s9 Xk⟩
  .rintro σ Hc _;exact q Hc
end
open PySem L2
open dU (NT mR)
def FD(K:PySem.W.Frag)(n:Str)(st:Stmt):Prop:=∃ (f:Addr) (oc:Value) (od an:Option Addr) (sl:Array (Option Value)) (kV dc pm cd ct:Value),PySem.W.nsIn K mainGlobals n=some (some (.ref f))/\K.lookup f=some ⟨oc,od,.func (PySem.W.fnOf n n (cY st) (bZ st) (am st) .none kV dc pm an cd ct),sl⟩/\PySem.W.codeIn K cd n=true/\PySem.W.keepIn K (.ref f)=true
def FC(K:PySem.W.Frag)(n:Str)(st:Stmt)(c:Addr):Prop:=∃ (f:Addr) (oc:Value) (od an:Option Addr) (sl:Array (Option Value)) (kV dc pm ct:Value),PySem.W.nsIn K mainGlobals n=some (some (.ref f))/\K.lookup f=some ⟨oc,od,.func (PySem.W.fnOf n n (cY st) (bZ st) (am st) .none kV dc pm an (.ref c) ct),sl⟩/\PySem.W.codeIn K (.ref c) n=true/\PySem.W.keepIn K (.ref f)=true
def MD(K:PySem.W.Frag)(C:Addr)(n q:Str)(st:Stmt):Prop:=∃ (f:Addr) (oc:Value) (od an:Option Addr) (sl:Array (Option Value)) (kV dc pm cd ct:Value),PySem.W.findIn K (.ref C) n=some (some (.ref f))/\PySem.W.isFn K (.ref f)=true/\K.lookup f=some ⟨oc,od,.func (PySem.W.fnOf n q (cY st) (bZ st) (am st) .none kV dc pm an cd ct),sl⟩/\PySem.W.codeIn K cd q=true/\PySem.W.keepIn K (.ref f)=true
def MC(K:PySem.W.Frag)(C:Addr)(n q:Str)(st:Stmt)(c:Addr):Prop:=∃ (f:Addr) (oc:Value) (od an:Option Addr) (sl:Array (Option Value)) (kV dc pm ct:Value),PySem.W.findIn K (.ref C) n=some (some (.ref f))/\PySem.W.isFn K (.ref f)=true/\K.lookup f=some ⟨oc,od,.func (PySem.W.fnOf n q (cY st) (bZ st) (am st) .none kV dc pm an (.ref c) ct),sl⟩/\PySem.W.codeIn K (.ref c) q=true/\PySem.W.keepIn K (.ref f)=true
section
variable {P:Program} {w:World} {K:PySem.W.Frag} {mg:Str->Option Value} {base h:Heap} {n q:Str} {st:Stmt} {f c C:Addr} {oc kV dc pm cd ct:Value} {od an:Option Addr} {sl:Array (Option Value)} {CX:wu} {k:Nat} {ps:List Str} {sp:Sp}
theorem FD.mk(a:PySem.W.nsIn K mainGlobals n=some (some (.ref f)))(l:K.lookup f=some ⟨oc,od,.func (PySem.W.fnOf n n (cY st) (bZ st) (am st) .none kV dc pm an cd ct),sl⟩)(d:PySem.W.codeIn K cd n=true)(k:PySem.W.keepIn K (.ref f)=true):FD K n st:=⟨f,oc,od,an,sl,kV,dc,pm,cd,ct,a,l,d,k⟩
theorem FC.mk(a:PySem.W.nsIn K mainGlobals n=some (some (.ref f)))(l:K.lookup f=some ⟨oc,od,.func (PySem.W.fnOf n n (cY st) (bZ st) (am st) .none kV dc pm an (.ref c) ct),sl⟩)(d:PySem.W.codeIn K (.ref c) n=true)(k:PySem.W.keepIn K (.ref f)=true):FC K n st c:=⟨f,oc,od,an,sl,kV,dc,pm,ct,a,l,d,k⟩
theorem MD.mk(a:PySem.W.findIn K (.ref C) n=some (some (.ref f)))(i:PySem.W.isFn K (.ref f)=true)(l:K.lookup f=some ⟨oc,od,.func (PySem.W.fnOf n q (cY st) (bZ st) (am st) .none kV dc pm an cd ct),sl⟩)(d:PySem.W.codeIn K cd q=true)(k:PySem.W.keepIn K (.ref f)=true):MD K C n q st:=⟨f,oc,od,an,sl,kV,dc,pm,cd,ct,a,i,l,d,k⟩
theorem MC.mk(a:PySem.W.findIn K (.ref C) n=some (some (.ref f)))(i:PySem.W.isFn K (.ref f)=true)(l:K.lookup f=some ⟨oc,od,.func (PySem.W.fnOf n q (cY st) (bZ st) (am st) .none kV dc pm an (.ref c) ct),sl⟩)(d:PySem.W.codeIn K (.ref c) q=true)(k:PySem.W.keepIn K (.ref f)=true):MC K C n q st c:=⟨f,oc,od,an,sl,kV,dc,pm,ct,a,i,l,d,k⟩
def BD(n q:Str)(st:Stmt)(ps:List Str):Prop:=∀ (kV mH pm:Value) (an:Option Addr) (dQ ct:Value) (us:List Value),us.length=ps.length->bindArgs (PySem.W.fnOf n q (cY st) (bZ st) (am st) .none kV mH pm an dQ ct) ⟨us,[]⟩=pure (ps.zip us)
theorem FD.g_(X:K.In h)(G:h.Ns mainGlobals mg)(D:FD K n st)(b:BD n n st ps)(o:∀ {f fd},fX K n n st f fd->bz P w K mg base CX k f fd ps sp):cp P w K mg base CX k n ps sp:=by
 obtain⟨f,_,_,_,_,_,_,_,_,_,a,l,d,kp⟩:=D;have F:=uY (x:=n) (qual:=n) (st:=st) l d kp;exact⟨⟨f,_,lQ X G a,kp,F.binds b,o F⟩⟩
theorem FC.g_(X:K.In h)(G:h.Ns mainGlobals mg)(D:FC K n st c)(b:BD n n st ps)(o:∀ {f fd},wS K n n st f fd c->bz P w K mg base CX k f fd ps sp):cp P w K mg base CX k n ps sp:=by
 obtain⟨f,_,_,_,_,_,_,_,_,a,l,d,kp⟩:=D;have F:=Ho (x:=n) (qual:=n) (st:=st) l d kp;exact⟨⟨f,_,lQ X G a,kp,F.fun.binds b,o F⟩⟩
theorem MD.g_(D:MD K C n q st)(b:BD n q st ps)(o:∀ {f fd},fX K n q st f fd->bz P w K mg base CX k f fd ps sp):mR P w K mg base CX k C n ps sp:=by
 obtain⟨f,_,_,_,_,_,_,_,_,_,a,i,l,d,kp⟩:=D;have F:=uY (x:=n) (qual:=q) (st:=st) l d kp;exact⟨⟨f,_,⟨a,i,kp⟩,F.binds b,o F⟩⟩
end
theorem rE{α:Type}{P:List α->Prop}(h:∀a0,P [a0])(l:List α)(e:l.length=1):P l:=by
 cases l with
 |nil=>cases e
 |cons a t=>cases t with
  |nil=>exact h a
  |cons b t=>cases e
theorem ip{α:Type}{P:List α->Prop}(h:∀a0 a1,P [a0,a1])(l:List α)(e:l.length=2):P l:=by
 cases l with
 |nil=>cases e
 |cons a t=>exact rE (P:=fun t=>P (a::t)) (h a) t (lR e)
theorem kI{α:Type}{P:List α->Prop}(h:∀a0 a1 a2,P [a0,a1,a2])(l:List α)(e:l.length=3):P l:=by
 cases l with
 |nil=>cases e
 |cons a t=>exact ip (P:=fun t=>P (a::t)) (h a) t (lR e)
theorem xJ{α:Type}{P:List α->Prop}(h:∀a0 a1 a2 a3,P [a0,a1,a2,a3])(l:List α)(e:l.length=4):P l:=by
 cases l with
 |nil=>cases e
 |cons a t=>exact kI (P:=fun t=>P (a::t)) (h a) t (lR e)
theorem rF{α:Type}{P:List α->Prop}(h:∀a0 a1 a2 a3 a4,P [a0,a1,a2,a3,a4])(l:List α)(e:l.length=5):P l:=by
 cases l with
 |nil=>cases e
 |cons a t=>exact xJ (P:=fun t=>P (a::t)) (h a) t (lR e)
theorem Bp{α:Type}{P:List α->Prop}(h:∀a0 a1 a2 a3 a4 a5,P [a0,a1,a2,a3,a4,a5])(l:List α)(e:l.length=6):P l:=by
 cases l with
 |nil=>cases e
 |cons a t=>exact rF (P:=fun t=>P (a::t)) (h a) t (lR e)
theorem Bq{α:Type}{P:List α->Prop}(h:∀a0 a1 a2 a3 a4 a5 a6,P [a0,a1,a2,a3,a4,a5,a6])(l:List α)(e:l.length=7):P l:=by
 cases l with
 |nil=>cases e
 |cons a t=>exact Bp (P:=fun t=>P (a::t)) (h a) t (lR e)
theorem RH{α:Type}{P:List α->Prop}(h:∀a0 a1 a2 a3 a4 a5 a6 a7,P [a0,a1,a2,a3,a4,a5,a6,a7])(l:List α)(e:l.length=8):P l:=by
 cases l with
 |nil=>cases e
 |cons a t=>exact Bq (P:=fun t=>P (a::t)) (h a) t (lR e)
theorem NM{l:PySem.W.OpenLaw}{w:World}{K:PySem.W.Frag}{h:Heap}{mg:Str->Option Value}{fa:Addr}(X:K.In h)(G:h.Ns mainGlobals mg)(hfa:mg "law"=some (.ref fa)){C cO Pt cB Pb:Addr}{pb sq pe:Tok}(aC:PySem.W.nsIn K mainGlobals "Net"=some (some (.ref C)))(Br:FD K "is_whole" dU.n8)(xK:FD K "is_whole_within" dU.kO)(Jt:FD K "is_house" dU.zG)(RI:FD K "is_row" dU.Mi)(RJ:FD K "are_unlike_houses" dU.Mn)(RK:FD K "is_tie" dU.Ml)(Ju:FD K "check_ties" dU.zJ)(RL:FD K "check_balance" dU.Mm)(NO:FC K "houses_out" dU.xj cO)(NP:FD K "distances_from" dU.EN)(Jv:FD K "check_reached" dU.zK)(F7:FD K "is_handed_on" vF)(NQ:FD K "is_sent_from" Fk)(Jw:FD K "is_chain" vG)(RM:FD K "is_straight" MV)(RN:FD K "taker" Nv)(RP:FD K "is_led" WR)(Xm:FD K "good_tie_taker" WS)(Xn:FD K "chain_along" WT)(Xo:FC K "blame" T4 cB)(RQ:FD K "_law_pot" MA)(NR:FD K "_law_take" EV)(NS:FD K "_law_shuffled" EW)(Xp:FD K "_law_tree" FJ)(Xq:FD K "_law_going_round" Tj)(Jx:FD K "_law_ties" vI)(NU:FD K "_law_far" xi)(Jy:FD K "_law_fars" Fu)(RS:FD K "_law_letters" Iy)(RT:FD K "_law_behind" MP)(RU:FD K "_law_is_led" MZ)(Xr:FD K "_law_goods" Wi)(Xs:FD K "_law_eager" Wo)(Xt:FD K "_law_taker" Wj)(Xu:FD K "_law_blame" WB)(Xv:FD K "_law_cut" WC)(Xw:FD K "_law_is_list" WD)(RV:FD K "_law_log" Nl)(Xx:FD K "_law_told_right" WY)(Xy:FD K "_law_letter_right" W5)(RW:FD K "law" z8)(NW:MD K C "__init__" "Net.__init__" dU.AS)(Jz:MD K C "check_house" "Net.check_house" dU.zI)(RX:MD K C "far" "Net.far" dU.xi)(NX:MD K C "good" "Net.good" dU.EH)(pg:PySem.W.plainGet K C Str.empty=true)(Xz:PySem.W.hasDictIn K C=true)(po:PySem.W.plainOver K C=true)(sa:PySem.W.findIn K (.ref C) "__setattr__"=some (some (.builtin "object.__setattr__")))(mk:PySem.W.makesIn K C=true)(kc:PySem.W.keepIn K (.ref C)=true)(nH:PySem.W.findIn K (.ref C) "house_count"=some none)(nT:PySem.W.findIn K (.ref C) "tie_list"=some none)(nO:PySem.W.findIn K (.ref C) "out_lists"=some none)(nD:PySem.W.findIn K (.ref C) "distances"=some none)(m4:PySem.W.nsIn K mainGlobals "isinstance"=some none)(KS:PySem.W.nsIn K mainGlobals "int"=some none)(F8:PySem.W.nsIn K mainGlobals "bool"=some none)(F9:PySem.W.nsIn K mainGlobals "list"=some none)(Bs:PySem.W.nsIn K mainGlobals "tuple"=some none)(NY:PySem.W.nsIn K mainGlobals "dict"=some none)(KU:PySem.W.nsIn K mainGlobals "len"=some none)(Bt:PySem.W.nsIn K mainGlobals "range"=some none)(xL:PySem.W.nsIn K mainGlobals "enumerate"=some none)(KW:PySem.W.nsIn K mainGlobals "all"=some none)(RY:PySem.W.nsIn K mainGlobals "abs"=some none)(KY:PySem.W.nsIn K mainGlobals "max"=some none)(KZ:PySem.W.nsIn K mainGlobals "min"=some none)(NZ:PySem.W.nsIn K mainGlobals "repr"=some none)(RZ:PySem.W.nsIn K mainGlobals "str"=some none)(R0:PySem.W.nsIn K mainGlobals "set"=some none)(F_:PySem.W.nsIn K mainGlobals "sorted"=some none)(R1:PySem.W.nsIn K mainGlobals "any"=some none)(vR:PySem.W.nsIn K mainGlobals "ValueError"=some none)(pf:PySem.W.nsIn K mainGlobals "FEWEST_HOUSES"=some (some (.int 2 pb)))(sr:PySem.W.nsIn K mainGlobals "MOST_HOUSES"=some (some (.int 32 sq)))(ph:PySem.W.nsIn K mainGlobals "MOST_TIES_OUT"=some (some (.int 8 pe)))(OS:Pt≠Pb)(N0:PySem.W.codeHdIn K cO Pt=true)(XA:PySem.W.codeHdIn K cB Pb=true):
  ∃fd:FuncData,(∀ (s:Shared) (v:Value),BindsTo s fd ⟨[v],[]⟩ [("_law_script",v)])/\∀base:Heap,K.In base->base.Ns mainGlobals mg->r9 mg base->bz l.prog w K mg base be 13 fa fd ["_law_script"] (Bo K Pt Pb):=by
 obtain⟨aaa,oc,od,an,sl,kV,dc,pm,cd,ct,R3,R4,R6,R7⟩:=RW;have e:=hfa.symm.trans (lQ X G R3);cases e;have R8:=uY (x:="law") (qual:="law") (st:=z8) R4 R6 R7;obtain⟨f_i,oci,odi,ani,ZI,kVi,dci,pmi,cdi,cti,a_i,i_i,l_i,d_i,k_i⟩:=NW;have xM:=uY (x:="__init__") (qual:="Net.__init__") (st:=dU.AS) l_i d_i k_i;have Ga:=xM.binds (ps:=["self","many","ties"]) fun _ _ _ _ _ _=>kI fun _ _ _=>rfl;have MK:Mk K C f_i:=⟨mk,a_i,i_i,kc⟩
 have B:Bl mg:=⟨cW X G m4,cW X G KS,cW X G F8,cW X G F9,cW X G Bs,cW X G NY,cW X G KU,cW X G Bt,cW X G xL,cW X G KW,cW X G RY,cW X G KY,cW X G KZ,cW X G NZ⟩
 have T:NT K mg C:=⟨⟨pg,Xz,po,sa⟩,nH,nT,nO,nD,lQ X G aC⟩
 have JA:dU.Bl mg:=⟨cW X G m4,cW X G KS,cW X G F8,cW X G Bs,cW X G F9,cW X G RZ,cW X G R0,cW X G KU,cW X G Bt,cW X G F_,cW X G R1,cW X G KY,cW X G KZ,cW X G vR,cW X G KW⟩
 refine⟨PySem.W.fnOf "law" "law" (cY z8) (bZ z8) (am z8) .none kV dc pm an cd ct,fun s v=>.of_eq rfl,fun base kb nb hb=>?_⟩;have JB:cp l.prog w K mg base be 1 "is_whole" ["thing"] (dU.jh K):=FD.g_ X G Br (fun _ _ _ _ _ _=>rE fun _=>rfl) fun vS=>dU.q_ vS JA;have xN:cp l.prog w K mg base be 2 "is_whole_within" ["thing","least","most"] (dU.gc K):=FD.g_ X G xK (fun _ _ _ _ _ _=>kI fun _ _ _=>rfl) fun rG=>dU.n9 rG JB;have Bu:cp l.prog w K mg base be 3 "is_house" ["many","thing"] (dU.pH K):=FD.g_ X G Jt (fun _ _ _ _ _ _=>ip fun _ _=>rfl) fun JC=>dU.ED JC xN;have R9:cp l.prog w K mg base be 1 "is_row" ["thing","length"] (dU.EE K):=FD.g_ X G RI (fun _ _ _ _ _ _=>ip fun _ _=>rfl) fun R_=>dU.Mj R_ JA;have Sa:cp l.prog w K mg base be 4 "are_unlike_houses" ["many","one","other"] dU.EI:=FD.g_ X G RJ (fun _ _ _ _ _ _=>kI fun _ _ _=>rfl) fun Sb=>dU.Mo Sb Bu;have Sc:cp l.prog w K mg base be 5 "is_tie" ["many","thing"] dU.EJ:=FD.g_ X G RK (fun _ _ _ _ _ _=>ip fun _ _=>rfl) fun Sd=>dU.Mp Sd R9 Sa;have JD:cp l.prog w K mg base be 6 "check_ties" ["many","ties"] dU.kR:=FD.g_ X G Ju (fun _ _ _ _ _ _=>ip fun _ _=>rfl) fun JE=>dU.EL JE JA ⟨_,lQ X G pf⟩ ⟨_,lQ X G sr⟩ xN Sc;have Se:cp l.prog w K mg base be 1 "check_balance" ["many","ties"] dU.kR:=FD.g_ X G RL (fun _ _ _ _ _ _=>ip fun _ _=>rfl) fun Sf=>dU.Mq Sf JA ⟨_,lQ X G ph⟩;have N2:cp l.prog w K mg base be 1 "houses_out" ["many","ties","house"] (dU.vv Pt):=FC.g_ X G NO (fun _ _ _ _ _ _=>kI fun _ _ _=>rfl) fun N3=>dU.Ij N3 JA kb hb N0;have N4:cp l.prog w K mg base be 1 "distances_from" ["out_lists","start"] dU.vw:=FD.g_ X G NP (fun _ _ _ _ _ _=>ip fun _ _=>rfl) fun N7=>dU.Ik N7 JA;have JF:cp l.prog w K mg base be 1 "check_reached" ["distances"] dU.vx:=FD.g_ X G Jv (fun _ _ _ _ _ _=>rE fun _=>rfl) fun JG=>dU.ET JG JA;have N_:bz l.prog w K mg base be 7 f_i _ ["self","many","ties"] (dU.vy C Pt):=dU.Io xM T JA JD Se N2 N4 JF;have JH:mR l.prog w K mg base be 4 C "check_house" ["self","thing"] (dU.rd C):=MD.g_ Jz (fun _ _ _ _ _ _=>ip fun _ _=>rfl) fun CY=>dU.Cw CY T Bu;have Gb:mR l.prog w K mg base be 5 C "far" ["self","one","other"] (dU.oa C):=MD.g_ RX (fun _ _ _ _ _ _=>kI fun _ _ _=>rfl) fun JI=>dU.Ic JI T JH;have Oa:mR l.prog w K mg base be 6 C "good" ["self","house","home"] (dU.pP C):=MD.g_ NX (fun _ _ _ _ _ _=>kI fun _ _ _=>rfl) fun Gc=>dU.FV Gc T Gb;have Ge:cp l.prog w K mg base be 1 "is_whole" ["thing"] jh:=FD.g_ X G Br (fun _ _ _ _ _ _=>rE fun _=>rfl) fun vS=>q_ vS B;have CZ:cp l.prog w K mg base be 2 "is_whole_within" ["thing","least","most"] gc:=FD.g_ X G xK (fun _ _ _ _ _ _=>kI fun _ _ _=>rfl) fun rG=>n9 rG Ge;have rH:cp l.prog w K mg base be 3 "is_handed_on" ["stands","log","letter","beat"] kC:=FD.g_ X G F7 (fun _ _ _ _ _ _=>xJ fun _ _ _ _=>rfl) fun Gf=>CL Gf B CZ;have Ob:cp l.prog w K mg base be 4 "is_sent_from" ["stands","log","letter","beat","house"] zS:=FD.g_ X G NQ (fun _ _ _ _ _ _=>rF fun _ _ _ _ _=>rfl) fun Oc=>IH Oc rH;have Bv:cp l.prog w K mg base be 5 "is_chain" ["homes","stands","log","letter","beat","thing"] pM:=FD.g_ X G Jw (fun _ _ _ _ _ _=>Bp fun _ _ _ _ _ _=>rfl) fun JJ=>Fn JJ B rH Ob;have Sg:cp l.prog w K mg base be 6 "is_straight" ["net","homes","stands","log","letter","beat","chain"] (FB C):=FD.g_ X G RM (fun _ _ _ _ _ _=>Bq fun _ _ _ _ _ _ _=>rfl) fun Sh=>MW Sh B T Bv Gb;have Si:cp l.prog w K mg base be 1 "taker" ["stand","handing","house","goes"] FY:=FD.g_ X G RN (fun _ _ _ _ _ _=>xJ fun _ _ _ _=>rfl) fun Sj=>Nx Sj B;have Sk:cp l.prog w K mg base be 6 "is_led" ["net","homes","stand","handing","letter"] (FZ C):=FD.g_ X G RP (fun _ _ _ _ _ _=>rF fun _ _ _ _ _=>rfl) fun Sl=>Nz Sl T Gb;have XB:cp l.prog w K mg base be 7 "good_tie_taker" ["net","homes","stand","handing","letter"] (Jl C):=FD.g_ X G Xm (fun _ _ _ _ _ _=>rF fun _ _ _ _ _=>rfl) fun XC=>Rl XC T Sk Si Oa;have XD:cp l.prog w K mg base be 9 "chain_along" ["homes","stands","log","letter","beat","instead_of"] (NC C):=FD.g_ X G Xn (fun _ _ _ _ _ _=>Bp fun _ _ _ _ _ _=>rfl) fun XE=>Rp XE B rH XB;have Sm:cp l.prog w K mg base be 10 "blame" ["net","homes","stands","log","letter","beat"] (F2 C Pb):=FC.g_ X G Xo (fun _ _ _ _ _ _=>Bp fun _ _ _ _ _ _=>rfl) fun XF=>Rq XF kb hb XA XD;have Sn:cp l.prog w K mg base be 1 "_law_pot" ["_law_script","_law_k"] (EX K):=FD.g_ X G RQ (fun _ _ _ _ _ _=>ip fun _ _=>rfl) fun Sq=>MB Sq B;have oy:cp l.prog w K mg base be 1 "_law_take" ["_law_pot_here","_law_many"] ku:=FD.g_ X G NR (fun _ _ _ _ _ _=>ip fun _ _=>rfl) fun Od=>Ip Od;have Gg:cp l.prog w K mg base be 2 "_law_shuffled" ["_law_pot_here","_law_some"] (vz K):=FD.g_ X G NS (fun _ _ _ _ _ _=>ip fun _ _=>rfl) fun Oe=>Iq Oe B oy;have XG:cp l.prog w K mg base be 3 "_law_tree" ["_law_pot_here","_law_many"] zY:=FD.g_ X G Xp (fun _ _ _ _ _ _=>ip fun _ _=>rfl) fun XH=>I0 XH B oy Gg;have XI:cp l.prog w K mg base be 1 "_law_going_round" ["_law_outs"] ML:=FD.g_ X G Xq (fun _ _ _ _ _ _=>rE fun _=>rfl) fun XJ=>QC XJ B;have JK:cp l.prog w K mg base be 1 "_law_ties" ["_law_outs"] vK:=FD.g_ X G Jx (fun _ _ _ _ _ _=>rE fun _=>rfl) fun JL=>Fy JL;have Of:cp l.prog w K mg base be 1 "_law_far" ["_law_outs","_law_home"] Ba:=FD.g_ X G NU (fun _ _ _ _ _ _=>ip fun _ _=>rfl) fun Og=>MT Og B;have JM:cp l.prog w K mg base be 2 "_law_fars" ["_law_outs"] zV:=FD.g_ X G Jy (fun _ _ _ _ _ _=>rE fun _=>rfl) fun JN=>IU JN B Of;have Sr:cp l.prog w K mg base be 2 "_law_letters" ["_law_pot_here","_law_outs","_law_most"] Fa:=FD.g_ X G RS (fun _ _ _ _ _ _=>kI fun _ _ _=>rfl) fun Ss=>MN Ss B oy;have Su:cp l.prog w K mg base be 1 "_law_behind" ["_law_homes","_law_stand","_law_gone"] Fd:=FD.g_ X G RT (fun _ _ _ _ _ _=>kI fun _ _ _=>rfl) fun Sv=>MQ Sv B;have Sw:cp l.prog w K mg base be 1 "_law_is_led" ["_law_fars_here","_law_homes","_law_stand","_law_gone","_law_i"] FI:=FD.g_ X G RU (fun _ _ _ _ _ _=>rF fun _ _ _ _ _=>rfl) fun Sx=>M0 Sx;have Sy:cp l.prog w K mg base be 1 "_law_goods" ["_law_outs","_law_fars_here","_law_home","_law_house"] IZ:=FD.g_ X G Xr (fun _ _ _ _ _ _=>xJ fun _ _ _ _=>rfl) fun XM=>QR XM;have XN:cp l.prog w K mg base be 3 "_law_eager" ["_law_pot_here","_law_outs","_law_fars_here","_law_homes","_law_stand"] M8:=FD.g_ X G Xs (fun _ _ _ _ _ _=>rF fun _ _ _ _ _=>rfl) fun XO=>QX XO B oy Gg Sy;have XQ:cp l.prog w K mg base be 1 "_law_taker" ["_law_stand","_law_gone","_law_i","_law_house"] M5:=FD.g_ X G Xt (fun _ _ _ _ _ _=>xJ fun _ _ _ _=>rfl) fun XR=>QS XR B;have Sz:cp l.prog w K mg base be 2 "_law_blame" ["_law_outs","_law_fars_here","_law_homes","_law_stands","_law_log_here","_law_i","_law_beat"] Jg:=FD.g_ X G Xu (fun _ _ _ _ _ _=>Bq fun _ _ _ _ _ _ _=>rfl) fun XS=>Rf XS B Sw XQ Sy;have XT:cp l.prog w K mg base be 2 "_law_cut" ["_law_pot_here","_law_stands","_law_log_here"] Nn:=FD.g_ X G Xv (fun _ _ _ _ _ _=>kI fun _ _ _=>rfl) fun XU=>Q6 XU B oy;have XV:cp l.prog w K mg base be 1 "_law_is_list" ["_law_found","_law_due"] No:=FD.g_ X G Xw (fun _ _ _ _ _ _=>ip fun _ _=>rfl) fun XW=>Q8 XW B;have SB:cp l.prog w K mg base be 4 "_law_log" ["_law_pot_here","_law_outs","_law_fars_here","_law_homes","_law_stand"] z4:=FD.g_ X G RV (fun _ _ _ _ _ _=>rF fun _ _ _ _ _=>rfl) fun SC=>Np SC B XN Su;have XX:cp l.prog w K mg base be 11 "_law_told_right" ["_law_net","_law_outs","_law_fars_here","_law_homes","_law_stands","_law_log_here","_law_i","_law_beat"] (NG C Pb):=FD.g_ X G Xx (fun _ _ _ _ _ _=>RH fun _ _ _ _ _ _ _ _=>rfl) fun XY=>Rt XY B Sz Sm XV Bv Sg;have XZ:cp l.prog w K mg base be 12 "_law_letter_right" ["_law_net","_law_outs","_law_fars_here","_law_homes","_law_stands","_law_log_here","_law_i"] (NI C Pb):=FD.g_ X G Xy (fun _ _ _ _ _ _=>Bq fun _ _ _ _ _ _ _=>rfl) fun X0=>RB X0 B JA.set XX Sz Sm;exact NJ R8 OS B T Sn oy XG XI JM Sr SB XT JK MK Ga N_ XZ
theorem K0(h:((List.range 2000).any fun c=>PySem.W.codeHdIn K c P)=true):∃c,PySem.W.codeHdIn K c P=true:=
 let ⟨c,_,e⟩:=List.any_eq_true.mp h;⟨c,e⟩
theorem Oh(hO:Az ts H)(h:aV K H a xs):KR K H a xs:=by
 rcases h with h|h
 .rcases h with h|⟨o,h⟩
  .rcases hO.2 a with z|⟨_,z⟩|⟨o,ys,z⟩ <;> · rw[h] at z;cases z
  .exact .inl ⟨o,h⟩
 .exact .inr fun H'=>.inr h
theorem walk{l:PySem.W.OpenLaw}{q:Program}{sU:List Str}{XP:(Str->Option Value)->Heap->Prop}{YP:World->Heap->Prop}{d:DefRec}{K:Params->PySem.W.Frag}{Pb Pt:Addr}(hn:l.most=some 63)(Ps:d.params.defaults=[])(hY:∀ (w:World) (h:Heap),YP w h->(K w.params).In h)(hT:∀ (w:World) (h:Heap),YP w h->∀P∈[Pb,Pt],h.get? P=some (PySem.W.tabObj #[]))(X7:∀ (w:World),((List.range 2000).any fun c=>PySem.W.codeHdIn (K w.params) c Pb)=true)(X9:∀ (w:World),(K w.params).lookup Pb=none)(X_:∀ (w:World),((List.range 2000).any fun c=>PySem.W.codeHdIn (K w.params) c Pt)=true)(Ya:∀ (w:World),(K w.params).lookup Pt=none)(F:∀ (w:World) (mg:Str->Option Value) (fa:Addr) (h:Heap),(K w.params).In h->h.Ns mainGlobals mg->mg d.name=some (.ref fa)->
   ∃fd:FuncData,(∀ (s:Shared) (u:Value),BindsTo s fd ⟨[u],[]⟩ [("_law_script",u)])/\∀base:Heap,(K w.params).In base->base.Ns mainGlobals mg->r9 mg base->bz l.prog w (K w.params) mg base be 13 fa fd ["_law_script"] (Bo (K w.params) Pt Pb)):
  PySem.W.WalkO q sU XP YP l.row.toRowW d [] (fun f vs=>PySem.call f vs):=
 Eb (n:=63) (k:=13) (x:="_law_script") (ts:=[Pb,Pt]) (K:=K) (CX:=fun _=>be) (sp:=fun w=>(Bo (K w.params) Pt Pb)) hn (by decide) Ps ⟨rfl,by decide,by decide,rfl⟩ hY hT
  (fun w P=>fun e=>(bP.mp e).elim (fun e=>by rw[e];exact K0 (X7 w)) (fun e=>by rw[bK.mp e];exact K0 (X_ w))) (fun w P=>fun e=>(bP.mp e).elim (fun e=>by rw[e];exact X9 w) (fun e=>by rw[bK.mp e];exact Ya w)) F
  (fun w H a ns hl hO hS=>⟨a,ns,rfl,Oh hO hS,hl,.inl (hO.1 _ (by simp)),.inl (hO.1 _ (by simp)),fun _=>rfl⟩) fun _ _ _ _ _ z=>z
end xk
open PySem PySem.W PyProof.Rows
namespace PySem.W.Fast
def tw7947592280315537869:=trivial
def tw18088007460741746197:=trivial
def tw17134384862829079093:=trivial
def tw6066426984982368963:=trivial
def tw5767905526502761948:=trivial
def tw12629664962156085850:=trivial
def tw4116029396225590177:=trivial
def tw13319089398329774863:=trivial
def tw16964530588777422245:=trivial
def tw13538261904585307646:=trivial
def tw7247737981204456668:=trivial
def tw12122394819513371979:=trivial
def tw16386700071442566784:=trivial
def tw4961221758355878419:=trivial
def tw1518212852679018110:=trivial
def tw16509241307878747367:=trivial
def tw12687546465843003153:=trivial
def tw9504859865105262783:=trivial
def tw10439361630323619489:=trivial
def tw11163244564310276107:=trivial
def tw12630751400387795874:=trivial
def tw15153825324152277935:=trivial
def tw7343418215292381695:=trivial
def tw9133384812496811827:=trivial
def tw8253468376611774098:=trivial
def tw4029566743948611752:=trivial
def tw10289435246875326819:=trivial
def tw15509604309906567691:=trivial
def tw11043335359564755652:=trivial
def tw12709988566911010102:=trivial
def tw15582699152210920149:=trivial
def tw5275527514332657441:=trivial
def tw4706411800745286392:=trivial
def tw4880408959649037272:=trivial
def tw13808197365411905509:=trivial
def tw16207184067751566810:=trivial
def tw13603958485043553847:=trivial
def tw12601786764878366450:=trivial
def tw8522315842638900575:=trivial
def tw3695692919150490853:=trivial
def tw647805372507385619:=trivial
def tw3239734183228930484:=trivial
def tw5514418597340265282:=trivial
def tw9700269812485059062:=trivial
def tw12199653473795196350:=trivial
def tw9114566669946101611:=trivial
def tw13277355510890886916:=trivial
def tw2022187648143713376:=trivial
def tw8135185853693764828:=trivial
def tw1515734116506952291:=trivial
def tw1169094744103009397:=trivial
def tw1411065856935558270:=trivial
def tw2610518484266236873:=trivial
def tw6253964168318349056:=trivial
def tw13899709942501962661:=trivial
def tw15886351989039639444:=trivial
def tw14604538381517578182:=trivial
def tw2143654931197640075:=trivial
def tw3233049821341499116:=trivial
def tw6358112411856814025:=trivial
def tw7141068448051761658:=trivial
def tw5937247241113977124:=trivial
def tw17593896228886978843:=trivial
def tw5215166910559741564:=trivial
def tw7840025363955693276:=trivial
def tw12710699403174909916:=trivial
def tw3453330841078984691:=trivial
def tw12541850870450576696:=trivial
def tw7870463369621935960:=trivial
def tw876298607834107110:=trivial
def tw17654579946848273999:=trivial
def tw8753088589129401668:=trivial
def tw17711914598646075630:=trivial
def tw5934432835416522865:=trivial
def tw6703980357106065563:=trivial
def tw2716119240954023392:=trivial
def tw2027569483144485920:=trivial
def tw1919983544747040494:=trivial
def tw6414813456907336606:=trivial
def tw17893542674262729170:=trivial
def tw2489608390566946278:=trivial
def tw9452509163048218926:=trivial
def tw4088716323750138092:=trivial
def tw2551468486494540026:=trivial
def tw2309571520978665224:=trivial
def tw1784359732153192989:=trivial
def tw18150640902962527453:=trivial
def tw1747442912829855708:=trivial
def tw16256209522861300249:=trivial
def tw3213809844379216960:=trivial
def tw15307725661577568607:=trivial
def tw15418101061496794476:=trivial
def tw12385551318484548253:=trivial
def tw13625285191043216037:=trivial
def tw2404519480897464823:=trivial
def tw11095464039715525484:=trivial
def tw15131780575514005708:=trivial
def tw7174208853730008079:=trivial
def tw5096435321038958291:=trivial
def tw10041909074437111805:=trivial
def tw8584694222775157952:=trivial
def tw7120696302893452425:=trivial
def tw14559350629287955112:=trivial
def tw11360496580920691047:=trivial
def tw1467247002269523966:=trivial
def tw15748036602579850179:=trivial
def tw12999585603488579912:=trivial
def tw5645424963466379039:=trivial
def tw7074856791314007706:=trivial
def tw17205058634786661907:=trivial
def tw10055389553169797413:=trivial
def tw9672920746954684560:=trivial
def tw1524733657274489152:=trivial
def tw1134129210651397270:=trivial
def tw8410288877041487257:=trivial
def tw4613614911394418096:=trivial
def tw11574952996962401623:=trivial
def tw11729658558684023329:=trivial
def tw14393344224656255899:=trivial
def tw2481880816256496001:=trivial
def tw12667752318713753394:=trivial
def tw4004035956100404546:=trivial
def tw10535096261685197751:=trivial
def tw12316316929748056681:=trivial
def tw218721968436279053:=trivial
def tw13437470041243344444:=trivial
def tw4101877079191129867:=trivial
def tw6821875305878097017:=trivial
def tw15013096120080318040:=trivial
def tw14225934495592719963:=trivial
def tw17423036474120364114:=trivial
def tw3490642771998032188:=trivial
def tw15723669250450689203:=trivial
def tw3580579678437232786:=trivial
def tw13685780559977167735:=trivial
def tw2392135550370870345:=trivial
def tw14011434026649266341:=trivial
def tw16397855082992025771:=trivial
def tw14757039254600308968:=trivial
def tw10672519270392055017:=trivial
def tw16635389433183923033:=trivial
def tw15336274029564449376:=trivial
def tw8141647624748942973:=trivial
def tw17364792835582458517:=trivial
def tw3073347726046658714:=trivial
def tw5177386150578453037:=trivial
def tw13087668801218233028:=trivial
def tw15861023385483006866:=trivial
def tw16121771860683434347:=trivial
def tw7121663835825768110:=trivial
def tw5173617862530020490:=trivial
def tw13607625642652790313:=trivial
def tw16929289795567358755:=trivial
def tw13626174885132712665:=trivial
def tw4251593149261109971:=trivial
def tw8212096045739251005:=trivial
def tw6506245092068008595:=trivial
def tw9495531206351680578:=trivial
def tw17111972606240709954:=trivial
def tw18268419685814435658:=trivial
def tw14977091305191226574:=trivial
def tw16242769673563391198:=trivial
def tw10907973427266985459:=trivial
def tw17320399792368839296:=trivial
def tw14465188556386302600:=trivial
def tw3561769401483908658:=trivial
def tw10704945742852349408:=trivial
def tw14363048939530580730:=trivial
def tw6026927024767877612:=trivial
def tw10727019324502904749:=trivial
def tw12352435358718073702:=trivial
def tw18339158227211560944:=trivial
def tw14710261337950382485:=trivial
def tw14652177154971049732:=trivial
def tw2241334041080348485:=trivial
def tw15946952083567534768:=trivial
def tw5244757863288548193:=trivial
def tw5055679104938635612:=trivial
def tw12188085714912962598:=trivial
def tw3507264260850551960:=trivial
def tw16002441174417880723:=trivial
def tw18338712538023538742:=trivial
def tw17738621609134350267:=trivial
def tw7162865271871166529:=trivial
def tw4845246244413673273:=trivial
def tw9029450684760082431:=trivial
def tw15033637189523531070:=trivial
def tw7393665240397448904:=trivial
def tw13979036556843211438:=trivial
def tw6631094543295095968:=trivial
def tw6321155745574632842:=trivial
def tw12255082991706778506:=trivial
def tw4493207681693496874:=trivial
def tw14960974522149359882:=trivial
def tw2584833612540366882:=trivial
def tw203686123375086364:=trivial
def tw7130820354402779222:=trivial
def tw18151124685335495596:=trivial
def tw15449785591837253036:=trivial
def tw238302313950804906:=trivial
def tw12814925131220970497:=trivial
def tw14312188294355248165:=trivial
def tw14706016439065280965:=trivial
def tw4073092741104666684:=trivial
def tw2268604337002125587:=trivial
def tw9024966924249652515:=trivial
def tw6476490755122701151:=trivial
def tw1325878542398001768:=trivial
def tw13742459319881702758:=trivial
def tw11369079982330781739:=trivial
def tw13493442634588120129:=trivial
def tw16625575788926942348:=trivial
def tw11102406505772901113:=trivial
def tw5024988757665810799:=trivial
def tw10898962699445299599:=trivial
def tw2179211664157909442:=trivial
def tw823357519917507685:=trivial
def tw346540120684668394:=trivial
def tw14783843221891721868:=trivial
def tw7308673491537418946:=trivial
def tw6955796770518098065:=trivial
def tw3848016944809550946:=trivial
def tw3068799551802800402:=trivial
def tw11253187923050564614:=trivial
def tw11228340075135575605:=trivial
def tw5623462825900224019:=trivial
def tw2802774917419102417:=trivial
def tw1117198383382288329:=trivial
def tw12299176449977959683:=trivial
def tw12492948359383668499:=trivial
def tw2085710408888421681:=trivial
def tw109481271059533439:=trivial
def tw11273674708998233727:=trivial
def tw15405650215248697841:=trivial
def tw5168666767934652456:=trivial
def tw2786550497471610481:=trivial
def tw11347340000553789366:=trivial
def tw217560589723897198:=trivial
def tw17823522201453911653:=trivial
def tw11012974368656977428:=trivial
def tw16116278039003587757:=trivial
def tw9238410168018673146:=trivial
def tw12980210832713524266:=trivial
def tw7626658929841696260:=trivial
def tw12606071560970801319:=trivial
def tw4191453465243488255:=trivial
def tw11995237149156538989:=trivial
def tw14003868465509541107:=trivial
def tw1908111507179283842:=trivial
def tw6904584855434987071:=trivial
def tw5502104526623003025:=trivial
def tw1672380616868661400:=trivial
def tw3062530758013931755:=trivial
def tw4724012999142688502:=trivial
def tw3918957130828112478:=trivial
def tw10389262009726043551:=trivial
def tw6824724761463506384:=trivial
def tw6162111190689942003:=trivial
def tw3580301832273791845:=trivial
def tw4823349853862419455:=trivial
def tw2204570749326020622:=trivial
def tw604384144305507787:=trivial
def tw8400871903688163266:=trivial
def tw17467757115294006311:=trivial
def tw8372277113102661261:=trivial
def tw15058226125020259016:=trivial
def tw11710955911354323097:=trivial
def tw769105429466330139:=trivial
def tw10185206190728206793:=trivial
def tw4472464896299015665:=trivial
def tw1959453881096996962:=trivial
def tw10289159681098344946:=trivial
def tw1862636596559399246:=trivial
def tw2946061166353644159:=trivial
def tw7768444190979714297:=trivial
def tw9566433828164007518:=trivial
def tw2076064260886208771:=trivial
def tw7922823292902136948:=trivial
def tw1672756170735971507:=trivial
def tw11898260443706584209:=trivial
def tw8869283835965624292:=trivial
def tw8890540580976911223:=trivial
def tw783768512775962625:=trivial
def tw16156824739849126672:=trivial
def tw7783701589497700923:=trivial
def tw16462229681550620331:=trivial
def tw14478323542080427343:=trivial
def tw1349492804313443255:=trivial
def tw17866707786605830630:=trivial
def tw5933279720068453388:=trivial
def tw6693938459659673791:=trivial
def tw3210764888228880235:=trivial
def tw14885546517561497741:=trivial
def tw5512852850327469604:=trivial
def tw2546653280826382295:=trivial
def tw2312686440977421462:=trivial
def tw18201309841356509818:=trivial
def tw16146485263503563725:=trivial
def tw9933185447413556118:=trivial
def tw17021453545608138402:=trivial
def tw17663897745219822941:=trivial
def tw2758871168593661749:=trivial
def tw193532624377178810:=trivial
def tw13603749652932785388:=trivial
def tw12662893569385743472:=trivial
def tw9785875089992783186:=trivial
def tw7274449367659858779:=trivial
def tw6465899828840104424:=trivial
def tw17007985655721260854:=trivial
def tw12488261377711038030:=trivial
def tw9642120988362995528:=trivial
def tw8865693665285213866:=trivial
def tw15564894328409534866:=trivial
def tw3638587797644825447:=trivial
def tw13520636094721227457:=trivial
def tw7963167956244395339:=trivial
def tw5699441383527975053:=trivial
def tw1849095897148996956:=trivial
def tw16925638548622000070:=trivial
def tw2351412066265716211:=trivial
def tw1385161379637758203:=trivial
def tw16923545000150966392:=trivial
def tw12473225416009392787:=trivial
def tw12169338945392428811:=trivial
def tw9757746657817149014:=trivial
def tw9770384268640759733:=trivial
def tw11373946919922904892:=trivial
def tw16855976241053926026:=trivial
def tw6229441610982442789:=trivial
def tw10824891690441206372:=trivial
def tw8469040101931334414:=trivial
def tw1593978063550040768:=trivial
def tw1716507457066916112:=trivial
def tw6897635307596949281:=trivial
def tw16267408723392245728:=trivial
def tw8261523612389442240:=trivial
def tw12540706890538179155:=trivial
def tw4729598561072308450:=trivial
def tw8937574528182130878:=trivial
def tw10531086545504843326:=trivial
def tw1366852155489743530:=trivial
def tw10661282062975402222:=trivial
def tw12602821575809286572:=trivial
def tw9467675937837213511:=trivial
def tw2694293531211212083:=trivial
def tw14474663973859484163:=trivial
def tw5822979113720720661:=trivial
def tw4028849566993545993:=trivial
def tw15179342380340459654:=trivial
def tw4088820286529226994:=trivial
def tw12648342524684461498:=trivial
def tw8777446204884873754:=trivial
def tw8750806813522273822:=trivial
def tw3044851653759740670:=trivial
def tw11544174246939378901:=trivial
def tw3977061909589506570:=trivial
end PySem.W.Fast
set_option maxRecDepth 100000 in
set_option maxHeartbeats 0 in
theorem PySem.Challenge.cw_neverwait_k63_whole_trees_by_eager_handi_holds : PySem.Challenge.rw_neverwait_k63_whole_trees_by_eager_handi.Holds := by
 w_on; o_law; k_head; (case hw=>w_witness2)
 k_fill
 refine xk.walk (l:=PySem.Challenge.rw_neverwait_k63_whole_trees_by_eager_handi) (Pb:=_) (Pt:=_) rfl rfl (fun w h Y=>PySem.W.km_in_of Y) (fun w h Y=>PySem.W.km_tabs_of Y) ?cd0 ?kt0 ?cd1 ?kt1 ?F;case F =>
  intro w mg fa h KX G Pu;refine' xk.NM (Pb:=_) (Pt:=_) KX G Pu ?_ ?_ ?_ ?_ ?_ ?_ ?_ ?_ ?_ ?_ ?_ ?_ ?_ ?_ ?_ ?_ ?_ ?_ ?_ ?_ ?_ ?_ ?_ ?_ ?_ ?_ ?_ ?_ ?_ ?_ ?_ ?_ ?_ ?_ ?_ ?_ ?_ ?_ ?_ ?_ ?_ ?_ ?_ ?_ ?_ ?_ ?_ ?_ ?_ ?_ ?_ ?_ ?_ ?_ ?_ ?_ ?_ ?_ ?_ ?_ ?_ ?_ ?_ ?_ ?_ ?_ ?_ ?_ ?_ ?_ ?_ ?_ ?_ ?_ ?_ ?_ ?_ ?_ ?_ ?_ ?_;all_goals first
   | (refine' xk.FD.mk ?a ?l ?d ?k; (case a=>k_is); (case l=>k_is); (case d=>k_is); (case k=>k_is))
   | (refine' xk.FC.mk ?a ?l ?d ?k; (case a=>k_is); (case l=>k_is); (case d=>k_is); (case k=>k_is))
   | (refine' xk.MD.mk ?a ?i ?l ?d ?k; (case a=>k_is); (case i=>k_is); (case l=>k_is); (case d=>k_is); (case k=>k_is))
   | (refine' xk.MC.mk ?a ?i ?l ?d ?k; (case a=>k_is); (case i=>k_is); (case l=>k_is); (case d=>k_is); (case k=>k_is))
   | k_is
   | kernel_rfl
   | decide
   | exact ⟨by kernel_rfl,by k_is,by k_is,by k_is,by k_is,by k_is,by k_is,by kernel_rfl⟩
   | skip
 case kt0=>intro w; kernel_rfl
 case cd0=>intro w; kernel_rfl
 case kt1=>intro w; kernel_rfl
 case cd1=>intro w; kernel_rfl
