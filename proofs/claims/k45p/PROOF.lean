import PyProof.Rows.All
import Wide.All
import OpenK.AllK
import Wide.FinOn
import Lean
import PyProof.EqAt
import PyProof.EqKinds
import PyProof.TupleCall
import PySem.Challenge.RW_neverwait_k45_lanes_hand_on
set_option Elab.async false
set_option linter.all false
set_option maxRecDepth 100000
set_option maxHeartbeats 8000000
def aj:=@PySem.wpAny_bind
def bp:=@PySem.Heap.get?_push_of_some
def cg:=@List.getD_eq_getElem?_getD
def aV:=@List.length_map
def bL:=@List.mem_cons_of_mem
def cJ:=@List.getElem?_eq_getElem
def bN:=@List.mem_cons_self
def bi:=@Option.some.inj
def ap:=@if_neg
def aW:=@Nat.le_refl
def ai:=@if_pos
def bo:=@Bool.false_ne_true
def aM:=@PySem.Heap.lt_size
def bR:=@PySem.Heap.get?_push_size
def cQ:=@List.getElem?_eq_some_iff
def av:=@PyProof.Rows.wpS_bind
def bv:=@List.getElem?_map
def bK:=@Nat.lt_of_lt_of_le
def a7:=@List.mem_cons
def aQ:=@List.mem_map
def aT:=@Nat.ne_of_lt
def cB:=@List.mem_of_getElem?
def bw:=@List.mem_filter
def aZ:=@Nat.le_trans
def cI:=@List.mem_singleton
def cC:=@List.size_toArray
def cD:=@List.length_cons
def cT:=@List.append_assoc
def aL:=@PyProof.Rows.wpS_pure
def cM:=@List.nodup_cons
def dF:=@List.length_append
def cR:=@List.mem_append
def dA:=@of_decide_eq_true
def dN:=@Nat.lt_of_le_of_lt
def dO:=@Nat.lt_succ_of_lt
def eA:=@Array.length_toList
def ee:=@PySem.W.mg_none_of
def cU:=@List.mem_range
def du:=@PySem.PassesOwn.never
def iB:=@Array.getD_eq_getD_getElem?
def eQ:=@Array.toList_append
def cV:=@Int.ofNat.inj
def dP:=@decide_eq_false
def gY:=@PySem.F.plainAttrs_list
def et:=@List.take_length
def cE:=@Nat.zero_le
def dR:=@List.map_append
def gJ:=@List.mem_append_right
def iX:=@Array.getElem?_eq_getElem
def gZ:=@List.length_filter_le
def eT:=@List.filter_cons
def dS:=@PySem.boot_len
def fm:=@List.length_range
def dB:=@getElem?_pos
def jG:=@PySem.F.type_list_append
def jH:=@PySem.F.slot_list_append
def gK:=@PySem.F.called_set
def fq:=@Bool.and_eq_true
def jI:=@PyProof.Rows.boot_tuple
def eD:=@List.map_cons
def bE:=@Ne.symm
def gN:=@List.lookup_cons
def iC:=@decide_eq_true_iff
def f8:=@List.foldl_cons
def g8:=@PySem.wpAny_newObj_type
def ft:=@List.nodup_nil
def dQ:=@PySem.wpAny_field
def iD:=@List.take_add_one
def nj:=@Array.perm_iff_toList_perm
def g_:=@PySem.wpAny_call_entry
def j3:=@List.perm_append_comm
def j4:=@List.getElem?_eq_none
def jJ:=@List.map_congr_left
def lN:=@PySem.wpAny_callSpecial?_slot
def iE:=@List.not_mem_nil
def iF:=@List.getElem_mem
def eU:=@Int.zero_add
def jK:=@List.filter_append
def f9:=@PySem.wpAny_holding
def uk:=@PyProof.Rows.F.plain_set_update_loop
def fu:=@List.map_map
def jL:=@List.pairwise_map
def jM:=@Bool.eq_false_iff
def hU:=@PySem.Heap.size_push
def pT:=@List.getElem?_append_left
def jN:=@PySem.Heap.get?_push_ne
def fv:=@PyProof.Rows.wpS_forRange
def qU:=@PyProof.Rows.boot_isinstance
def hV:=@PySem.W.mg_of
def hX:=@Nat.lt_irrefl
def jO:=@List.all_eq_true
def nk:=@List.Perm.append_left
def nq:=@Array.getElem?_toList
def ul:=@PyProof.Rows.slot_tuple_getitem
def ny:=@List.mem_append_left
def jP:=@PySem.W.kia_one
def jQ:=@Nat.not_lt_zero
def jR:=@Bool.eq_iff_iff
def j5:=@Nat.lt_succ_self
def j6:=@List.length_take
def jh:=@PySem.Around.under_plainId
def gh:=@PySem.codeAny_builtin
def dL:=@beq_iff_eq
def hZ:=@Nat.div_add_mod
def ow:=@PyProof.Rows.callWith_type1
def ji:=@decide_eq_true_eq
def lX:=@Nat.lt_of_succ_lt_succ
def lY:=@Nat.div_div_eq_div_mul
def oy:=@List.nodup_iff_pairwise_ne
def oz:=@List.getElem?_append_right
def iO:=@PySem.Heap.size_update
def oA:=@Array.getElem?_eq_some_iff
def j7:=@PySem.mem_of_lookup
def oB:=@List.drop_eq_getElem_cons
def jj:=@PySem.wpAny_setState_of
def lZ:=@List.take_append_drop
def l4:=@List.length_replicate
def gj:=@Nat.ne_of_gt
def gm:=@Nat.lt_or_ge
def l6:=@List.mem_of_mem_take
def iP:=@Array.size_map
def j8:=@PySem.wpAny_setField_rec
def j9:=@Int.toNat_natCast
def j_:=@Array.toList_push
def jk:=@List.find?_cons
def fz:=@PySem.wpAny_of_eq
def l7:=@beq_eq_false_iff_ne
def vb:=@PyProof.Rows.F.entry_set_update_loop
def kd:=@PySem.wpAny_truthy_bool
def kg:=@Nat.mod_eq_of_lt
def l8:=@List.mem_filterMap
def l9:=@Bool.false_eq_true
def iQ:=@PySem.wpAny_standAt
def kh:=@List.range_succ
def oC:=@List.mem_iff_getElem
def l_:=@List.foldl_append
def dM:=@PyProof.Rows.wpS_mono
def oE:=@PySem.Heap.get?_update_self
def qV:=@List.length_erase_of_mem
def qW:=@List.getElem?_take_of_lt
def oF:=@Nat.mul_le_mul_left
def md:=@decide_eq_decide
def eK:=@Prod.ext
def gs:=@PySem.wpAny_mono
def iR:=@Nat.mul_add
def qX:=@PyProof.Rows.boot_list
def qY:=@Option.map_eq_some_iff
def jl:=@Nat.le_of_lt
def qZ:=@List.getElem?_set_self
def oG:=@Int.emod_lt_of_pos
def q0:=@Array.toList_filterMap
def kj:=@PySem.wpAny_seqItems
def kl:=@List.any_cons
def gu:=@PyProof.Rows.wpS_modify
def oH:=@List.nodup_append
def q9:=@PySem.Heap.get?_update_other
def me:=@PySem.wpAny_passesOwn
def q_:=@List.mem_erase_of_ne
def jm:=@List.map_id
def vc:=@Int.fdiv_eq_ediv_of_nonneg
def km:=@Nat.succ.inj
def oI:=@List.nodup_range
def vd:=@List.mem_of_find?_eq_some
def ve:=@Decidable.byContradiction
def vf:=@Classical.byContradiction
def rd:=@List.replicate_succ
def gv:=@if_false
def mf:=@Nat.mul_assoc
def vg:=@Nat.lt_succ_iff_lt_or_eq
def re:=@PySem.Heap.get?_none_of_le
def oJ:=@ne_of_beq_false
def oK:=@List.append_nil
def oM:=@Int.emod_nonneg
def kn:=@PySem.codeAny_mono
def jn:=@Nat.mod_lt
def rf:=@List.find?_eq_none
def vh:=@decide_eq_false_iff_not
def kq:=@Nat.mul_one
def rh:=@PySem.Heap.get?_update_ne
def vi:=@PySem.wpAny_comprehension_free
def mh:=@PySem.wpAny_attempt
def vj:=@List.range_succ_eq_map
def vk:=@List.length_pos_of_mem
def rj:=@List.ext_getElem?
def vm:=@Array.getElem?_eq_none
def rk:=@PySem.wpAny_pyIter_tuple
def rn:=@PySem.wpAny_Call_Name_kw
def rq:=@PySem.Obj.data_mapFields
def kr:=@PySem.sizeLine_eq
def oN:=@not_false_iff
def oO:=@List.cons.inj
def vn:=@List.mem_of_mem_drop
def vo:=@List.getElem?_set_ne
def yH:=@List.eq_nil_of_length_eq_zero
def rA:=@List.of_mem_zip
def vp:=@PySem.W.hideAll_get
def vq:=@List.filter_sublist
def rB:=@PySem.wpAny_isInstance
def rC:=@PySem.wpAny_askSetting
def vt:=@PySem.codeAny_call_builtin
def yI:=@Int.fmod_eq_emod_of_nonneg
def rD:=@PySem.pushCells_keeps
def oP:=@Nat.mul_pos
def oQ:=@Nat.div_one
def vw:=@List.flatten_cons
def vy:=@PySem.Heap.SameBut.update
def vz:=@Bool.not_eq_true'
def yJ:=@PySem.F.type_list_remove
def yK:=@PySem.F.slot_list_remove
def yL:=@PyProof.Rows.boot_sorted
def yM:=@Option.isSome_iff_exists
def rE:=@Nat.add_assoc
def rF:=@Bool.not_true
def ky:=@PyProof.Rows.size_push'
def rG:=@PySem.wpAny_setField
def kA:=@or_false
def yN:=@Nat.le_mul_of_pos_right
def vA:=@Nat.le_add_right
def yO:=@List.filter_cons_of_pos
def vB:=@List.any_eq_true
def vC:=@Array.toList_map
def yP:=@PyProof.noPylong_small
def rH:=@Nat.le_of_eq
def yQ:=@List.take_of_length_le
def yR:=@List.pairwise_lt_range
def yS:=@List.find?_cons_of_neg
def yT:=@List.Perm.append_right
def rJ:=@Int.ofNat_lt
def vD:=@PySem.wpAny_pyIter_list
def vE:=@List.length_set
def vF:=@List.forIn_cons
def vG:=@List.find?_some
def vH:=@List.Perm.of_eq
def rK:=@PySem.plainId_quiet
def h_:=@PyProof.Rows.wpS_get
def yU:=@Nat.div_lt_of_lt_mul
def yV:=@List.replicate_succ'
def yW:=@List.length_take_le'
def vI:=@List.forIn_nil
def yX:=@Array.toList_reverse
def yY:=@Array.toList_extract
def yZ:=@PySem.wpAny_pyNext_list_item
def y0:=@PySem.wpAny_pyIter_rangeiter
def oR:=@PySem.wpAny_Name
def y3:=@PySem.W.plainGet_of
def y4:=@List.filterMap_cons
def vJ:=@PySem.wpAny_specialOf
def vK:=@PySem.wpAny_execs_nil
def vL:=@PySem.codeAny_of_tree
def vM:=@List.all_cons
def y6:=@PySem.wpAny_pyNext_list_end
def jo:=@not_or
def y7:=@PySem.W.callWith_K
def y8:=@PySem.Obj.isFreed_of_fields
def y_:=@Nat.eq_zero_or_pos
def zc:=@Nat.add_sub_cancel
def zd:=@List.filterMap_map
def vN:=@PySem.wpAny_runValue
def ze:=@PySem.wpAny_loadName_local
def vO:=@PySem.isSubtype_type
def vP:=@PySem.isSubtype_stop
def mi:=@if_true
def oU:=@and_true
def vQ:=@Nat.succ_pos
def vR:=@Nat.mul_comm
def vS:=@Nat.lt_trans
def zf:=@List.reverse_perm
def zg:=@List.filter_congr
def zh:=@List.any_eq_false
def zi:=@PySem.wpAny_setEntries_of
def zj:=@PySem.wpAny_loadName_free
def zk:=@Nat.succ_le_succ
def zm:=@Nat.le_of_not_lt
def zn:=@Nat.div_eq_of_lt
def zo:=@List.zipIdx_cons
def zq:=@List.mem_flatMap
def zu:=@List.countP_cons
def vT:=@Nat.one_mul
def EW:=@Int.mul_le_mul_of_nonneg_left
def rL:=@PySem.wpAny_call
def zw:=@PySem.tupleKind_room_in1
def zx:=@Option.map_some
def zy:=@List.nil_append
def zA:=@PySem.Code.quiet_builtin
def EX:=@PySem.F.typeOf_object_class
def vU:=@PySem.wpAny_typeOf
def zB:=@PySem.wpAny_storeSet_of
def zC:=@PySem.wpAny_loadPart_at
def zD:=@PySem.wpAny_assign_Name
def zE:=@PySem.Value.isInt_shape
def EY:=@PySem.F.sub_list_frozenset
def EZ:=@PySem.F.excBase_ValueError
def zF:=@PySem.Obj.cls_mapFields
def E2:=@Nat.mul_lt_mul_of_pos_left
def zG:=@Nat.mul_le_mul
def zH:=@List.take_zero
def E3:=@List.perm_ext_iff_of_nodup
def zI:=@List.drop_zero
def E4:=@Array.toList_setIfInBounds
def mj:=@PyProof.Rows.wpS_lift
def E5:=@Nat.add_mul_mod_self_left
def E6:=@List.pairwise_iff_getElem
def E7:=@List.getElem?_eq_none_iff
def zJ:=@PySem.wpAny_eqBool_int
def E8:=@List.filterMap_cons_some
def zK:=@Bool.and_true
namespace L2
open PySem PySem.Spec PyProof.Rows
def Nh(h:Heap)(e:Addr)(cls:Value)(tb:Value):Prop:=∃o vs,h.get? e=some o/\o.cls=cls/\o.data=.fields vs/\vs[1]?=some tb/\vs[2]?=some .none
def Rm(h:Heap)(T:Addr)(fl:Value):Prop:=∃o vs,h.get? T=some o/\o.data=.fields vs/\vs[3]?=some fl
structure Bg(B:Heap)(l:List Env)(e:Addr)(cls fl:Value)(h:Heap):Prop where
 stays:B.StaysIn h
 new:B.get? e=none
 frames:h.FunFrames B l
 rc:∃T,Nh h e cls (.ref T)/\B.get? T=none/\T≠e/\Rm h T fl
abbrev C_(B:Heap)(l:List Env)(e:Addr)(cls:Value)(h:Heap):Prop:=Bg B l e cls .none h
section
variable {M:Model} {A:Around} {E:Value->Shared->Prop} {s:Shared} {B:Heap} {l outer:List Env} {env:Env} {e L:Addr} {cls:Value}
theorem vV{h:Heap}{T:Addr}{o:Obj}{vs:Array Value}{f:Array Value->Array Value}(hT:h.get? T=some o)(hd:o.data=.fields vs):
  (∀b,b≠T->(h.update T (Obj.mapFields f)).get? b=h.get? b)/\(h.update T (Obj.mapFields f)).get? T=some (Obj.mapFields f o)/\(Obj.mapFields f o).data=.fields (f vs)/\(Obj.mapFields f o).cls=o.cls/\h.UpToSlots (h.update T (Obj.mapFields f)):=by
 have o1:∀b,b≠T->(h.update T (Obj.mapFields f)).get? b=h.get? b:=fun b n=>q9 _ _ (bE n);refine⟨o1,oE _ hT (y8 (rq hd _)),rq hd _,zF _ _,fun b u q nf=>⟨u.slots,?_⟩⟩;by_cases c:b=T
 .subst c;rw[hT] at q;cases q;exact absurd hd (nf vs)
 .rw[o1 b c];exact q
theorem lm{h h':Heap}(F:h.FunFrames B l)(u:h.UpToSlots h'):h'.FunFrames B l:=F.of_keeps fun b o q nf=>let ⟨sl,z⟩:=u b o q nf;⟨_,z,rfl⟩
theorem pU{fl:Value}{Q:Unit->Shared->Prop}(x:Bg B l e cls fl s.heap)(q:∀h',C_ B l e cls h'->s.heap.UpToSlots h'->Q () { s with heap:=h' }):wpAny M A (setFlight (.ref e) none) Q E s:=by
 obtain⟨T,⟨o,vs,he,hc,hd,h1,h2⟩,nT,Te,oT,ts,hT,QI,h3⟩:=x.rc;have z3:3<ts.size:=(oA.mp h3).1;unfold setFlight;refine aj (dQ he hd h1 ?_);rw[ai (show (Value.ref T != Value.none)=true from by simp)];refine rG hT QI z3 ?_;obtain⟨p1,p2,p3,_,p5⟩:=vV (f:=(·.setIfInBounds 3 ((none:Option Addr).elim Value.none fun f=>rawInt f))) hT QI;exact q _ ⟨fun b u z=>(p1 b fun c=>by rw[c,nT] at z;cases z).trans (x.stays b u z),x.new,lm x.frames p5,T,⟨o,vs,(p1 e (bE Te)).trans he,hc,hd,h1,h2⟩,nT,Te,_,_,p2,p3,by simp[z3]⟩ p5
theorem um{o:Obj}{vs:Array Value}{head:Value}{Jr:Bool}{Q:Unit->Shared->Prop}(Ni:A.frames=some (env::outer))(F:s.heap.FunFrames B (env::outer))(hf:env.frame=some L)(st:B.StaysIn s.heap)(nw:B.get? e=none)(he:s.heap.get? e=some o)(hd:o.data=.fields vs)(z1:1<vs.size)(h2:vs[2]?=some .none)(q:∀h',Bg B (env::outer) e o.cls (rawInt L) h'->s.heap.UpToSlots h'->Q () { s with heap:=h' }):
  wpAny M A (do let a <- frameOf env;let pl <- entryPlaceOf L Jr;let b <- EntryCells.newEntry head a .none (rawInt L) .none pl;setField (.ref e) 1 b) Q E s:=by
 have ne:e∉(env::outer).filterMap (·.frame):=fun m=>by
  obtain⟨_,u,hu,nf⟩:=F.mem m;rw[he] at hu;cases hu;exact nf vs hd
 refine aj (wpAny_frameOf_fun Ni F hf fun h1 so=>?_);refine aj (wpAny_entryPlaceOf fun pl uo=>?_);unfold EntryCells.newEntry newFields;refine aj (g8 ?_ (uo.sizeOk5 _ _ _ _ _));have e1:h1.get? e=some o:=(so.2.1 e ne).trans he;have Js:B.StaysIn h1:=fun b u z=>(so.2.1 b fun m=>by rw[(F.mem m).1] at z;cases z).trans (st b u z);have up1:s.heap.UpToSlots h1:=fun b u z _=>so.2.2 b u z;generalize hTo:({ cls:=.type "traceback",dict:=none,data:=.fields ([head,.ref L,.none,rawInt L,.none]++(if pl.isEmpty then List.replicate 6 Value.none else pl)).toArray }:Obj)=To;have e2:=bp (h:=h1) To e1;refine rG e2 hd z1 ?_;obtain⟨p1,p2,p3,p4,p5⟩:=vV (f:=(·.setIfInBounds 1 (Value.ref h1.objs.size))) e2 hd;have Te:h1.objs.size≠e:=gj (aM e1);have upP:h1.UpToSlots (h1.push To):=Heap.UpToSlots.of_keeps fun b u z=>bp _ z;refine q _ ⟨fun b u z=>(p1 b fun c=>by rw[c,nw] at z;cases z).trans (bp _ (Js b u z)),nw,lm F ((up1.trans upP).trans p5),h1.objs.size,⟨_,_,p2,p4,p3,by simp[z1],by rw[Array.getElem?_setIfInBounds_ne (by decide)];exact h2⟩,?_,Te,To,_,(p1 _ Te).trans (bR h1 (by rw[<-hTo];rfl)),by rw[<-hTo],?_⟩ ((up1.trans upP).trans p5)
 .cases z:B.get? h1.objs.size with
  |none=>rfl
  |some u=>exact absurd (aM (Js _ u z)) (hX _)
 .first|(simp;done)|(rcases uo with rfl|⟨_,_,_,_,_,_,_,rfl⟩ <;> simp)
theorem Jt{Q:Unit->Shared->Prop}(Ni:A.frames=some (env::outer))(hf:env.frame=some L)(x:C_ B (env::outer) e cls s.heap)(q:∀h',Bg B (env::outer) e cls (rawInt L) h'->s.heap.UpToSlots h'->Q () { s with heap:=h' }):wpAny M A (noteFrame (.ref e) env) Q E s:=by
 obtain⟨T,⟨o,vs,he,hc,hd,h1,h2⟩,nT,Te,oT,ts,hT,QI,h3⟩:=x.rc;subst hc;unfold noteFrame;simp only[hf];refine aj (dQ he hd h1 ?_);rw[ai (show (Value.ref T != Value.none)=true from by simp)];refine aj (dQ hT QI h3 ?_);rw[ap (show ¬ ((Value.none==rawInt L)=true) from by simp[rawInt])];refine aj (rG hT QI (oA.mp h3).1 ?_);obtain⟨p1,p2,p3,p4,p5⟩:=vV (f:=(·.setIfInBounds 3 Value.none)) hT QI;exact um Ni (lm x.frames p5) hf (fun b u z=>(p1 b fun c=>by rw[c,nT] at z;cases z).trans (x.stays b u z)) x.new ((p1 e (bE Te)).trans he) hd (oA.mp h1).1 h2 fun h' y u=>q h' y (p5.trans u)
theorem E9{Q:Unit->Shared->Prop}(Ni:A.frames=some (env::outer))(hf:env.frame=some L)(x:C_ B (env::outer) e cls s.heap)(q:∀h',C_ B outer e cls h'->s.heap.UpToSlots h'->Q () { s with heap:=h' }):wpAny M A (leaving env (.ref e)) Q E s:=by
 unfold leaving;refine aj (Jt Ni hf x fun h1 y u=>?_);refine pU (s:={ s with heap:=h1 }) y fun h2 z v=>q h2 ⟨z.stays,z.new,z.frames.2.2,z.rc⟩ (u.trans v)
theorem zL{h:Heap}{args:List Value}{Q:Unit->Shared->Prop}(Ni:A.frames=some (env::outer))(hf:env.frame=some L)(st:B.StaysIn h)(F:h.FunFrames B (env::outer))(x:Heap.MadeExcOf h s.heap e cls args)(q:∀h',C_ B outer e cls h'->s.heap.UpToSlots h'->Q () { s with heap:=h' }):wpAny M A (leaving env (.ref e)) Q E s:=by
 obtain⟨t,he,_,_⟩:=x.there;have nw:B.get? e=none:=by
  cases z:B.get? e with
  |none=>rfl
  |some u=>have:=st e u z;rw[x.new] at this;cases this
 unfold leaving noteFrame;simp only[hf];refine aj (aj (dQ he rfl (x:=.none) rfl ?_));rw[ap (by decide)];refine um Ni (lm F (Heap.UpToSlots.of_keeps x.keeps)) hf (fun b u z=>x.keeps b u (st b u z)) nw he rfl (by simp) rfl fun h1 y u=>?_;exact pU (s:={ s with heap:=h1 }) y fun h2 z v=>q h2 ⟨z.stays,z.new,z.frames.2.2,z.rc⟩ (u.trans v)
end
theorem tT:plainId "proto.unchain"=true:=by decide +kernel
theorem tU:entryFor table "proto.unchain"=some Builtin.«proto.unchain»:=PySem.entryFor_of_fast (by kernel_rfl)
def Bh(p:Addr)(h:Heap):Prop:=∃o vs,h.get? p=some o/\o.data=.fields vs/\vs[2]?=some .none
theorem E_{α:Type}{prog:Program}{w:World}{A:Around}{Q:α->Shared->Prop}{E:Value->Shared->Prop}{s:Shared}{a p:Addr}{o:Obj}{vs:Array Value}(hh:A.handled=some (.ref p))(hp:Bh p s.heap)(ne:p≠a)(ha:s.heap.get? a=some o)(hd:o.data=.fields vs)(z2:2<vs.size)(q:E (.ref a) { s with heap:=s.heap.update a (Obj.mapFields (·.setIfInBounds 2 (.ref p))) }):wpAny (model prog w) A (raiseNew (.ref a):Sem α) Q E s:=by
 obtain⟨op,ws,h1,h2,h3⟩:=hp;unfold raiseNew;refine aj (wpAny_handled ?_);rw[hh];dsimp only;rw[ai (show (Value.ref p != Value.ref a)=true from by simp[ne])];refine aj (f9 (vN (gh tU ?_)));rw[jh tT _];show wpAny _ _ (field (.ref p) 2 >>= _) _ _ s;refine aj (dQ h1 h2 h3 ?_);rw[ai (by decide)];refine wpAny_pure ?_;show wpAny (model prog w) A (updateField a 2 (Value.ref p) >>= fun _=>throw (Value.ref a)) Q E s;unfold updateField;refine aj (aj (wpAny_load ha ?_));rw[hd];dsimp only;rw[ai z2];exact wpAny_update (by rw[ha]) (wpAny_throw q)
theorem zM{prog:Program}{w:World}{A:Around}{E:Value->Shared->Prop}{s:Shared}{it p:Addr}{x left step:Int}{Q:Option Value->Shared->Prop}(hh:A.handled=some (.ref p))(hp:Bh p s.heap)(jS:IsRangeIter s.heap it x left step)(hl:left<=0)(hQ:∀h',(∀b o,s.heap.get? b=some o->h'.get? b=some o)->Q none { s with heap:=h' }):wpAny (model prog w) A (pyNext (.ref it)) Q E s:=by
 have hT:s.TypeIs (.ref it) "range_iterator":=⟨_,jS,rfl⟩
 unfold pyNext;refine aj (mh (lN (name:=Str.ofString "__next__") hT F.slot_range_iterator_next
  (g_ F.slot_range_iterator_next hT F.entry_range_iterator_next ?_ (F.args_range_iterator_next_1 _))))
 show wpAny _ _ (field (.ref it) 0 >>= _) _ _ s;refine aj (dQ jS rfl (x:=rawInt x) rfl ?_);refine aj (dQ jS rfl (x:=rawInt left) rfl ?_);refine aj (dQ jS rfl (x:=rawInt step) rfl ?_);dsimp only[rawInt];rw[ai hl];refine aj (wpAny_rule ?_);refine aj ?_;show wpAny _ _ (newExc (.type "StopIteration") [] >>= _) _ _ _;refine aj ?_;simp only[newExc,newTuple];refine aj (g8 ?_ (by size_fits));refine aj (m:=firstArgMember _ _) (fz (a:=Value.none) (by first|rfl|(simp only[firstArgMember];rfl)) ?_);refine g8 ?_ (by size_fits);generalize hTu:({ cls:=.type "tuple",data:=.seq ([]:List Value).toArray }:Obj)=Tu;generalize Wk:({ cls:=.type "StopIteration",data:=.fields (#[Value.ref s.heap.objs.size,Value.none,Value.none,Value.none,Value.bool false,Value.none]++ownMembersOf (Value.type "StopIteration") []) }:Obj)=Ex;have dEx:Ex.data=.fields (#[Value.ref s.heap.objs.size,Value.none,Value.none,Value.none,Value.bool false,Value.none]++ownMembersOf (Value.type "StopIteration") []):=by rw[<-Wk]
 have cEx:Ex.cls=.type "StopIteration":=by rw[<-Wk]
 have k1:∀b o,s.heap.get? b=some o->((s.heap.push Tu).push Ex).get? b=some o:=fun b o e=>bp _ (bp _ e);have gE:((s.heap.push Tu).push Ex).get? (s.heap.push Tu).objs.size=some Ex:=bR _ (by rw[<-Wk];rfl);have ml:∀b o,s.heap.get? b=some o->b≠(s.heap.push Tu).objs.size:=fun b o e=>aT (aM (bp Tu e));obtain⟨op,ws,n1,n2,n3⟩:=id hp;refine E_ (A:=A.in1) (p:=p) hh ⟨op,ws,k1 _ _ n1,n2,n3⟩ (ml _ _ n1) gE dEx (by simp;lia) ?_;refine aj (rB (T:="StopIteration") (b:=true) ⟨_,oE _ gE (y8 (rq dEx _)),(zF _ _).trans cEx⟩ vP ?_);exact wpAny_pure (hQ _ fun b o e=>(q9 _ _ (bE (ml b o e))).trans (k1 b o e))
abbrev dI:=Sum Int Str
def uq:dI->Value->Bool
 |.inl k,v=>Value.isInt k v
 |.inr x,v=>Value.isStrOf x v
def Wl(w:World):dI->Int
 |.inl k=>hashInt k
 |.inr x=>hashStr w x
theorem cW:∀ {k:dI} {v:Value},uq k v=true->(∃i t,k=Sum.inl i/\v=Value.int i t)\/(∃x t,k=Sum.inr x/\v=Value.str x t)
 |.inl i,v,h=>by
  obtain⟨t,e⟩:=zE (k:=i) (v:=v) h;exact .inl ⟨i,t,rfl,e⟩
 |.inr x,v,h=>by
  obtain⟨t,e⟩:=Value.isStrOf_shape (x:=x) (v:=v) h;exact .inr ⟨x,t,rfl,e⟩
theorem Da(i:Int)(t:Tok):uq (.inl i) (.int i t)=true:=by simp[uq,Value.isInt]
theorem Db(x:Str)(t:Tok):uq (.inr x) (.str x t)=true:=by simp[uq,Value.isStrOf]
theorem Nj(a b:Int):decide ((Sum.inl a:dI)=Sum.inl b)=(a==b):=by
 by_cases e:a=b
 .subst e;simp
 .have h:¬ (Sum.inl a:dI)=Sum.inl b:=fun q=>e (Sum.inl.inj q);rw[dP h];exact(l7.mpr e).symm
theorem Nk(a b:Str):decide ((Sum.inr a:dI)=Sum.inr b)=decide (a=b):=by
 by_cases e:a=b
 .subst e;simp
 .have h:¬ (Sum.inr a:dI)=Sum.inr b:=fun q=>e (Sum.inr.inj q);rw[dP h,dP e]
theorem Nl(a:Int)(b:Str):decide ((Sum.inl a:dI)=Sum.inr b)=false:=dP (fun q=>nomatch q)
theorem Nm(a:Str)(b:Int):decide ((Sum.inr a:dI)=Sum.inl b)=false:=dP (fun q=>nomatch q)
def cX(prog:Program)(w:World):PySem.KeyKind prog w dI where
 is:=uq
 hash:=Wl w
 inj:=fun v a b ha hb=>by
  rcases cW ha with ⟨i,t,rfl,rfl⟩|⟨x,t,rfl,rfl⟩
  .rcases cW hb with ⟨j,u,rfl,e⟩|⟨y,u,rfl,e⟩
   .injection e with e1 _;rw[e1]
   .exact nomatch e
  .rcases cW hb with ⟨j,u,rfl,e⟩|⟨y,u,rfl,e⟩
   .exact nomatch e
   .injection e with e1 _;rw[e1]
 byValue:=fun k v h=>by
  rcases cW h with ⟨i,t,rfl,rfl⟩|⟨x,t,rfl,rfl⟩ <;> rfl
 pyHash:=fun hv h=>by
  rcases cW hv with ⟨i,t,rfl,rfl⟩|⟨x,t,rfl,rfl⟩
  .exact wpAny_pyHash_int h
  .exact wpAny_pyHash_str h
 eqBool:=fun hu hv h=>by
  rcases cW hu with ⟨i,t,rfl,rfl⟩|⟨x,t,rfl,rfl⟩
  .rcases cW hv with ⟨j,u,rfl,rfl⟩|⟨y,u,rfl,rfl⟩
   .rw[Nj] at h;exact zJ h
   .rw[Nl] at h;exact SeqAt.EqAt.int_str i t y u _ _ _ _ h
  .rcases cW hv with ⟨j,u,rfl,rfl⟩|⟨y,u,rfl,rfl⟩
   .rw[Nm] at h;exact SeqAt.EqAt.str_int x t j u _ _ _ _ h
   .rw[Nk] at h;exact wpAny_eqBool_str h
 «strs»:=fun k x t v h=>by
  rcases cW h with ⟨i,u,rfl,e⟩|⟨y,u,rfl,e⟩
  .exact nomatch e
  .injection e with e1 _
   subst e1
   cases v <;> rfl
theorem xi(prog:Program)(w:World)(i:Int)(t:Tok):(cX prog w).is (.inl i) (.int i t)=true:=Da i t
theorem xj(prog:Program)(w:World)(x:Str)(t:Tok):(cX prog w).is (.inr x) (.str x t)=true:=Db x t
inductive V where
 |bA|bl (b:Bool)|int (i:Int)|str (x:Str)|EI (b:Array UInt8)|Nn (b:UInt64)|ref (a:Addr)|ty (n:String)
 deriving DecidableEq
def bn:V->Value->Prop
 |.bA,u=>u=Value.none
 |.bl b,u=>u=Value.bool b
 |.int i,u=>∃t,u=Value.int i t
 |.str x,u=>∃t,u=Value.str x t
 |.EI b,u=>∃t,u=Value.bytes b t
 |.Nn b,u=>∃t,u=Value.float b t
 |.ref a,u=>u=Value.ref a
 |.ty n,u=>u=Value.type n
abbrev aP:List V->List Value->Prop:=Paired bn
theorem aP.length(r:aP xs us):xs.length=us.length:=Paired.length r
theorem aP.get:∀ {xs:List V} {us:List Value} {i:Nat} {x:V},aP xs us->xs[i]?=some x->∃u,us[i]?=some u/\bn x u
 |_,_,_,_,.nil,e=>by simp at e
 |_,_,0,_,.cons r _,e=>by simp at e;subst e;exact⟨_,rfl,r⟩
 |_,_,i+1,x,.cons _ t,e=>by
  obtain⟨u,h1,h2⟩:=aP.get (i:=i) (x:=x) t (by simpa using e);exact⟨u,by simpa using h1,h2⟩
theorem aP.set(r:bn x u):∀ {xs:List V} {us:List Value} (i:Nat),aP xs us->aP (xs.set i x) (us.set i u)
 |_,_,_,.nil=>.nil
 |_,_,0,.cons _ t=>.cons r t
 |_,_,i+1,.cons q t=>.cons q (aP.set r i t)
theorem aP.append:∀ {xs ys:List V} {us ws:List Value},aP xs us->aP ys ws->aP (xs++ys) (us++ws)
 |_,_,_,_,.nil,s=>s
 |_,_,_,_,.cons r t,s=>.cons r (aP.append t s)
theorem aP.take:∀ {xs:List V} {us:List Value} (n:Nat),aP xs us->aP (xs.take n) (us.take n)
 |_,_,0,_=>.nil
 |_,_,_+1,.nil=>.nil
 |_,_,n+1,.cons r t=>.cons r (aP.take n t)
theorem aP.drop:∀ {xs:List V} {us:List Value} (n:Nat),aP xs us->aP (xs.drop n) (us.drop n)
 |_,_,0,r=>r
 |_,_,_+1,.nil=>.nil
 |_,_,n+1,.cons _ t=>aP.drop n t
def lG:Option V->Option Value->Prop
 |some v,some u=>bn v u
 |none,none=>True
 |_,_=>False
def KV{κ:Type}:List (κ×V)->List (κ×Value)->Prop:=Paired fun (p:κ×V) (q:κ×Value)=>p.1=q.1/\bn p.2 q.2
def kV:dI->V
 |.inl i=>.int i
 |.inr x=>.str x
inductive HO where
 |lst (xs:List V)
 |tup (xs:List V)
 |dK (kvs:List (dI×V))|dT (kvs:List (List dI×V))
 |set (S:Int->Bool) (n:Nat)
 |ins (C dx:Addr) (fs:List (Str×V))
 |own (x:Addr)
 |xd (fs:List (Str×V))
 |met (f x:Addr)
 |Bi (lo hi:Int)
 |mm (o:Obj) (u:HO)
 |on (ps:Array Value)
 |ext (φ:Heap->Prop)
abbrev Hp:=Addr->Option HO
def upd(H:Hp)(a:Addr)(o:HO):Hp:=fun b=>if b=a then some o else H b
theorem ag:upd H a o a=some o:=by unfold upd;rw[ai rfl]
theorem al(h:b≠a):upd H a o b=H b:=by unfold upd;rw[ap h]
theorem qD:upd (upd H a o) a u=upd H a u:=by
 funext b;unfold upd;split <;> rfl
theorem bG{H:Hp}{a b:Addr}{o u:HO}(h:H a=some o)(h':H b=some u)(d:o≠u):a≠b:=by
 intro e;subst e;rw[h] at h';exact d (bi h')
theorem aq{H:Hp}{a b:Addr}{o:HO}(h:H a=some o)(h':H b=none):a≠b:=by
 intro e;subst e;rw[h] at h';cases h'
section
variable (P:Program) (w:World)
def mn(h:Heap)(a:Addr)(items:Array Value):Prop:=∃o,h.get? a=some o/\o.cls=.type "tuple"/\∃n,o.data=.seq items n/\o.dict=none
theorem mn.tup(p:mn h a items):IsTup h a items:=let ⟨o,e,c,n,d,_⟩:=p;⟨o,e,c,n,d⟩
theorem mn.new(h:Heap)(items:Array Value):mn (h.push { cls:=.type "tuple",data:=.seq items }) h.objs.size items:=⟨_,bR _ rfl,rfl,_,rfl,rfl⟩
def bX(H:Hp)(h:Heap)(a:Addr):HO->Prop
 |.lst xs=>xs.length<=sizeLine/\∃ (its:List Value) (n:Nat),aP xs its/\h.get? a=some { cls:=.type "list",data:=.seq its.toArray n }
 |.tup xs=>xs.length<=sizeLine/\∃its:List Value,aP xs its/\mn h a its.toArray
 |.dK kvs=>kvs.length<=sizeLine/\(a==sysModules)=false/\∃vs,KV kvs vs/\h.DictOf (cX P w) a vs
 |.dT kvs=>kvs.length<=sizeLine/\(a==sysModules)=false/\∃xs:List (List dI×Addr×Value),
   Paired (fun (p:List dI×V) (q:List dI×Addr×Value)=>p.1=q.1/\H q.2.1=some (.tup (p.1.map kV))/\bn p.2 q.2.2) kvs xs/\
   ∃o es ep,h.get? a=some o/\o.ExactDict/\o.data=.dict es ep/\es.toList=xs.map (entryOfKey (tupleKind (cX P w)))/\(xs.map (·.1)).Nodup
 |.set S n=>h.SetOf (intKind P w) a S n
 |.ins C dx fs=>H dx=some (.own a)/\fs.length<=1000/\dx≠a/\h.get? a=some (PySem.W.instObj C dx)/\
   ∃mA,h.Ns1 dx mA/\(∀f,lG (fs.lookup f) (mA f))/\PySem.Within mA (fs.map (·.1))
 |.own _=>∃o,h.get? a=some o
 |.xd fs=>∃mA,h.Ns1 a mA/\∀f,lG (fs.lookup f) (mA f)
 |.Bi lo hi=>∃t u v,h.get? a=some { cls:=.type "range",data:=.fields #[.int lo t,.int hi u,.int 1 v] }
 |.mm o u=>h.get? a=some o/\bX H h a u
 |.on ps=>h.get? a=some { cls:=.none,data:=.fields ps }
 |.met f x=>h.get? a=some (PySem.W.methodObj (.ref f) (.ref x))
 |.ext φ=>φ h/\(∃o,h.get? a=some o)/\∀h1 h2:Heap,φ h1->(∀o,h1.get? a=some o->h2.get? a=some o)->φ h2
def jY(H:Hp)(h:Heap):Prop:=∀a o,H a=some o->bX P w H h a o
end
section
variable {P:Program} {w:World} {H H':Hp} {h h':Heap} {a:Addr} {o:HO}
theorem bX.lt(x:bX P w H h a o):a<h.objs.size:=by
 cases o with
 |lst xs=>obtain⟨_,_,_,_,e⟩:=x;exact aM e
 |tup xs=>obtain⟨_,_,_,p⟩:=x;exact p.tup.lt
 |dK kvs=>obtain⟨_,_,_,_,o,_,_,e,_⟩:=x;exact aM e
 |dT kvs=>obtain⟨_,_,_,_,o,_,_,e,_⟩:=x;exact aM e
 |set S n=>obtain⟨o,_,_,_,e,_⟩:=x;exact aM e
 |ins C dx fs=>obtain⟨_,_,_,e,_⟩:=x;exact aM e
 |own y=>obtain⟨_,e⟩:=x;exact aM e
 |xd fs=>obtain⟨_,⟨_,_,_,e,_⟩,_⟩:=x;exact aM e
 |Bi lo hi=>obtain⟨_,_,_,e⟩:=x;exact aM e
 |mm ob u=>obtain⟨e,_⟩:=x;exact aM e
 |on ps=>exact aM (show h.get? a=some _ from x)
 |met f y=>exact aM (show h.get? a=some _ from x)
 |ext φ=>obtain⟨_,⟨_,e⟩,_⟩:=x;exact aM e
theorem Paired.No:∀ {l₁:List α} {l₂:List β},Paired F l₁ l₂->(∀a b,F a b->G a b)->Paired G l₁ l₂
 |_,_,.nil,_=>.nil
 |_,_,.cons r t,f=>.cons (f _ _ r) (Paired.No t f)
theorem bX.oW(x:bX P w H h a o)(k:∀b u,(b=a\/H b=some (.own a))->h.get? b=some u->h'.get? b=some u)(ho:∀b,H b=some (.own a)->H' b=some (.own a))(ht:∀b xs,H b=some (.tup xs)->H' b=some (.tup xs)):bX P w H' h' a o:=by
 induction o with
 |lst xs=>obtain⟨z,its,n,r,e⟩:=x;exact⟨z,its,n,r,k _ _ (.inl rfl) e⟩
 |tup xs=>obtain⟨z,its,r,ob,e,c⟩:=x;exact⟨z,its,r,ob,k _ _ (.inl rfl) e,c⟩
 |dK kvs=>obtain⟨z,y,vs,r,ob,es,ep,e,c⟩:=x;exact⟨z,y,vs,r,ob,es,ep,k _ _ (.inl rfl) e,c⟩
 |dT kvs=>
  obtain⟨z,y,xs,r,ob,es,ep,e,c⟩:=x;exact⟨z,y,xs,Paired.No r fun p q z=>⟨z.1,ht _ _ z.2.1,z.2.2⟩,ob,es,ep,k _ _ (.inl rfl) e,c⟩
 |set S n=>obtain⟨ob,es,ep,t,e,c⟩:=x;exact⟨ob,es,ep,t,k _ _ (.inl rfl) e,c⟩
 |ins C dx fs=>
  obtain⟨d,z,ne,e,mA,⟨od,es,ep,e2,c⟩,r⟩:=x;exact⟨ho _ d,z,ne,k _ _ (.inl rfl) e,mA,⟨od,es,ep,k _ _ (.inr d) e2,c⟩,r⟩
 |own y=>obtain⟨ob,e⟩:=x;exact⟨ob,k _ _ (.inl rfl) e⟩
 |xd fs=>obtain⟨mA,⟨od,es,ep,e,c⟩,r⟩:=x;exact⟨mA,⟨od,es,ep,k _ _ (.inl rfl) e,c⟩,r⟩
 |Bi lo hi=>obtain⟨t,u,v,e⟩:=x;exact⟨t,u,v,k _ _ (.inl rfl) e⟩
 |mm ob u ih=>obtain⟨e,q⟩:=x;exact⟨k _ _ (.inl rfl) e,ih q⟩
 |on ps=>
  have e:h.get? a=some { cls:=.none,data:=.fields ps }:=x;show h'.get? a=some { cls:=.none,data:=.fields ps };exact k a _ (.inl rfl) e
 |met f y=>
  have e:h.get? a=some (PySem.W.methodObj (.ref f) (.ref y)):=x;show h'.get? a=some (PySem.W.methodObj (.ref f) (.ref y));exact k a _ (.inl rfl) e
 |ext φ=>obtain⟨p,⟨o,e⟩,st⟩:=x;exact⟨st _ _ p fun o q=>k _ _ (.inl rfl) q,⟨o,k _ _ (.inl rfl) e⟩,st⟩
theorem jY.lt(x:jY P w H h)(e:H a=some o):a<h.objs.size:=(x a o e).lt
theorem jY.fresh(x:jY P w H h)(e:h.objs.size<=a):H a=none:=by
 cases q:H a with
 |none=>rfl
 |some u=>exact absurd (bK (x.lt q) e) (hX _)
theorem jY.kept(x:jY P w H h)(k:∀b u,h.get? b=some u->h'.get? b=some u):jY P w H h':=fun a o e=>
 (x a o e).oW (fun b u _ q=>k b u q) (fun _ q=>q) fun _ _ q=>q
theorem jY.laid(x:jY P w H h)(k:∀b u,h.get? b=some u->h'.get? b=some u)(hp:h.objs.size<=a)(new:bX P w (upd H a o) h' a o):jY P w (upd H a o) h':=fun b u e=>by
 have hn:=x.fresh hp;by_cases hb:b=a
 .subst hb;rw[ag] at e;cases e;exact new
 .rw[al hb] at e;exact(x b u e).oW (fun c v _ q=>k c v q) (fun c q=>by rw[al (aq q hn)];exact q) fun c xs q=>by rw[al (aq q hn)];exact q
end
def Rd(H:Hp)(a:Addr)(u:HO):Prop:=H a=some u\/∃o,H a=some (.mm o u)
theorem Rd.ok(r:Rd H a u)(x:jY P w H h):bX P w H h a u:=by
 rcases r with r|⟨o,r⟩
 .exact x a u r
 .obtain⟨_,q⟩:=x a _ r;exact q
def Rn:Option HO->Prop
 |some (.lst _)=>True
 |some (.dK _)=>True
 |some (.dT _)=>True
 |some (.set _ _)=>True
 |some (.ins _ _ _)=>True
 |some (.ext _)=>True
 |_=>False
section
variable {P:Program} {w:World} {H:Hp} {h h':Heap} {x e:Addr} {o':HO}
theorem jY.write(ok:jY P w H h)(mu:Rn (H x))(he:e=x\/H e=some (.own x))(k:∀b u,b≠e->h.get? b=some u->h'.get? b=some u)(QJ:∃u,h'.get? e=some u)(new:bX P w (upd H x o') h' x o'):jY P w (upd H x o') h':=fun b u q=>by
 have Ro:∀c y,H c=some (.own y)->c≠x:=fun c y r z=>by subst z;rw[r] at mu;exact mu
 have Wm:∀c xs,H c=some (.tup xs)->c≠x:=fun c xs r z=>by subst z;rw[r] at mu;exact mu
 by_cases hb:b=x
 .subst hb;rw[ag] at q;cases q;exact new
 .rw[al hb] at q;by_cases IY:b=e
  .have q':H b=some (.own x):=by
    rcases he with z|z
    .exact absurd (IY.trans z) hb
    .rw[IY];exact z
   rw[q] at q';cases q';obtain⟨v,hv⟩:=QJ;exact⟨v,by rw[IY];exact hv⟩
  .refine(ok b u q).oW (fun c v hc r=>k c v ?_ r) (fun c r=>by rw[al (Ro c b r)];exact r) fun c xs r=>by rw[al (Wm c xs r)];exact r
   rcases hc with rfl|hc
   .exact IY
   .rintro rfl;rcases he with z|z
    .exact Ro c b hc z
    .rw[hc] at z;cases z;exact hb rfl
end
structure Un(fs ex:List Addr)(H H':Hp)(h h':Heap):Prop where
 keep:∀b o,h.get? b=some o->H b=none->b∉fs->b∉ex->h'.get? b=some o
 slot:∀b o,h.get? b=some o->H b=none->b∈fs->b∉ex->∃sl,h'.get? b=some { o with slots:=sl }
 free:∀b o,h.get? b=some o->H b=none->b∉ex->H' b=none
 there:∀b o,h.get? b=some o->b∉ex->∃o',h'.get? b=some o'
 mq:∀b xs,H b=some (.tup xs)->H' b=some (.tup xs)
 oX:∀b o u,H b=some (.mm o u)->H' b=some (.mm o u)
 oY:∀b ps,H b=some (.on ps)->∃more,H' b=some (.on (ps++more))
section
variable {fs fs' ex ex':List Addr} {H H1 H2:Hp} {h h1 h2 h':Heap} {a x e:Addr} {o:HO}
theorem Un.any(u:Un fs ex H H1 h h1)(q:h.get? b=some ob)(n:H b=none)(hx:b∉ex):∃sl,h1.get? b=some { ob with slots:=sl }:=by
 by_cases hb:b∈fs
 .exact u.slot b ob q n hb hx
 .exact⟨ob.slots,u.keep b ob q n hb hx⟩
theorem Un.kept(k:∀b u,h.get? b=some u->h'.get? b=some u):Un fs ex H H h h':=
 ⟨fun b ob q _ _ _=>k b ob q,fun b ob q _ _ _=>⟨ob.slots,k b ob q⟩,fun _ _ _ n _=>n,fun b ob q _=>⟨ob,k b ob q⟩,fun _ _ q=>q,fun _ _ _ q=>q,fun _ ps q=>⟨#[],by rw[q];simp⟩⟩
theorem Un.refl:Un fs ex H H h h:=Un.kept fun _ _ q=>q
theorem Un.laid(k:∀b u,h.get? b=some u->h'.get? b=some u)(hp:h.objs.size<=a)(hn:H a=none):Un fs ex H (upd H a o) h h' where
 keep:=fun b u q _ _ _=>k b u q
 slot:=fun b u q _ _ _=>⟨u.slots,k b u q⟩
 free:=fun b u q n _=>by rw[al (aT (bK (aM q) hp))];exact n
 there:=fun b u q _=>⟨u,k b u q⟩
 mq:=fun b xs q=>by rw[al (aq q hn)];exact q
 oX:=fun b u xs q=>by rw[al (aq q hn)];exact q
 oY:=fun b ps q=>⟨#[],by rw[al (aq q hn),q];simp⟩
theorem Un.write(mu:Rn (H x))(he:e=x\/H e=some (.own x))(k:∀b u,b≠e->h.get? b=some u->h'.get? b=some u)(QJ:∃u,h'.get? e=some u):Un fs ex H (upd H x o) h h':=by
 have hx:∀b,H b=none->b≠x:=fun b n z=>by subst z;rw[n] at mu;exact mu
 have hb:∀b,H b=none->b≠e:=fun b n z=>by
  subst z;rcases he with r|r
  .exact hx b n r
  .rw[n] at r;cases r
 have hm:∀b u,H b=some u->¬ Rn (some u)->b≠x:=fun b u q nm z=>by subst z;rw[q] at mu;exact nm mu
 refine⟨fun b u q n _ _=>k b u (hb b n) q,fun b u q n _ _=>⟨u.slots,k b u (hb b n) q⟩,fun b u q n _=>by rw[al (hx b n)];exact n,fun b u q _=>?_,
  fun b xs q=>by rw[al (hm b _ q fun z=>z)];exact q,fun b u xs q=>by rw[al (hm b _ q fun z=>z)];exact q,fun b ps q=>⟨#[],by rw[al (hm b _ q fun z=>z),q];simp⟩⟩
 by_cases IY:b=e
 .subst IY;exact QJ
 .exact⟨u,k b u IY q⟩
end
def Vz(h:Heap)(H:Hp):List Addr:=(List.range h.objs.size).filter fun a=>(H a).isSome
def tV(h:Heap)(H:Hp):Heap:=PySem.W.hideAll h (Vz h H)
theorem Dc(h:Heap)(H:Hp):(tV h H).objs.size=h.objs.size:=PySem.W.hideAll_size _ _
theorem Fa(e:h.get? b=some o)(n:H b=none):(tV h H).get? b=some o:=
 vp _ e fun hm=>by
  have q:(H b).isSome=true:=(bw.mp hm).2;rw[n] at q;simp at q
theorem Ju(e:(tV h H).get? b=some o):h.get? b=some o/\H b=none:=by
 have e':h.get? b=some o:=PySem.W.of_hideAll (Vz h H) e;refine⟨e',?_⟩;cases q:H b with
 |none=>rfl
 |some x=>
  have hm:b∈Vz h H:=bw.mpr ⟨cU.mpr (aM e'),by simp[q]⟩;have z:(tV h H).get? b=none:=PySem.W.hideAll_none (Vz h H) hm;rw[z] at e;cases e
def jp(g h:Heap)(L:Addr):List (Addr×Obj):=(List.range h.objs.size).filterMap fun a=>if a=L\/(g.get? a).isSome=true then none else (h.get? a).map fun o=>(a,o)
theorem kB(h1:a≠L)(h2:g.get? a=none)(h3:h.get? a=some o):(a,o)∈jp g h L:=
 l8.mpr ⟨a,cU.mpr (aM h3),by simp[h1,h2,h3]⟩
theorem rM(hp:p∈jp g h L):p.1≠L/\g.get? p.1=none/\h.get? p.1=some p.2:=by
 obtain⟨b,_,e⟩:=l8.mp hp;split at e
 .cases e
 .rename_i hn;cases q:h.get? b with
  |none=>rw[q] at e;simp at e
  |some u=>
   rw[q] at e;simp only[zx,Option.some.injEq] at e;subst e;refine⟨fun z=>hn (.inl z),?_,q⟩;show g.get? b=none;cases r:g.get? b with
   |none=>rfl
   |some v=>exact(hn (.inr (by simp[r]))).elim
theorem Fb:News g L h (jp g h L):=fun p hp=>let ⟨a,b,c⟩:=rM hp;⟨c,a,b⟩
structure Mod(K:PySem.W.Frag)(mg:Str->Option Value)(base:Heap):Prop where
 QK:K.In base
 glob:base.Ns mainGlobals mg
 blt:∃mb,base.Ns builtinsNs mb/\∀x:Str,x≠"__name__"->mb x=bootBuiltins x
 nolimit:base.NoLimit
structure Cx where
 prog:Program
 w:World
 K:PySem.W.Frag
 mg:Str->Option Value
 base:Heap
 A:Around
 N:List Str
 s₀:Shared
 H₀:Hp
 env:Env
 outer:List Env
 stack:List Env
 ex:List Addr
 fn:Str->Bool
 calm:Bool
 pn:List (Addr×Obj)
 xe:Value->Shared->Prop
def oZ(l:List Env):List Addr:=l.filterMap (·.frame)
abbrev Cx.fs(X:Cx):List Addr:=oZ X.outer
def Rp(sc:Scope)(x:Str):Prop:=sc.names.lookup x=some .local\/sc.names.lookup x=some .cell\/sc.names.lookup x=some .free
def Rq(sc:Scope)(x:Str):Prop:=sc.names.lookup x=some .local\/sc.names.lookup x=some .cell
def Wn(env:Env)(h:Heap)(m:Str->Option Value)(x:Str)(u:Value):Prop:=
 (env.kindOf x=some .local/\m x=some u)\/((env.kindOf x=some .cell\/env.kindOf x=some .free)/\∃c,env.cells.lookup x=some c/\h.IsCell c (some u))
structure Cx.Ok(X:Cx):Prop where
 mod:Mod X.K X.mg X.base
 kind:X.env.scope.kind=.function
 glob:X.env.globals=mainGlobals
 blt:X.env.builtins=builtinsNs
 above:X.s₀.heap.objs.size<=X.env.locals
 inj:∀x y c,X.env.cells.lookup x=some c->X.env.cells.lookup y=some c->x=y
 has:∀x,(X.env.kindOf x=some .cell\/X.env.kindOf x=some .free)->∃c,X.env.cells.lookup x=some c
 Rr:∀x c,X.fn x=true->X.env.cells.lookup x=some c->X.s₀.heap.objs.size<=c
 hd:X.calm=true->X.A.handled=none
 frames:X.A.frames=some X.stack
 IZ:X.stack=X.outer\/(X.stack=X.env::X.outer/\X.env.frame=some X.env.locals)
 VA:∀b∈X.ex,b≠X.env.locals/\∀x c,X.env.cells.lookup x=some c->c≠b
 bs:∀b o,X.base.get? b=some o->X.s₀.heap.get? b=some o/\X.H₀ b=none
 I0:X.base.objs.size<=X.s₀.heap.objs.size
 rN:∀b o,X.base.get? b=some o->b∉X.ex
 Jv:∀b∈X.ex,b∉X.fs
 nA:X.s₀.heap.FunFrames X.base X.outer
 Jw:∀b∈X.fs,X.H₀ b=none
structure aE(X:Cx)(ae:List (Addr×Obj))(σ:List (Option V))(H:Hp)(s:Shared):Prop where
 ok:X.Ok
 os:s.os=X.s₀.os
 bare:AllBare s.gens
 base:Un X.fs X.ex X.H₀ H X.s₀.heap s.heap
 loc:∃m,s.heap.Ns X.env.locals m/\∀ (i:Nat) (x:Str) (v:V),X.N[i]?=some x->σ[i]?=some (some v)->Rp X.env.scope x->∃u,bn v u/\Wn X.env s.heap m x u
 cell:∀x c,X.env.cells.lookup x=some c->∃v,s.heap.IsCell c v
 free:H X.env.locals=none
 lO:∀x c,X.env.cells.lookup x=some c->H c=none
 pin:∀p∈X.pn++ae,s.heap.get? p.1=some p.2/\H p.1=none/\p.1≠X.env.locals/\p.1∉X.fs/\∀v,p.2.data≠.cell v
 bU:jY X.prog X.w H s.heap
 len:σ.length=X.N.length
section
variable {X:Cx} {ae:List (Addr×Obj)} {σ:List (Option V)} {H H':Hp} {s:Shared} {h':Heap}
theorem Cx.Ok.Wo(ok:X.Ok)(e:X.base.get? b=some o):b∉X.fs:=fun hb=>by
 have:=(ok.nA.mem hb).1;rw[e] at this;cases this
theorem aE.bs(I:aE X ae σ H s):∀b o,X.base.get? b=some o->s.heap.get? b=some o/\H b=none:=fun b o e=>
 ⟨I.base.keep b o (I.ok.bs b o e).1 (I.ok.bs b o e).2 (I.ok.Wo e) (I.ok.rN b o e),I.base.free b o (I.ok.bs b o e).1 (I.ok.bs b o e).2 (I.ok.rN b o e)⟩
theorem aE.bk(I:aE X ae σ H s):∀b o,X.base.get? b=some o->s.heap.get? b=some o:=fun b o e=>(I.bs b o e).1
theorem aE.mod(I:aE X ae σ H s):Mod X.K X.mg X.base:=I.ok.mod
theorem aE.pV(I:aE X ae σ H s):X.K.In s.heap:=I.ok.mod.QK.keeps I.bk
theorem aE.fr(I:aE X ae σ H s):∃m,Fr X.base X.env.locals s.heap m:=
 let ⟨m,hn,_⟩:=I.loc
 ⟨m,hn,I.bk,aZ I.ok.I0 I.ok.above⟩
theorem aE.lt(I:aE X ae σ H s):X.env.locals<s.heap.objs.size:=let ⟨_,hn,_⟩:=I.loc;hn.lt
theorem aE.sz(I:aE X ae σ H s):X.s₀.heap.objs.size<=s.heap.objs.size:=aZ I.ok.above (jl I.lt)
theorem aE.Wp(I:aE X ae σ H s)(h:s.heap.objs.size<=a):a∉X.fs:=fun hb=>by
 obtain⟨_,o,ho,_⟩:=I.ok.nA.mem hb;exact absurd (bK (aM ho) (aZ I.sz h)) (hX _)
theorem aE.Np(I:aE X ae σ H s):∀x c,X.env.cells.lookup x=some c->c≠X.env.locals:=fun x c e z=>by
 obtain⟨v,o,ho,hd⟩:=I.cell x c e;obtain⟨m,⟨o',es,ep,zN,Rt,_⟩,_⟩:=I.loc;rw[z,zN] at ho;cases ho;rw[Rt] at hd;cases hd
theorem aE.nA(I:aE X ae σ H s):s.heap.FunFrames X.base X.outer:=by
 have all:∀ (l:List Env),(∀b∈oZ l,b∈X.fs)->X.s₀.heap.FunFrames X.base l->s.heap.FunFrames X.base l:=by
  intro l;induction l with
  |nil=>intro _ _;trivial
  |cons env r ih=>
   intro hs hl;obtain⟨hk,⟨L,o,hf,hn,ho,hd⟩,hr⟩:=hl;have hL:L∈X.fs:=hs L (by unfold oZ;rw[y4,hf];exact bN);obtain⟨sl,e⟩:=I.base.slot L o ho (I.ok.Jw L hL) hL fun z=>I.ok.Jv L z hL;exact⟨hk,⟨L,_,hf,hn,e,hd⟩,ih (fun b hb=>hs b (by unfold oZ;rw[y4,hf];exact bL _ hb)) hr⟩
 exact all X.outer (fun _ hb=>hb) I.ok.nA
theorem aE.stack(I:aE X ae σ H s):s.heap.FunFrames X.base X.stack:=by
 rcases I.ok.IZ with e|⟨e,hf⟩
 .rw[e];exact I.nA
 .rw[e];obtain⟨m,hn,_⟩:=I.loc;refine .cons (by rw[I.ok.kind];decide) hf hn ?_ I.nA;exact re (aZ I.ok.I0 I.ok.above)
theorem aE.rO(I:aE X ae σ H s):∀b∈oZ X.stack,b∈X.env.locals::X.fs:=fun b hb=>by
 rcases I.ok.IZ with e|⟨e,hf⟩
 .rw[e] at hb;exact bL _ hb
 .rw[e] at hb;unfold oZ at hb;rw[y4,hf] at hb;exact hb
theorem aE.vW(I:aE X ae σ H s):∀b∈oZ X.stack,H b=none:=fun b hb=>by
 rcases a7.mp (I.rO b hb) with e|hb
 .rw[e];exact I.free
 .obtain⟨_,o,ho,_⟩:=I.ok.nA.mem hb;exact I.base.free b o ho (I.ok.Jw b hb) fun z=>I.ok.Jv b z hb
theorem aE.step{g':Array GenState}{t':Nat}{d':Drawn}{ch:List Addr}(I:aE X ae σ H s)(I_:∀b∈ch,(b∈X.ex\/X.s₀.heap.objs.size<=b)/\b≠X.env.locals/\(∀x c,X.env.cells.lookup x=some c->c≠b)/\∀p∈X.pn++ae,p.1≠b)(keep:∀b o,b≠X.env.locals->b∉X.fs->b∉ch->s.heap.get? b=some o->H b=none->h'.get? b=some o)(slot:∀b o,b≠X.env.locals->b∈X.fs->b∉ch->s.heap.get? b=some o->H b=none->∃sl,h'.get? b=some { o with slots:=sl })(free:∀b o,b∉ch->s.heap.get? b=some o->H b=none->H' b=none)(there:∀b o,b∉ch->s.heap.get? b=some o->∃o',h'.get? b=some o')(mq:∀b xs,H b=some (.tup xs)->H' b=some (.tup xs))(oX:∀b o u,H b=some (.mm o u)->H' b=some (.mm o u))(oY:∀b ps,H b=some (.on ps)->∃more,H' b=some (.on (ps++more)))(ns:∀m,s.heap.Ns X.env.locals m->h'.Ns X.env.locals m)(bU:jY X.prog X.w H' h')(hg:AllBare g'):
  aE X ae σ H' { s with heap:=h',gens:=g',drawn:=d',toks:=t' }:=by
 have neL:∀b o,X.s₀.heap.get? b=some o->b≠X.env.locals:=fun b o e=>aT (bK (aM e) I.ok.above);have VB:∀b o,X.s₀.heap.get? b=some o->b∉X.ex->b∉ch:=fun b o e hx hb=>by
  rcases(I_ b hb).1 with z|z
  .exact hx z
  .exact absurd (bK (aM e) z) (hX _)
 have Mf:∀x c,X.env.cells.lookup x=some c->∀v,s.heap.IsCell c v->h'.IsCell c v:=fun x c e v ⟨o,ho,hd⟩=>by
  have Ru:c∉ch:=fun z=>(I_ c z).2.2.1 x c e rfl;by_cases hc:c∈X.fs
  .obtain⟨sl,q⟩:=slot c o (I.Np x c e) hc Ru ho (I.lO x c e);exact⟨_,q,hd⟩
  .exact⟨o,keep c o (I.Np x c e) hc Ru ho (I.lO x c e),hd⟩
 refine⟨I.ok,I.os,hg,⟨fun b o e n hb hx=>?_,fun b o e n hb hx=>?_,fun b o e n hx=>?_,fun b o e hx=>?_,fun b xs e=>mq b xs (I.base.mq b xs e),fun b o xs e=>oX b o xs (I.base.oX b o xs e),fun b ps e=>?_⟩,?_,fun x c e=>?_,?_,fun x c e=>?_,fun p hp=>?_,bU,I.len⟩
 .exact keep b o (neL b o e) hb (VB b o e hx) (I.base.keep b o e n hb hx) (I.base.free b o e n hx)
 .obtain⟨sl,e1⟩:=I.base.slot b o e n hb hx;obtain⟨Wq,e2⟩:=slot b _ (neL b o e) hb (VB b o e hx) e1 (I.base.free b o e n hx);exact⟨Wq,e2⟩
 .obtain⟨o',e1⟩:=I.base.there b o e hx;exact free b o' (VB b o e hx) e1 (I.base.free b o e n hx)
 .obtain⟨o',e1⟩:=I.base.there b o e hx;exact there b o' (VB b o e hx) e1
 .obtain⟨m1,e1⟩:=I.base.oY b ps e;obtain⟨m2,e2⟩:=oY b _ e1;exact⟨m1++m2,by rw[e2,Array.append_assoc]⟩
 .obtain⟨m,hn,hl⟩:=I.loc;refine⟨m,ns m hn,fun i x v e1 e2 e3=>?_⟩;obtain⟨u,r,l⟩:=hl i x v e1 e2 e3;refine⟨u,r,?_⟩;rcases l with l|⟨k,c,e,z⟩
  .exact .inl l
  .exact .inr ⟨k,c,e,Mf x c e _ z⟩
 .obtain⟨v,z⟩:=I.cell x c e;exact⟨v,Mf x c e v z⟩
 .obtain⟨m,⟨o,_,_,ho,_⟩,_⟩:=I.loc;exact free _ o (fun z=>(I_ _ z).2.1 rfl) ho I.free
 .obtain⟨v,o,ho,hd⟩:=I.cell x c e;exact free c o (fun z=>(I_ c z).2.2.1 x c e rfl) ho (I.lO x c e)
 .obtain⟨e,n,ne,nf,d⟩:=I.pin p hp;have Ru:p.1∉ch:=fun z=>(I_ p.1 z).2.2.2 p hp rfl;exact⟨keep p.1 p.2 ne nf Ru e n,free p.1 p.2 Ru e n,ne,nf,d⟩
theorem aE.un{t':Nat}(I:aE X ae σ H s)(u:Un X.fs [] H H' s.heap h')(bU:jY X.prog X.w H' h'):aE X ae σ H' { s with heap:=h',toks:=t' }:=by
 obtain⟨m,⟨o,es,ep,ho,r⟩,_⟩:=id I.loc;obtain⟨sl,hL⟩:=u.any ho I.free (by simp);exact I.step (g':=s.gens) (d':=s.drawn) (ch:=[]) (fun _ z=>nomatch z) (fun b o _ hb _ e n=>u.keep b o e n hb (by simp)) (fun b o _ hb _ e n=>u.slot b o e n hb (by simp)) (fun b o _ e n=>u.free b o e n (by simp)) (fun b o _ e=>u.there b o e (by simp)) u.mq u.oX u.oY (fun m' hm=>by
  obtain⟨o',es',QL,zN,r'⟩:=hm;rw[ho] at zN;cases zN;exact⟨_,es',QL,hL,r'⟩) bU I.bare
theorem aE.call{g':Array GenState}{t':Nat}{d':Drawn}{ch:List Addr}(I:aE X ae σ H s)(u:Un (oZ X.stack) ch H H' s.heap h')(bU:jY X.prog X.w H' h')(hg:AllBare g')(I_:∀b∈ch,(b∈X.ex\/X.s₀.heap.objs.size<=b)/\b≠X.env.locals/\(∀x c,X.env.cells.lookup x=some c->c≠b)/\∀p∈X.pn++ae,p.1≠b):
  aE X ae σ H' { s with heap:=h',gens:=g',drawn:=d',toks:=t' }:=by
 obtain⟨m,⟨o,es,ep,ho,r⟩,_⟩:=id I.loc;obtain⟨sl,hL⟩:=u.any ho I.free fun z=>(I_ _ z).2.1 rfl;exact I.step (ch:=ch) I_ (fun b o hL hb hc e n=>u.keep b o e n (fun z=>(a7.mp (I.rO b z)).elim hL hb) hc) (fun b o _ _ hc e n=>u.any e n hc) (fun b o hc e n=>u.free b o e n hc) (fun b o hc e=>u.there b o e hc) u.mq u.oX u.oY (fun m' hm=>by
  obtain⟨o',es',QL,zN,r'⟩:=hm;rw[ho] at zN;cases zN;exact⟨_,es',QL,hL,r'⟩) bU hg
theorem aE.turned{t':Nat}{it:Addr}(I:aE X ae σ H s)(k:∀b o,b≠it->s.heap.get? b=some o->h'.get? b=some o)(hn:H it=none)(hL:it≠X.env.locals)(h1:it∈X.ex\/X.s₀.heap.objs.size<=it)(h2:∀x c,X.env.cells.lookup x=some c->c≠it)(h3:∀p∈X.pn++ae,p.1≠it):aE X ae σ H { s with heap:=h',toks:=t' }:=by
 have Mg:∀b u,H b=some u->b≠it:=fun b u e z=>by rw[z,hn] at e;cases e
 refine I.step (g':=s.gens) (d':=s.drawn) (ch:=[it]) (fun b hb=>?_) (fun b o _ _ hc e _=>k b o (fun z=>hc (by simp[z])) e) (fun b o _ _ hc e _=>⟨o.slots,k b o (fun z=>hc (by simp[z])) e⟩) (fun _ _ _ _ n=>n)
  (fun b o hc e=>⟨o,k b o (fun z=>hc (by simp[z])) e⟩) (fun _ _ e=>e) (fun _ _ _ e=>e) (fun b ps e=>⟨#[],by rw[e];simp⟩) (fun m hm=>?_) (fun b u e=>?_) I.bare
 .have e:b=it:=by simpa using hb
  subst e;exact⟨h1,hL,h2,h3⟩
 .obtain⟨o,es,ep,ho,r⟩:=hm;exact⟨o,es,ep,k _ o (bE hL) ho,r⟩
 .refine(I.bU b u e).oW (fun c v hc q=>k c v ?_ q) (fun _ q=>q) fun _ _ q=>q;rcases hc with z|z
  .rw[z];exact Mg b u e
  .exact Mg c _ z
theorem aE.tok(I:aE X ae σ H s)(t:Nat):aE X ae σ H { s with toks:=t }:=I.un (h':=s.heap) (t':=t) Un.refl I.bU
theorem aE.kept(I:aE X ae σ H s)(k:∀b u,s.heap.get? b=some u->h'.get? b=some u):aE X ae σ H { s with heap:=h',toks:=t' }:=I.un (Un.kept k) (I.bU.kept k)
theorem aE.laid(I:aE X ae σ H s)(k:∀b u,s.heap.get? b=some u->h'.get? b=some u)(hp:s.heap.objs.size<=a)(new:bX X.prog X.w (upd H a o) h' a o):
  aE X ae σ (upd H a o) { s with heap:=h',toks:=t' }:=I.un (Un.laid k hp (I.bU.fresh hp)) (I.bU.laid k hp new)
theorem aE.write(I:aE X ae σ H s)(mu:Rn (H x))(he:e=x\/H e=some (.own x))(k:∀b u,b≠e->s.heap.get? b=some u->h'.get? b=some u)(QJ:∃u,h'.get? e=some u)(new:bX X.prog X.w (upd H x o) h' x o):aE X ae σ (upd H x o) { s with heap:=h',toks:=t' }:=I.un (Un.write mu he k QJ) (I.bU.write mu he k QJ new)
theorem aE.Bj(I:aE X ae σ H s)(h:∀p∈Rv,s.heap.get? p.1=some p.2/\H p.1=none/\p.1≠X.env.locals/\p.1∉X.fs/\∀v,p.2.data≠.cell v):aE X Rv σ H s:=
 ⟨I.ok,I.os,I.bare,I.base,I.loc,I.cell,I.free,I.lO,fun p hp=>(cR.mp hp).elim (fun z=>I.pin p (ny _ z)) (h p),I.bU,I.len⟩
theorem xk{N:List Str}(hN:N.Nodup){i j:Nat}{x:Str}(a:N[i]?=some x)(b:N[j]?=some x):i=j:=by
 obtain⟨h1,e1⟩:=cQ.mp a;obtain⟨h2,e2⟩:=cQ.mp b;exact(List.getElem_inj hN).mp (e1.trans e2.symm)
theorem o0{M:Model}{A:Around}{E:Value->Shared->Prop}{i:Nat}{x:Str}{v:V}{u:Value}{Q:Unit->Shared->Prop}(I:aE X ae σ H s)(hN:X.N.Nodup)(hi:X.N[i]?=some x)(hx:Rq X.env.scope x)(r:bn v u)(h:∀s',aE X ae (σ.set i (some v)) H s'->(∃a,Heap.SameBut a s.heap s'.heap/\(a=X.env.locals\/X.env.cells.lookup x=some a))->Q () s')(hf:X.fn x=true\/X.env.scope.names.lookup x=some .local:=by first|exact .inl rfl|exact .inr rfl|assumption):wpAny M A (storeName X.env x u) Q E s:=by
 obtain⟨m,hn,hl⟩:=id I.loc;have Wr:(X.env.scope.kind==.class||(X.env.scope.kind==.module&&X.env.locals != X.env.globals))=false:=by rw[I.ok.kind];rfl
 have hiσ:i<σ.length:=by rw[I.len];exact(cQ.mp hi).1
 have Np:=I.Np;have Bk:∀ {a:Addr} {h':Heap},(∃o,s.heap.get? a=some o/\H a=none)->Heap.SameBut a s.heap h'->jY X.prog X.w H h':=fun {a h'} ha hs b ob e=>by
  obtain⟨_,_,Mh⟩:=ha;refine(I.bU b ob e).oW (fun c w' hc q=>(hs.2 c ?_).trans q) (fun _ q=>q) fun _ _ q=>q;rintro rfl;rcases hc with rfl|hc
  .rw[Mh] at e;cases e
  .rw[Mh] at hc;cases hc
 rcases hx with hk|hk
 .refine wpAny_storeName_local hk hn (fun h' VC hs=>?_) Wr;obtain⟨oL,_,_,EJ,_⟩:=id hn;refine h _ ⟨I.ok,I.os,I.bare,⟨fun b o e n hb hx=>?_,fun b o e n hb hx=>?_,I.base.free,fun b o e hx=>?_,I.base.mq,I.base.oX,I.base.oY⟩,⟨_,VC,fun j y v' e1 e2 e3=>?_⟩,fun y c e=>?_,I.free,I.lO,fun p hp=>?_,Bk ⟨oL,EJ,I.free⟩ hs,by simpa using I.len⟩ ⟨_,hs,.inl rfl⟩
  .exact(hs.2 b (aT (bK (aM e) I.ok.above))).trans (I.base.keep b o e n hb hx)
  .obtain⟨sl,e1⟩:=I.base.slot b o e n hb hx;exact⟨sl,(hs.2 b (aT (bK (aM e) I.ok.above))).trans e1⟩
  .obtain⟨o',e1⟩:=I.base.there b o e hx;exact⟨o',(hs.2 b (aT (bK (aM e) I.ok.above))).trans e1⟩
  .by_cases hj:j=i
   .subst hj;rw[hi] at e1;cases e1;rw[qZ hiσ] at e2;cases e2;exact⟨u,r,.inl ⟨hk,by simp⟩⟩
   .rw[vo (bE hj)] at e2;obtain⟨u',r',q⟩:=hl j y v' e1 e2 e3;refine⟨u',r',?_⟩;rcases q with ⟨k,e⟩|⟨k,c,e,z⟩
    .refine .inl ⟨k,?_⟩;have:y≠x:=fun e=>hj (xk hN e1 (e ▸ hi));simp[this,e]
    .exact .inr ⟨k,c,e,z.sameBut hs (Np y c e)⟩
  .obtain⟨w',z⟩:=I.cell y c e;exact⟨w',z.sameBut hs (Np y c e)⟩
  .obtain⟨e,n,ne,nf,d⟩:=I.pin p hp;exact⟨(hs.2 p.1 ne).trans e,n,ne,nf,d⟩
 .have Ws:X.fn x=true:=by
   rcases hf with z|z
   .exact z
   .rw[z] at hk;cases hk
  obtain⟨c,hc⟩:=I.ok.has x (.inl hk);obtain⟨w',z⟩:=I.cell x c hc;refine wpAny_storeName_cell I.ok.kind hk hc z (fun h' Nq hs=>?_);obtain⟨oc,VD,Wt⟩:=id z;refine h { s with heap:=h' } ⟨I.ok,I.os,I.bare,⟨fun b o e n hb hx=>?_,fun b o e n hb hx=>?_,I.base.free,fun b o e hx=>?_,I.base.mq,I.base.oX,I.base.oY⟩,⟨m,hn.sameBut hs (bE (Np x c hc)),fun j y v' e1 e2 e3=>?_⟩,fun y c' e=>?_,I.free,I.lO,fun p hp=>?_,Bk ⟨oc,VD,I.lO x c hc⟩ hs,by simpa using I.len⟩ ⟨c,hs,.inr hc⟩
  .exact(hs.2 b (aT (bK (aM e) (I.ok.Rr x c Ws hc)))).trans (I.base.keep b o e n hb hx)
  .obtain⟨sl,e1⟩:=I.base.slot b o e n hb hx;exact⟨sl,(hs.2 b (aT (bK (aM e) (I.ok.Rr x c Ws hc)))).trans e1⟩
  .obtain⟨o',e1⟩:=I.base.there b o e hx;exact⟨o',(hs.2 b (aT (bK (aM e) (I.ok.Rr x c Ws hc)))).trans e1⟩
  .by_cases hj:j=i
   .subst hj;rw[hi] at e1;cases e1;rw[qZ hiσ] at e2;cases e2;exact⟨u,r,.inr ⟨.inl hk,c,hc,Nq⟩⟩
   .rw[vo (bE hj)] at e2;obtain⟨u',r',q⟩:=hl j y v' e1 e2 e3;refine⟨u',r',?_⟩;rcases q with q|⟨k,c',e,z'⟩
    .exact .inl q
    .refine .inr ⟨k,c',e,z'.sameBut hs ?_⟩;rintro rfl;exact hj (xk hN e1 (I.ok.inj _ _ _ e hc ▸ hi))
  .by_cases hcc:c'=c
   .subst hcc;exact⟨_,Nq⟩
   .obtain⟨w2,z2⟩:=I.cell y c' e;exact⟨w2,z2.sameBut hs hcc⟩
  .obtain⟨e,n,ne,nf,d⟩:=I.pin p hp;refine⟨(hs.2 p.1 ?_).trans e,n,ne,nf,d⟩;intro q;rw[q,VD] at e;have q':oc=p.2:=bi e;exact d w' (by rw[<-q'];exact Wt)
theorem kC(I:aE X ae σ H s)(hN:X.N.Nodup)(hi:X.N[i]?=some x)(hx:Rq X.env.scope x)(r:bn v u)(h:∀s',aE X ae (σ.set i (some v)) H s'->Q () s')(hf:X.fn x=true\/X.env.scope.names.lookup x=some .local:=by first|exact .inl rfl|exact .inr rfl|assumption):wpAny M A (storeName X.env x u) Q E s:=
 o0 I hN hi hx r (fun s' I' _=>h s' I') hf
theorem aE.Rx(I:aE X ae σ H s)(ho:s'.os=s.os)(u:Un (oZ X.stack) ch H H' s.heap s'.heap)(bU:jY X.prog X.w H' s'.heap)(hg:AllBare s'.gens)(I_:∀b∈ch,(b∈X.ex\/X.s₀.heap.objs.size<=b)/\b≠X.env.locals/\(∀x c,X.env.cells.lookup x=some c->c≠b)/\∀p∈X.pn++ae,p.1≠b):aE X ae σ H' s':=by
 obtain⟨h',g',d',t',o'⟩:=s';have e:o'=s.os:=ho;subst e;exact I.call (g':=g') (t':=t') (d':=d') u bU hg I_
end
abbrev XK:=Value->Option Addr->Hp->Prop
abbrev St:=List (Option V)
abbrev VK:=V->Hp->Prop
abbrev TE:=St->Hp->VK->Prop
abbrev TT:=St->Hp->(Bool->Hp->Prop)->Prop
abbrev TA:=St->Hp->(List V->Hp->Prop)->Prop
structure vX where
 nx:St->Hp->Prop
 rt:VK
 bk:St->Hp->Prop:=fun _ _=>False
 ct:St->Hp->Prop:=fun _ _=>False
abbrev TS:=vX->St->Hp->Prop
def EP(X:Cx)(ae:List (Addr×Obj))(σ:St)(Q:VK)(u:Value)(s':Shared):Prop:=∃v H',aE X ae σ H' s'/\bn v u/\Q v H'
def TP(X:Cx)(ae:List (Addr×Obj))(σ:St)(Q:Bool->Hp->Prop)(b:Bool)(s':Shared):Prop:=∃H',aE X ae σ H' s'/\Q b H'
def AP(X:Cx)(ae:List (Addr×Obj))(σ:St)(Q:List V->Hp->Prop)(us:List Value)(s':Shared):Prop:=∃vs H',aE X ae σ H' s'/\aP vs us/\Q vs H'
def SP(X:Cx)(ae:List (Addr×Obj))(D:vX)(f:Flow)(s':Shared):Prop:=
 match f with
 |.next=>∃σ' H',aE X ae σ' H' s'/\D.nx σ' H'
 |.brk=>∃σ' H',aE X ae σ' H' s'/\D.bk σ' H'
 |.cont=>∃σ' H',aE X ae σ' H' s'/\D.ct σ' H'
 |.ret u=>∃v σ' H',aE X ae σ' H' s'/\bn v u/\D.rt v H'
def PE(X:Cx)(e:Expr)(t:TE):Prop:=
 ∀ (ae:List (Addr×Obj)) (s:Shared) (σ:St) (H:Hp) (Q:VK),aE X ae σ H s->t σ H Q->wpAny (model X.prog X.w) X.A (eval e X.env) (EP X ae σ Q) X.xe s
def PT(X:Cx)(e:Expr)(t:TT):Prop:=
 ∀ (ae:List (Addr×Obj)) (s:Shared) (σ:St) (H:Hp) (Q:Bool->Hp->Prop),aE X ae σ H s->t σ H Q->wpAny (model X.prog X.w) X.A (isTrue e X.env (eval e X.env)) (TP X ae σ Q) X.xe s
def PW(X:Cx)(e:Expr)(t:TT):Prop:=
 ∀ (Bm:Sem Value) (ae:List (Addr×Obj)) (s:Shared) (σ:St) (H:Hp) (Q:Bool->Hp->Prop),aE X ae σ H s->t σ H Q->wpAny (model X.prog X.w) X.A (isTrue e X.env Bm) (TP X ae σ Q) X.xe s
theorem PW.pt(h:PW X e t):PT X e t:=h _
def PA(X:Cx)(es:List Expr)(t:TA):Prop:=
 ∀ (pos:Pos) (ae:List (Addr×Obj)) (s:Shared) (σ:St) (H:Hp) (Q:List V->Hp->Prop),aE X ae σ H s->t σ H Q->wpAny (model X.prog X.w) X.A (spliced (backTo pos (starEach es X.env))) (AP X ae σ Q) X.xe s
def PS(X:Cx)(st:Stmt)(t:TS):Prop:=
 ∀ (ae:List (Addr×Obj)) (s:Shared) (σ:St) (H:Hp) (D:vX),aE X ae σ H s->t D σ H->wpAny (model X.prog X.w) X.A (exec st X.env) (SP X ae D) X.xe s
def yA(X:Cx)(st:List Stmt)(t:TS):Prop:=
 ∀ (ae:List (Addr×Obj)) (s:Shared) (σ:St) (H:Hp) (D:vX),aE X ae σ H s->t D σ H->wpAny (model X.prog X.w) X.A (execs st X.env) (SP X ae D) X.xe s
theorem cj(h:wpAny M A t Q E s)(hQ:∀a s,Q a s->Q' a s):wpAny M A t Q' E s:=gs h hQ fun _ _ x=>x
section
variable {X:Cx}
def bf(i:Nat):TE:=fun σ H Q=>∃v,σ[i]?=some (some v)/\Q v H
def tC(v:V):TE:=fun _ H Q=>Q v H
theorem Nr(hN:X.N[i]?=some x)(hv:Rp X.env.scope x)(hd:(x==("__debug__":Str))=false:=by decide)(tK:(x==("__classdict__":Str))=false:=by decide):PE X (.Name x pos) (bf i):=by
 intro ae s σ H Q I h;obtain⟨v,e,h⟩:=h;obtain⟨m,hn,hl⟩:=I.loc;obtain⟨u,r,l⟩:=hl i x v hN e hv;have cK:EP X ae σ Q u s:=⟨v,H,I,r,h⟩
 rcases l with ⟨hk,hm⟩|⟨hk,c,hc,Bn⟩
 .exact oR (ze I.ok.kind hk hn hm cK) hd
 .rcases hk with hk|hk
  .exact oR (wpAny_loadName_cell I.ok.kind hk hc Bn cK) hd
  .exact oR (zj I.ok.kind hk hc Bn cK tK) hd
theorem aB{i j pos}:PE X (.Constant (.int i) j pos) (tC (.int i)):=fun _ _ _ H _ I h=>wpAny_Constant_int ⟨.int i,H,I.tok _,⟨_,rfl⟩,h⟩
theorem kD{b j pos}:PE X (.Constant (.bool b) j pos) (tC (.bl b)):=fun _ _ _ H _ I h=>Constant_bool ⟨.bl b,H,I,rfl,h⟩
theorem dC{j pos}:PE X (.Constant .none j pos) (tC .bA):=fun _ _ _ H _ I h=>Constant_none ⟨.bA,H,I,rfl,h⟩
theorem rP{x j pos}:PE X (.Constant (.str x) j pos) (tC (.str x)):=fun _ _ _ H _ I h=>Calls.Constant_str ⟨.str x,H,I.tok _,⟨_,rfl⟩,h⟩
def Gl(X:Cx)(x:Str):Prop:=X.env.kindOf x=some .globalImplicit
theorem qE(I:aE X ae σ H s)(hg:Gl X x)(hm:X.mg x=some u)(h:Q u s)(hd:(x==("__debug__":Str))=false:=by decide):wpAny (model X.prog X.w) X.A (eval (.Name x pos) X.env) Q E s:=
 Calls.Name_function_global I.ok.kind hg (Calls.loadGlobal_global (by rw[I.ok.glob];exact I.mod.glob.keeps I.bk) hm h) hd
theorem jq(I:aE X ae σ H s)(hg:Gl X x)(hm:X.mg x=none)(hv:bootBuiltins x=some u)(h:Q u s)(hn:x≠"__name__":=by decide)(hd:(x==("__debug__":Str))=false:=by decide):wpAny (model X.prog X.w) X.A (eval (.Name x pos) X.env) Q E s:=by
 obtain⟨mb,h1,h2⟩:=I.mod.blt;exact Calls.Name_function_global I.ok.kind hg (Calls.loadGlobal_builtin (by rw[I.ok.glob];exact I.mod.glob.keeps I.bk) hm (by rw[I.ok.blt];exact h1.keeps I.bk) ((h2 x hn).trans hv) h) hd
theorem jr(hg:Gl X x)(hm:X.mg x=some u)(r:bn v u)(hd:(x==("__debug__":Str))=false:=by decide):PE X (.Name x pos) (tC v):=
 fun _ _ _ H _ I h=>qE I hg hm ⟨v,H,I,r,h⟩ hd
theorem js(hg:Gl X x)(hm:X.mg x=none)(hv:bootBuiltins x=some u)(r:bn v u)(hn:x≠"__name__":=by decide)(hd:(x==("__debug__":Str))=false:=by decide):PE X (.Name x pos) (tC v):=
 fun _ _ _ H _ I h=>jq I hg hm hv ⟨v,H,I,r,h⟩ hn hd
variable {a b:Expr} {ta tb:TE} {pos:Pos}
def PC(X:Cx)(op:CmpOp)(a b:Expr)(t:TE):Prop:=
 ∀ (ae:List (Addr×Obj)) (s:Shared) (σ:St) (H:Hp) (Q:VK),aE X ae σ H s->t σ H Q->
  wpAny (model X.prog X.w) X.A (eval a X.env) (fun v s₁=>wpAny (model X.prog X.w) X.A (eval b X.env) (fun u s₂=>wpAny (model X.prog X.w) X.A (compareOp op v u) (EP X ae σ Q) X.xe s₂) X.xe s₁) X.xe s
def tB(t:TE):TT:=fun σ H Q=>t σ H fun x H1=>∃c,x=.bl c/\Q c H1
theorem Fc(h:PC X op a b t)(h1:behindInMarks op b=false:=by first|exact Ry _ (by decide) (by decide)|rfl):PT X (.Compare a [op] [b] pos) (tB t):=by
 intro ae s σ H Q I hw;refine wpAny_isTrue_Compare1 (cj (h ae s σ H _ I hw) fun v s1 h1=>cj h1 fun u s2 h2=>cj h2 fun c s3 ⟨x,H1,I1,r1,q1⟩=>?_) h1;obtain⟨d,rfl,q⟩:=q1;cases r1;exact kd ⟨H1,I1,q⟩
theorem c_(h:PE X e t)(he:∀Bm,isTrue e X.env Bm=(do let v <- Bm;standAt e.pos;holding [v] (truthy v)):=by intro _;rfl):PT X e (tB t):=by
 intro ae s σ H Q I hw;refine isTrue_plain (cj (h ae s σ H _ I hw) fun v s1 ⟨x,H1,I1,r1,q1⟩=>?_) (he _);obtain⟨d,rfl,q⟩:=q1;cases r1;exact kd ⟨H1,I1,q⟩
variable {tA VE:TT} {bV:List Expr}
def Wu(t u:TT):TT:=fun σ H Q=>t σ H fun c H1=>if c=true then u σ H1 Q else Q false H1
def tOr(t u:TT):TT:=fun σ H Q=>t σ H fun c H1=>if c=true then Q true H1 else u σ H1 Q
def Rz(t:TT):TT:=fun σ H Q=>t σ H fun c H1=>Q (!c) H1
theorem Jx(ha:PT X a tA):PW X (.BoolOp .And [a] pos) tA:=by
 intro wh ae s σ H Q I h;refine isTrue_and (cj (ha ae s σ H Q I h) fun c s1 e=>?_);cases c with
 |true=>exact isTrue_and_nil e
 |false=>exact e
theorem rQ(ha:PT X a tA):PW X (.BoolOp .Or [a] pos) tA:=by
 intro wh ae s σ H Q I h;refine isTrue_or (cj (ha ae s σ H Q I h) fun c s1 e=>?_);cases c with
 |false=>exact isTrue_or_nil e
 |true=>exact e
theorem Nt(ha:PT X a tA)(hb:PW X (.BoolOp .And (b::bV) pos) VE):PW X (.BoolOp .And (a::b::bV) pos) (Wu tA VE):=by
 intro wh ae s σ H Q I h;refine isTrue_and (cj (ha ae s σ H _ I h) fun c s1 ⟨H1,I1,q1⟩=>?_);cases c with
 |true=>exact hb wh ae s1 σ H1 Q I1 q1
 |false=>exact⟨H1,I1,q1⟩
theorem xm(ha:PT X a tA)(hb:PW X (.BoolOp .Or (b::bV) pos) VE):PW X (.BoolOp .Or (a::b::bV) pos) (tOr tA VE):=by
 intro wh ae s σ H Q I h;refine isTrue_or (cj (ha ae s σ H _ I h) fun c s1 ⟨H1,I1,q1⟩=>?_);cases c with
 |true=>exact⟨H1,I1,q1⟩
 |false=>exact hb wh ae s1 σ H1 Q I1 q1
theorem de(ha:PT X a tA):PT X (.UnaryOp .Not a pos) (Rz tA):=by
 intro ae s σ H Q I h;exact isTrue_not (ha ae s σ H (fun c H1=>Q (!c) H1) I h)
def RA(ta tb:TE):TE:=fun σ H Q=>ta σ H fun x H1=>∃c,x=.bl c/\if c=true then tb σ H1 Q else Q (.bl false) H1
def RB(ta:TE):TE:=fun σ H Q=>ta σ H fun x H1=>∃c,x=.bl c/\Q (.bl (!c)) H1
theorem o5{op}(h:PE X a t):PE X (.BoolOp op [a] pos) t:=fun ae s σ H Q I hw=>BoolOp_one (h ae s σ H Q I hw)
theorem mr(ha:PE X a ta)(hb:PE X (.BoolOp .And (b::bV) pos) tb):PE X (.BoolOp .And (a::b::bV) pos) (RA ta tb):=by
 intro ae s σ H Q I h;refine BoolOp_and (cj (ha ae s σ H _ I h) fun v s1 ⟨x,H1,I1,r1,q1⟩=>?_);obtain⟨c,rfl,q1⟩:=q1;cases r1;refine kd ?_;cases c with
 |true=>exact hb ae s1 σ H1 Q I1 q1
 |false=>exact⟨.bl false,H1,I1,rfl,q1⟩
theorem Nu(ha:PE X a ta):PE X (.UnaryOp .Not a pos) (RB ta):=by
 intro ae s σ H Q I h;refine UnaryOp_ (cj (ha ae s σ H _ I h) fun v s1 ⟨x,H1,I1,r1,q1⟩=>?_);obtain⟨c,rfl,q1⟩:=q1;cases r1;exact not_of (kd ⟨.bl (!c),H1,I1,rfl,q1⟩)
def tIf(t:TT)(ta tb:TE):TE:=fun σ H Q=>t σ H fun c H1=>if c=true then ta σ H1 Q else tb σ H1 Q
theorem kF(hc:PT X c tA)(ha:PE X a ta)(hb:PE X b tb):PE X (.IfExp c a b pos) (tIf tA ta tb):=by
 intro ae s σ H Q I h;refine wpAny_IfExp (cj (hc ae s σ H _ I h) fun d s1 ⟨H1,I1,q1⟩=>?_);cases d with
 |true=>exact ha ae s1 σ H1 Q I1 q1
 |false=>exact hb ae s1 σ H1 Q I1 q1
end
def bh(K:PySem.W.Frag)(H:Hp)(a:Addr)(xs:List V):Prop:=
 Rd H a (.lst xs)\/
  ∃ (o:Obj) (its:Array Value) (n:Nat),K.lookup a=some o/\o.cls=.type "list"/\o.dict=none/\o.data=.seq its n/\its.size<=sizeLine/\aP xs its.toList
def bz(K:PySem.W.Frag)(H:Hp)(a:Addr)(xs:List V):Prop:=
 Rd H a (.tup xs)\/
  ∃ (o:Obj) (its:Array Value) (n:Nat),K.lookup a=some o/\o.cls=.type "tuple"/\o.data=.seq its n/\its.size<=sizeLine/\aP xs its.toList
def Wv:Value->Option V
 |.none=>some .bA
 |.bool b=>some (.bl b)
 |.int i _=>some (.int i)
 |.str x _=>some (.str x)
 |.bytes b _=>some (.EI b)
 |.float b _=>some (.Nn b)
 |.ref a=>some (.ref a)
 |.type n=>some (.ty n)
 |_=>none
theorem bn.abs(r:bn x u):Wv u=some x:=by
 cases x with
 |bA=>cases r;rfl
 |bl _=>cases r;rfl
 |int _=>obtain⟨t,rfl⟩:=r;rfl
 |str _=>obtain⟨t,rfl⟩:=r;rfl
 |EI _=>obtain⟨t,rfl⟩:=r;rfl
 |Nn _=>obtain⟨t,rfl⟩:=r;rfl
 |ref _=>cases r;rfl
 |ty _=>cases r;rfl
theorem bn.inj(r:bn x u)(q:bn y u):x=y:=bi (r.abs.symm.trans q.abs)
theorem aP.inj:∀ {xs ys:List V} {us:List Value},aP xs us->aP ys us->xs=ys
 |_,_,_,.nil,.nil=>rfl
 |_,_,_,.cons r t,.cons r' t'=>by rw[r.inj r',aP.inj t t']
section
variable {X:Cx} {ae:List (Addr×Obj)} {σ:St} {H:Hp} {s:Shared} {a:Addr} {xs ys:List V}
theorem bh.of{K:PySem.W.Frag}(h:H a=some (.lst xs)):bh K H a xs:=.inl (.inl h)
theorem bz.of{K:PySem.W.Frag}(h:H a=some (.tup xs)):bz K H a xs:=.inl (.inl h)
theorem aE.list(I:aE X ae σ H s)(h:bh X.K H a xs):∃its:List Value,aP xs its/\PlainL s.heap a its.toArray/\xs.length<=sizeLine:=by
 rcases h with h|⟨o,its,n,hk,hc,hd,hs,hz,r⟩
 .obtain⟨z,its,n,r,e⟩:=h.ok I.bU;exact⟨its,r,⟨_,n,e,rfl,rfl,rfl⟩,z⟩
 .refine⟨its.toList,r,⟨o,n,I.pV a o hk,hc,hd,by simpa using hs⟩,?_⟩;have e:=r.length;simp only[eA] at e;lia
theorem aE.tuple(I:aE X ae σ H s)(h:bz X.K H a xs):∃its:List Value,aP xs its/\IsTup s.heap a its.toArray/\xs.length<=sizeLine:=by
 rcases h with h|⟨o,its,n,hk,hc,hs,hz,r⟩
 .obtain⟨z,its,r,p⟩:=h.ok I.bU;exact⟨its,r,p.tup,z⟩
 .refine⟨its.toList,r,⟨o,I.pV a o hk,hc,n,by simpa using hs⟩,?_⟩;have e:=r.length;simp only[eA] at e;lia
theorem aE.Fe(I:aE X ae σ H s)(h:bh X.K H a xs)(h':bh X.K H a ys):xs=ys:=by
 obtain⟨its,r,⟨o,n,e,_,_,d⟩,_⟩:=I.list h;obtain⟨its',r',⟨o',n',e',_,_,d'⟩,_⟩:=I.list h';rw[e] at e';cases e';rw[d] at d';injection d' with d1 _;have:its=its':=by simpa using congrArg Array.toList d1
 subst this;exact r.inj r'
theorem aE.fA(I:aE X ae σ H s)(h:bz X.K H a xs)(h':bz X.K H a ys):xs=ys:=by
 obtain⟨its,r,⟨o,e,_,n,d⟩,_⟩:=I.tuple h;obtain⟨its',r',⟨o',e',_,n',d'⟩,_⟩:=I.tuple h';rw[e] at e';cases e';rw[d] at d';injection d' with d1 _;have:its=its':=by simpa using congrArg Array.toList d1
 subst this;exact r.inj r'
end
abbrev Cx.wish(X:Cx)(E:Value->Shared->Prop):Cx:={ X with xe:=E }
abbrev Cx.Mi(X:Cx):Cx:=X.wish fun _ _=>False
theorem Cx.Ok.wish{X:Cx}(ok:X.Ok)(E:Value->Shared->Prop):(X.wish E).Ok:=
 ⟨ok.mod,ok.kind,ok.glob,ok.blt,ok.above,ok.inj,ok.has,ok.Rr,ok.hd,ok.frames,ok.IZ,ok.VA,ok.bs,ok.I0,ok.rN,ok.Jv,ok.nA,ok.Jw⟩
theorem Cx.Ok.kG{X:Cx}{E:Value->Shared->Prop}(ok:(X.wish E).Ok):X.Ok:=
 ⟨ok.mod,ok.kind,ok.glob,ok.blt,ok.above,ok.inj,ok.has,ok.Rr,ok.hd,ok.frames,ok.IZ,ok.VA,ok.bs,ok.I0,ok.rN,ok.Jv,ok.nA,ok.Jw⟩
section
variable {X:Cx} {ae:List (Addr×Obj)} {σ:St} {H:Hp} {s:Shared} {E:Value->Shared->Prop}
theorem aE.wish(I:aE X ae σ H s)(E:Value->Shared->Prop):aE (X.wish E) ae σ H s:=⟨I.ok.wish E,I.os,I.bare,I.base,I.loc,I.cell,I.free,I.lO,I.pin,I.bU,I.len⟩
theorem aE.kG(I:aE (X.wish E) ae σ H s):aE X ae σ H s:=⟨I.ok.kG,I.os,I.bare,I.base,I.loc,I.cell,I.free,I.lO,I.pin,I.bU,I.len⟩
theorem SP.kG(h:SP (X.wish E) ae D f s'):SP X ae D f s':=by
 cases f with
 |next=>obtain⟨σ',H',I,q⟩:=h;exact⟨σ',H',I.kG,q⟩
 |brk=>obtain⟨σ',H',I,q⟩:=h;exact⟨σ',H',I.kG,q⟩
 |cont=>obtain⟨σ',H',I,q⟩:=h;exact⟨σ',H',I.kG,q⟩
 |ret u=>obtain⟨v,σ',H',I,r,q⟩:=h;exact⟨v,σ',H',I.kG,r,q⟩
theorem yA.Mi{st:List Stmt}{t:TS}(h:yA X.Mi st t):yA X st t:=fun ae s σ H D I hw=>
 gs (h ae s σ H D (I.wish _) hw) (fun _ _ q=>q.kG) fun _ _ z=>False.elim z
end
section
variable {X:Cx} {st:Stmt} {bV:List Stmt} {t u:TS} {e:Expr} {te:TE} {pos:Pos}
def RC:TS:=fun D σ H=>D.nx σ H
def RD(t u:TS):TS:=fun D σ H=>t { D with nx:=u D } σ H
theorem aN:yA X [] RC:=fun _ _ σ H _ I h=>vK ⟨σ,H,I,h⟩
theorem ah(h1:PS X st t)(h2:yA X bV u):yA X (st::bV) (RD t u):=by
 intro ae s σ H D I h;refine wpAny_execs_cons (cj (h1 ae s σ H { D with nx:=u D } I h) fun f s1 q=>?_);cases f with
 |next=>
  obtain⟨σ',H',I',q⟩:=q;exact h2 ae s1 σ' H' D I' q
 |ret v=>exact q
 |brk=>exact q
 |cont=>exact q
theorem ak(h1:PS X st t):yA X [st] t:=by
 intro ae s σ H D I h;refine wpAny_execs_cons (cj (h1 ae s σ H D I h) fun f s1 q=>?_);cases f with
 |next=>exact vK q
 |ret v=>exact q
 |brk=>exact q
 |cont=>exact q
theorem aE.quiet(I:aE X ae σ H s):interactive X.env=false:=by simp[interactive,I.ok.kind]
def RE(te:TE):TS:=fun D σ H=>te σ H fun _ H1=>D.nx σ H1
theorem bq(he:PE X e te)(hs:swapsWith e none pos.line X.env=pure false:=by rfl):PS X (.Expr e pos) (RE te):=by
 intro ae s σ H D I h;exact wpAny_Expr_any (cj (he ae s σ H _ I h) fun v s1 ⟨x,H1,I1,r1,q1⟩=>⟨σ,H1,I1,q1⟩) I.quiet hs
def RF(te:TE):TS:=fun D σ H=>te σ H D.rt
theorem aI(he:PE X e te):PS X (.Return (some e) pos) (RF te):=by
 intro ae s σ H D I h;exact wpAny_Return_some (cj (he ae s σ H _ I h) fun v s1 ⟨x,H1,I1,r1,q1⟩=>⟨x,σ,H1,I1,r1,q1⟩)
def Ww(c:TT)(t u:TS):TS:=fun D σ H=>c σ H fun b H1=>if b=true then t D σ H1 else u D σ H1
theorem bW(hc:PT X c tc)(ha:yA X a t)(hb:yA X b u):PS X (.If c a b pos) (Ww tc t u):=by
 intro ae s σ H D I h;refine wpAny_If (cj (hc ae s σ H _ I h) fun d s1 ⟨H1,I1,q1⟩=>?_);cases d with
 |true=>exact ha ae s1 σ H1 D I1 q1
 |false=>exact hb ae s1 σ H1 D I1 q1
def Nv:TS:=fun _ _ _=>False
theorem cS:yA X sts Nv:=fun _ _ _ _ _ _ h=>h.elim
end
abbrev TG:=V->St->Hp->(St->Hp->Prop)->Prop
abbrev RG:=List V->St->Hp->(St->Hp->Prop)->Prop
def PG(X:Cx)(Nw:Expr)(t:TG):Prop:=
 ∀ (ae:List (Addr×Obj)) (s:Shared) (σ:St) (H:Hp) (v:V) (u:Value) (Q:St->Hp->Prop),aE X ae σ H s->bn v u->t v σ H Q->
  wpAny (model X.prog X.w) X.A (assign Nw X.env u) (fun _ s'=>∃σ' H',aE X ae σ' H' s'/\Q σ' H') X.xe s
def VF(X:Cx)(ts:List Expr)(t:RG):Prop:=
 ∀ (ae:List (Addr×Obj)) (s:Shared) (σ:St) (H:Hp) (vs:List V) (us:List Value) (Q:St->Hp->Prop),aE X ae σ H s->aP vs us->t vs σ H Q->
  wpAny (model X.prog X.w) X.A (assignInOrder ((assignEach ts X.env).map (·.2)) us) (fun _ s'=>∃σ' H',aE X ae σ' H' s'/\Q σ' H') X.xe s
abbrev Jy:=V->V->V->Hp->(Hp->Prop)->Prop
def Nx(X:Cx)(t:Jy):Prop:=
 ∀ (ae:List (Addr×Obj)) (s:Shared) (σ:St) (H:Hp) (o i v:V) (ov iv u:Value) (Q:Hp->Prop),aE X ae σ H s->bn o ov->bn i iv->bn v u->t o i v H Q->
  wpAny (model X.prog X.w) X.A (setItem ov iv u) (fun _ s'=>∃H',aE X ae σ H' s'/\Q H') X.xe s
abbrev RH:=V->V->Hp->VK->Prop
def RI(X:Cx)(op:Operator)(t:RH):Prop:=
 ∀ (ae:List (Addr×Obj)) (s:Shared) (σ:St) (H:Hp) (x y:V) (v u:Value) (Q:VK),aE X ae σ H s->bn x v->bn y u->t x y H Q->
  wpAny (model X.prog X.w) X.A (inplaceOp op v u) (EP X ae σ Q) X.xe s
section
variable {X:Cx} {pos:Pos}
def cq(i:Nat):TG:=fun v σ H Q=>Q (σ.set i (some v)) H
theorem au(hN:X.N.Nodup)(hi:X.N[i]?=some x)(hx:Rq X.env.scope x)(hf:X.fn x=true\/X.env.scope.names.lookup x=some .local:=by first|exact .inl rfl|exact .inr rfl|assumption):PG X (.Name x pos) (cq i):=by
 intro ae s σ H v u Q I r h;exact zD (kC I hN hi hx r (fun s' I'=>⟨_,H,I',h⟩) hf)
def Dd:RG:=fun vs σ H Q=>vs=[]/\Q σ H
def kH(t:TG)(u:RG):RG:=fun vs σ H Q=>∃v r,vs=v::r/\t v σ H fun σ' H'=>u r σ' H' Q
theorem eI:VF X [] Dd:=by
 intro ae s σ H vs us Q I r h;obtain⟨e,h⟩:=h;subst e;cases r;exact assignInOrder_nil ⟨σ,H,I,h⟩
theorem aR(h1:PG X e t)(h2:VF X es u)(hs:(assignEach (e::es) X.env).map (·.2)=assign e X.env::(assignEach es X.env).map (·.2):=by rfl):VF X (e::es) (kH t u):=by
 intro ae s σ H vs us Q I r h;obtain⟨v,vr,e1,h⟩:=h;subst e1;cases r with
 |cons r rr=>
  rw[hs];refine assignInOrder_cons (cj (h1 ae s σ H _ _ _ I r h) fun _ s1 ⟨σ1,H1,I1,q1⟩=>?_);exact h2 ae s1 σ1 H1 _ _ Q I1 rr q1
def De(K:PySem.W.Frag)(n:Nat)(t:RG):TG:=fun v σ H Q=>∃a xs,v=.ref a/\bz K H a xs/\xs.length=n/\t xs σ H Q
theorem gw(hc:X.calm=true)(h:VF X es t)(hn:(assignEach es X.env).length=n:=by rfl)(iw:(assignEach es X.env).findIdx? (·.1)=none:=by rfl):PG X (.Tuple es k pos) (De X.K n t):=by
 intro ae s σ H v u Q I r hw;obtain⟨a,xs,e1,hq,hl,hw⟩:=hw;subst e1;cases r;obtain⟨its,rv,ht,hz⟩:=I.tuple hq;refine assign_Tuple_tuple (I.ok.hd hc) ht (by simp[hn,<-hl,rv.length]) iw fun h' hx=>?_;have I1:aE X ae σ H { s with heap:=h' }:=I.kept (t':=s.toks) fun b o e=>hx b o (aT (aM e)) e;exact h ae _ σ H xs _ Q I1 (by simpa using rv) hw
def Wx(to ti:TE)(t:Jy):TG:=fun v σ H Q=>to σ H fun o H1=>ti σ H1 fun i H2=>t o i v H2 fun H3=>Q σ H3
theorem mv(ho:PE X o to)(hi:PE X i ti)(hs:Nx X t)(ha:∀v,assign (.Subscript o i pos) X.env v=(do
   let ov <- holding [v] (eval o X.env)
   let iv <- holding [v,ov] (eval i X.env)
   standAt pos
   holding [v,ov,iv] (setItem ov iv v)
   release [v,ov,iv] []):=by intro _;rfl):PG X (.Subscript o i pos) (Wx to ti t):=by
 intro ae s σ H v u Q I r h;rw[ha];refine aj (f9 (cj (ho ae s σ H _ I h) fun ov s1 ⟨x,H1,I1,r1,q1⟩=>?_));refine aj (f9 (cj (hi ae s1 σ H1 _ I1 q1) fun iv s2 ⟨y,H2,I2,r2,q2⟩=>?_));refine aj (iQ (aj (f9 (cj (hs ae s2 σ H2 x y v ov iv u _ I2 r1 r2 r q2) fun _ s3 ⟨H3,I3,q3⟩=>?_))));exact wpAny_release ⟨σ,H3,I3,q3⟩
def Jz(te:TE)(g:TG):TS:=fun D σ H=>te σ H fun x H1=>g x σ H1 D.nx
theorem ic(he:PE X e te)(hg:PG X tg g)(hs:swapsWithSole [tg] e pos.line X.env=pure false:=by rfl)(hw:swappedStores [tg] e X.env=pure none:=by rfl)(h1:(assignEach [tg] X.env).map (·.2)=[assign tg X.env]:=by rfl):PS X (.Assign [tg] e pos) (Jz te g):=by
 intro ae s σ H D I h;refine wpAny_Assign_stores (cj (he ae s σ H _ I h) fun v s1 ⟨x,H1,I1,r1,q1⟩=>?_) hs hw;rw[h1];exact cj (hg ae s1 σ H1 x v _ I1 r1 q1) fun _ s2 q=>q
theorem aO(hN:X.N.Nodup)(hi:X.N[i]?=some x)(hx:Rq X.env.scope x)(he:PE X e te)(hs:swapsWith e (some (.Name x xn)) pos.line X.env=pure false:=by rfl)(hf:X.fn x=true\/X.env.scope.names.lookup x=some .local:=by first|exact .inl rfl|exact .inr rfl|assumption):
  PS X (.Assign [.Name x xn] e pos) (Jz te (cq i)):=by
 intro ae s σ H D I h;refine wpAny_Assign_Name (cj (he ae s σ H _ I h) fun v s1 ⟨y,H1,I1,r1,q1⟩=>?_) hs;exact kC I1 hN hi hx r1 (fun s2 I2=>⟨_,H1,I2,q1⟩) hf
def Wy(i j:Nat)(ta:TA):TS:=fun D σ H=>ta σ H fun vs H1=>∃v w,vs=[v,w]/\D.nx ((σ.set i (some v)).set j (some w)) H1
theorem Ny{kt k2 QM}(hc:X.calm=true)(hN:X.N.Nodup)(hi:X.N[i]?=some x)(hj:X.N[j]?=some y)(hij:i≠j)(hx:X.env.scope.names.lookup x=some .local)(hy:X.env.scope.names.lookup y=some .local)(ha:PA X [a,b] ta)(hw:swappedStores [.Tuple [.Name x px,.Name y py] kt pt] (.Tuple [a,b] k2 QM) X.env=pure (some [x,y]))(hs:swapsWithSole [.Tuple [.Name x px,.Name y py] kt pt] (.Tuple [a,b] k2 QM) pos.line X.env=pure false:=by rfl):
  PS X (.Assign [.Tuple [.Name x px,.Name y py] kt pt] (.Tuple [a,b] k2 QM) pos) (Wy i j ta):=by
 intro ae s σ H D I h;rw[exec_Assign_arm];refine aj (iQ ?_);rw[hs];refine aj (wpAny_pure ?_);rw[ap (by decide)];refine aj (Tuple_ (cj (ha _ ae s σ H _ I h) fun us s1 ⟨vs,H1,I1,r1,q1⟩=>?_));obtain⟨v,w,e1,q1⟩:=q1;subst e1;obtain⟨u1,u2,rfl,rv,Df⟩:∃u1 u2,us=[u1,u2]/\bn v u1/\bn w u2:=by
  cases r1 with
  |cons p q=>
   cases q with
   |cons p' q'=>
    cases q';exact⟨_,_,rfl,p,p'⟩
 refine g8 ?_ (by show 2<=sizeLine;decide);have I2:aE X ae σ H1 { s1 with heap:=s1.heap.push { cls:=.type "tuple",data:=.seq [u1,u2].toArray } }:=I1.kept (t':=s1.toks) fun b o e=>bp _ e;rw[hw];refine aj (wpAny_pure ?_);show wpAny (model X.prog X.w) X.A (do rule "assign.swapped-stores";let items <- unpackItems (.ref s1.heap.objs.size) 2 none;assignInOrder [fun v=>bindName X.env y v,fun v=>bindName X.env x v] items.reverse;pure Flow.next) _ _ _;refine aj (wpAny_rule (aj (unpackItems_tuple (items:=#[u1,u2]) (I.ok.hd hc) (IsTup.new s1.heap _) fun h' d7=>?_)));have I3:=I2.kept (h':=h') (t':=s1.toks) fun b o e=>d7 b o (aT (aM e)) e;show wpAny _ _ (assignInOrder [fun v=>bindName X.env y v,fun v=>bindName X.env x v] [u2,u1] >>= fun _=>pure Flow.next) _ _ _;refine aj (assignInOrder_cons (wpAny_bindName (kC I3 hN hj (.inl hy) Df (fun s2 I4=>?_) (.inr hy))));refine assignInOrder_cons (wpAny_bindName (kC I4 hN hi (.inl hx) rv (fun s3 I5=>assignInOrder_nil (wpAny_pure ?_)) (.inr hx)));rw[List.set_comm _ _ (bE hij)] at I5;exact⟨_,H1,I5,q1⟩
def Wz(i:Nat)(te:TE)(ti:RH):TS:=fun D σ H=>∃x,σ[i]?=some (some x)/\te σ H fun y H1=>ti x y H1 fun z H2=>D.nx (σ.set i (some z)) H2
theorem o6(hN:X.N.Nodup)(hi:X.N[i]?=some x)(hx:Rq X.env.scope x)(he:PE X e te)(ho:RI X op ti)(hf:X.fn x=true\/X.env.scope.names.lookup x=some .local:=by first|exact .inl rfl|exact .inr rfl|assumption):
  PS X (.AugAssign (.Name x xn) op e pos) (Wz i te ti):=by
 intro ae s σ H D I h;obtain⟨v,e1,h⟩:=h;obtain⟨m,hn,hl⟩:=I.loc;have WA:Rp X.env.scope x:=by rcases hx with k|k;exact .inl k;exact .inr (.inl k)
 obtain⟨u,r,l⟩:=hl i x v hi e1 WA;refine wpAny_AugAssign_Name ?_;have go:wpAny (model X.prog X.w) X.A (eval e X.env) (fun w s₂=>wpAny (model X.prog X.w) X.A (inplaceOp op u w) (fun r s₃=>wpAny (model X.prog X.w) X.A (storeName X.env x r) (fun _=>SP X ae D .next) X.xe s₃) X.xe s₂) X.xe s:=by
  refine cj (he ae s σ H _ I h) fun w s1 ⟨y,H1,I1,r1,q1⟩=>?_;refine cj (ho ae s1 σ H1 v y u w _ I1 r r1 q1) fun z s2 ⟨zv,H2,I2,r2,q2⟩=>?_;exact kC I2 hN hi hx r2 (fun s3 I3=>⟨_,H2,I3,q2⟩) hf
 rcases l with ⟨hk,hm⟩|⟨hk,c,hc,Bn⟩
 .exact ze I.ok.kind hk hn hm go
 .rcases hk with hk|hk
  .exact wpAny_loadName_cell I.ok.kind hk hc Bn go
  .rcases hx with k|k
   .have:X.env.scope.names.lookup x=some .free:=hk;rw[k] at this;cases this
   .have:X.env.scope.names.lookup x=some .free:=hk;rw[k] at this;cases this
def RJ(to ti te:TE)(JA:V->V->Hp->VK->Prop)(VG:RH)(JB:Jy):TS:=fun D σ H=>to σ H fun o H1=>ti σ H1 fun i H2=>JA o i H2 fun x H3=>te σ H3 fun y H4=>VG x y H4 fun z H5=>JB o i z H5 fun H6=>D.nx σ H6
def RK(X:Cx)(t:V->V->Hp->VK->Prop):Prop:=
 ∀ (ae:List (Addr×Obj)) (s:Shared) (σ:St) (H:Hp) (o i:V) (ov iv:Value) (Q:VK),aE X ae σ H s->bn o ov->bn i iv->t o i H Q->
  wpAny (model X.prog X.w) X.A (getItem ov iv) (EP X ae σ Q) X.xe s
theorem JC{o i e:Expr}{to ti te:TE}{JA:V->V->Hp->VK->Prop}{VG:RH}{JB:Jy}{op:Operator}{Dg:Pos}(ho:PE X o to)(hi:PE X i ti)(hg:RK X JA)(he:PE X e te)(hp:RI X op VG)(hs:Nx X JB)(ha:∀ov iv new,augStore i ov iv new=(do holding [new,ov,iv] (setItem ov iv new);release [new,ov,iv] [];pure .next):=by intros;rfl):PS X (.AugAssign (.Subscript o i Dg) op e pos) (RJ to ti te JA VG JB):=by
 intro ae s σ H D I h;refine wpAny_AugAssign_SubscriptAny (cj (ho ae s σ H _ I h) fun ov s1 ⟨x1,H1,I1,r1,q1⟩=>?_) ha;refine cj (hi ae s1 σ H1 _ I1 q1) fun iv s2 ⟨x2,H2,I2,r2,q2⟩=>?_;refine cj (hg ae s2 σ H2 x1 x2 ov iv _ I2 r1 r2 q2) fun ml s3 ⟨x3,H3,I3,r3,q3⟩=>?_;refine cj (he ae s3 σ H3 _ I3 q3) fun v s4 ⟨x4,H4,I4,r4,q4⟩=>?_;refine cj (hp ae s4 σ H4 x3 x4 ml v _ I4 r3 r4 q4) fun new s5 ⟨x5,H5,I5,r5,q5⟩=>?_;exact cj (hs ae s5 σ H5 x1 x2 x5 ov iv new _ I5 r1 r2 r5 q5) fun _ s6 ⟨H6,I6,q6⟩=>⟨σ,H6,I6,q6⟩
def ipI(f:Int->Int->Int):RH:=fun x y H Q=>∃i j,x=.int i/\y=.int j/\Q (.int (f i j)) H
theorem zO:RI X .Add (ipI fun i j=>i+j):=by
 intro ae s σ H x y v u Q I r1 r2 h;obtain⟨i,j,e1,e2,q⟩:=h;subst e1;subst e2;obtain⟨t,rfl⟩:=r1;obtain⟨t',rfl⟩:=r2;exact iadd_int ⟨.int _,H,I.tok _,⟨_,rfl⟩,q⟩
def Ff(c:TT)(tb:TS):TS:=fun D σ H=>∃W:Nat->St->Hp->Prop,(∃m,W m σ H)/\∀m σ H,W m σ H->
 c σ H fun b H1=>if b=true then ∃N:St->Hp->Prop,(∀σ' H',N σ' H'->∃m',m'<m/\W m' σ' H')/\tb { D with nx:=N,ct:=N,bk:=D.nx } σ H1 else D.nx σ H1
theorem Fg(hp:PassesOwn (model X.prog X.w) X.A X.env X.xe)(hc:PT X c tc)(hb:yA X body tb):PS X (.While c body [] pos) (Ff tc tb):=by
 intro ae s σ H D I h;obtain⟨W,⟨m0,w0⟩,zP⟩:=h;refine wpAny_While (codeAny_whileLoop (fun n s'=>∃σ' H',aE X ae σ' H' s'/\W n σ' H') ?_ m0 ⟨σ,H,I,w0⟩);rintro n s1 ⟨σ1,H1,I1,w1⟩;refine me hp (cj (hc ae s1 σ1 H1 _ I1 (zP n σ1 H1 w1)) fun b s2 ⟨H2,I2,q2⟩=>?_);cases b with
 |true=>
  obtain⟨N,hN,q2⟩:=q2;rw[ai rfl];refine me hp (cj (hb ae s2 σ1 H2 _ I2 q2) fun f s3 q3=>?_);cases f with
  |next=>
   obtain⟨σ3,H3,I3,n3⟩:=q3;obtain⟨m',hm,w3⟩:=hN σ3 H3 n3;exact⟨m',hm,σ3,H3,I3,w3⟩
  |cont=>
   obtain⟨σ3,H3,I3,n3⟩:=q3;obtain⟨m',hm,w3⟩:=hN σ3 H3 n3;exact⟨m',hm,σ3,H3,I3,w3⟩
  |brk=>exact q3
  |ret v=>exact q3
 |false=>
  rw[ap bo];exact vK ⟨σ1,H2,I2,q2⟩
end
structure It where
 go:Nat->Hp->Prop
 Ja:Nat->Hp->V->Hp->Prop
 stop:Nat->Hp->Prop
 VH:Around->Hp->Prop
def f_(X:Cx)(ae:List (Addr×Obj))(H:Hp)(b:Addr):Prop:=
 H b=none/\b≠X.env.locals/\b∉X.fs/\(b∈X.ex\/X.s₀.heap.objs.size<=b)/\(∀x c,X.env.cells.lookup x=some c->c≠b)/\∀p∈X.pn++ae,p.1≠b
theorem aE.tW(I:aE X ae σ H s)(hb:s.heap.objs.size<=b)(hn:H' b=none):f_ X ae H' b:=by
 refine⟨hn,gj (bK I.lt hb),I.Wp hb,.inr (aZ I.sz hb),fun x c e z=>?_,fun p hp z=>?_⟩
 .obtain⟨v,q⟩:=I.cell x c e;exact absurd (bK q.lt (by rw[z];exact hb)) (hX _)
 .exact absurd (bK (aM (I.pin p hp).1) (by rw[z];exact hb)) (hX _)
structure qh(P:Program)(w:World)(K:PySem.W.Frag)(tg:Expr)(J:It)(fp:List Addr)(it:Addr)(tn:Nat->Heap->Prop):Prop where
 mem:it∈fp
 obj:∀i h,tn i h->∀b∈fp,∃o,h.get? b=some o/\∀v,o.data≠.cell v
 keep:∀i h h',tn i h->(∀b∈fp,∀o,h.get? b=some o->h'.get? b=some o)->tn i h'
 item:∀ (X:Cx),X.prog=P->X.w=w->X.K=K->∀ (i:Nat) (ae:List (Addr×Obj)) (s:Shared) (σ:St) (H:Hp) (E:Value->Shared->Prop),(X.calm=true\/J.VH X.A H)->aE X ae σ H s->(∀b∈fp,f_ X ae H b)->tn i s.heap->J.go i H->
  wpAny (model P w) X.A (pyNext (.ref it)) (fun r s1=>∃u,r=some u/\
   wpAny (model P w) X.A (letOwnedTupleGo tg (.ref it) u) (fun _ s2=>∃x H',aE X ae σ H' s2/\bn x u/\J.Ja i H x H'/\tn (i+1) s2.heap/\∀b∈fp,H' b=none) E s1) E s
 done:∀ (X:Cx),X.prog=P->X.w=w->X.K=K->∀ (i:Nat) (ae:List (Addr×Obj)) (s:Shared) (σ:St) (H:Hp) (E:Value->Shared->Prop),(X.calm=true\/J.VH X.A H)->aE X ae σ H s->(∀b∈fp,f_ X ae H b)->tn i s.heap->J.stop i H->
  wpAny (model P w) X.A (pyNext (.ref it)) (fun r s1=>r=none/\aE X ae σ H s1) E s
 self:∀ (A:Around) (i:Nat) (s:Shared) (Q:Value->Shared->Prop) (E:Value->Shared->Prop),tn i s.heap->Q (.ref it) s->wpAny (model P w) A (pyIter (.ref it)) Q E s
abbrev TI:=St->Hp->(It->Hp->Prop)->Prop
def WB(X:Cx)(ae:List (Addr×Obj))(σ:St)(tg:Expr)(R:It->Hp->Prop)(QN:Value)(s2:Shared):Prop:=
 ∃ (it:Addr) (fp:List Addr) (tn:Nat->Heap->Prop) (J:It) (H':Hp),QN=.ref it/\aE X ae σ H' s2/\qh X.prog X.w X.K tg J fp it tn/\tn 0 s2.heap/\(∀b∈fp,f_ X ae H' b)/\R J H'
def PI(X:Cx)(tg iter:Expr)(wi:TI):Prop:=
 ∀ (ae:List (Addr×Obj)) (s:Shared) (σ:St) (H:Hp) (R:It->Hp->Prop),aE X ae σ H s->wi σ H R->
  wpAny (model X.prog X.w) X.A (eval iter X.env) (fun v s1=>wpAny (model X.prog X.w) X.A (pyIter v) (WB X ae σ tg R) X.xe s1) X.xe s
theorem xo(ho:s.heap.get? it=some o)(hc:o.cls=.type n)(hd:o.data=.fields vs)(hn:["enumerate","zip","dict_itemiterator","dict_reverseitemiterator","odict_iterator","itertools.zip_longest","itertools.pairwise"].contains n=false)(hQ:Q () s):wpAny M A (letOwnedTupleGo tg (.ref it) u) Q E s:=by
 unfold letOwnedTupleGo;cases tg <;> first
  |exact wpAny_pure hQ
  |(cases u <;> first
    |exact wpAny_pure hQ
    |(refine aj (wpAny_load ho ?_);rw[hc,hd];show wpAny M A (if (["enumerate","zip","dict_itemiterator","dict_reverseitemiterator","odict_iterator","itertools.zip_longest","itertools.pairwise"].contains n&&vs[0]?==some (rawInt _))=true then _ else _) Q E s;rw[ap (by intro h;rw[hn,Bool.false_and] at h;cases h)];exact wpAny_pure hQ))
def Fh(K:PySem.W.Frag)(a:Addr):It:=
 ⟨fun i H=>∃xs x,bh K H a xs/\xs[i]?=some x,fun i H x H'=>H'=H/\∀xs,bh K H a xs->xs[i]?=some x,fun i H=>∃xs,bh K H a xs/\xs.length<=i,fun _ _=>False⟩
def QO(K:PySem.W.Frag)(a:Addr):It:=
 ⟨fun i H=>∃xs x,bz K H a xs/\xs[i]?=some x,fun i H x H'=>H'=H/\∀xs,bz K H a xs->xs[i]?=some x,fun i H=>∃xs,bz K H a xs/\xs.length<=i,fun _ _=>False⟩
def JD(lo:Int)(n:Nat):It:=⟨fun i _=>i<n,fun i H x H'=>H'=H/\x=.int (lo+i),fun i _=>n<=i,fun A H=>A.handled=none\/∃p φ,A.handled=some (.ref p)/\H p=some (.ext φ)/\∀h,φ h->Bh p h⟩
theorem Dh{P:Program}{w:World}{K:PySem.W.Frag}{tg:Expr}(a it:Addr):qh P w K tg (Fh K a) [it] it (fun i h=>h.IsListIter it a i) where
 mem:=by simp
 obj:=fun i h st b hb=>by
  have e:b=it:=by simpa using hb
  subst e;obtain⟨o,e,c,d⟩:=st;exact⟨o,e,fun v z=>by rw[d] at z;cases z⟩
 keep:=fun i h h' st k=>st.at fun o e=>k it (by simp) o e
 item:=by
  intro X hP hw hK i ae s σ H E tX I hf st hg;subst hP hw hK;have hc:X.calm=true:=tX.elim id fun z=>(show False from z).elim;obtain⟨xs,x,hq,hx⟩:=hg;obtain⟨its,rv,p,hz⟩:=I.list hq;obtain⟨u,hu,ru⟩:=rv.get hx;obtain⟨f0,f1,f2,f3,f4,f5⟩:=hf it (by simp);refine yZ st p.isList (x:=u) (by simpa using hu) fun h' a_ sb=>?_;have I1:aE X ae σ H { s with heap:=h' }:=I.turned (t':=s.toks) (fun b o hb e=>(sb.2 b hb).trans e) f0 f1 f3 f4 f5;obtain⟨o,e,c,d⟩:=id a_;exact⟨u,rfl,xo (s:={ s with heap:=h' }) e c d (by decide) ⟨x,H,I1,ru,⟨rfl,fun ys hy=>by rw[I.Fe hy hq];exact hx⟩,a_,fun b hb=>(hf b hb).1⟩⟩
 done:=by
  intro X hP hw hK i ae s σ H E tX I hf st hg;subst hP hw hK;have hc:X.calm=true:=tX.elim id fun z=>(show False from z).elim;obtain⟨xs,hq,hx⟩:=hg;obtain⟨its,rv,p,hz⟩:=I.list hq;obtain⟨f0,f1,f2,f3,f4,f5⟩:=hf it (by simp);have hl:=rv.length;exact y6 (I.ok.hd hc) st p.isList (by simp;lia) fun h' eb=>⟨rfl,I.turned (t':=s.toks) (fun b o hb e=>eb b o hb e) f0 f1 f3 f4 f5⟩
 self:=fun _ _ _ _ _ st h=>wpAny_pyIter_listiter st h
theorem zQ{P:Program}{w:World}{K:PySem.W.Frag}{tg:Expr}(a it:Addr):qh P w K tg (QO K a) [it] it (fun i h=>h.IsTupleIter it a i) where
 mem:=by simp
 obj:=fun i h st b hb=>by
  have e:b=it:=by simpa using hb
  subst e;obtain⟨o,e,c,d⟩:=st;exact⟨o,e,fun v z=>by rw[d] at z;cases z⟩
 keep:=fun i h h' st k=>st.at fun o e=>k it (by simp) o e
 item:=by
  intro X hP hw hK i ae s σ H E tX I hf st hg;subst hP hw hK;have hc:X.calm=true:=tX.elim id fun z=>(show False from z).elim;obtain⟨xs,x,hq,hx⟩:=hg;obtain⟨its,rv,p,hz⟩:=I.tuple hq;obtain⟨u,hu,ru⟩:=rv.get hx;obtain⟨f0,f1,f2,f3,f4,f5⟩:=hf it (by simp);refine wpAny_pyNext_tuple_item st (show s.heap.IsTuple a its.toArray from p) (x:=u) (by simpa using hu) fun h' a_ sb=>?_;have I1:aE X ae σ H { s with heap:=h' }:=I.turned (t':=s.toks) (fun b o hb e=>(sb.2 b hb).trans e) f0 f1 f3 f4 f5;obtain⟨o,e,c,d⟩:=id a_;exact⟨u,rfl,xo (s:={ s with heap:=h' }) e c d (by decide) ⟨x,H,I1,ru,⟨rfl,fun ys hy=>by rw[I.fA hy hq];exact hx⟩,a_,fun b hb=>(hf b hb).1⟩⟩
 done:=by
  intro X hP hw hK i ae s σ H E tX I hf st hg;subst hP hw hK;have hc:X.calm=true:=tX.elim id fun z=>(show False from z).elim;obtain⟨xs,hq,hx⟩:=hg;obtain⟨its,rv,p,hz⟩:=I.tuple hq;obtain⟨f0,f1,f2,f3,f4,f5⟩:=hf it (by simp);have hl:=rv.length;exact wpAny_pyNext_tuple_end (I.ok.hd hc) st (show s.heap.IsTuple a its.toArray from p) (by simp;lia) fun h' eb=>⟨rfl,I.turned (t':=s.toks) (fun b o hb e=>eb b o hb e) f0 f1 f3 f4 f5⟩
 self:=fun _ _ _ _ _ st h=>wpAny_pyIter_tupleiter st h
theorem zR{P:Program}{w:World}{K:PySem.W.Frag}{tg:Expr}(it:Addr)(lo:Int)(n:Nat):qh P w K tg (JD lo n) [it] it (fun i h=>IsRangeIter h it (lo+(i:Nat)*1) ((n:Int)-(i:Nat)) 1) where
 mem:=by simp
 obj:=fun i h st b hb=>by
  have e:b=it:=by simpa using hb
  subst e;exact⟨_,st,fun v z=>by
   have z':Data.fields _=Data.cell v:=z;cases z'⟩
 keep:=fun i h h' st k=>k it (by simp) _ st
 item:=by
  intro X hP hw hK i ae s σ H E hc I hf st hg;subst hP hw hK;obtain⟨f0,f1,f2,f3,f4,f5⟩:=hf it (by simp);refine wpAny_pyNext_range_item st (by have:i<n:=hg;lia) fun h' a_ sb=>?_;have I1:aE X ae σ H { s with heap:=h',toks:=s.toks+1 }:=I.turned (fun b o hb e=>(sb.2 b hb).trans e) f0 f1 f3 f4 f5;have oo:IsRangeIter h' it (lo+((i+1:Nat):Int)*1) ((n:Int)-((i+1:Nat):Int)) 1:=by
   rw[show lo+((i+1:Nat):Int)*1=lo+(i:Int)*1+1 by lia,show (n:Int)-((i+1:Nat):Int)=(n:Int)-(i:Int)-1 by lia];exact a_
  exact⟨_,rfl,xo (s:={ s with heap:=h',toks:=s.toks+1 }) (n:="range_iterator") oo rfl rfl (by decide) ⟨.int (lo+i),H,I1,⟨s.toks,by rw[Int.mul_one]⟩,⟨rfl,rfl⟩,oo,fun b hb=>(hf b hb).1⟩⟩
 done:=by
  intro X hP hw hK i ae s σ H E hc I hf st hg;subst hP hw hK;obtain⟨f0,f1,f2,f3,f4,f5⟩:=hf it (by simp);have he:X.A.handled=none\/∃p φ,X.A.handled=some (.ref p)/\H p=some (.ext φ)/\∀h,φ h->Bh p h:=hc.elim (fun z=>.inl (I.ok.hd z)) id;rcases he with hn|⟨p,φ,hp,hH,hφ⟩
  .exact wpAny_pyNext_range_end hn st (by have:n<=i:=hg;lia) fun h' eb=>⟨rfl,I.turned (t':=s.toks) (fun b o hb e=>eb b o hb e) f0 f1 f3 f4 f5⟩
  .exact zM hp (hφ _ (I.bU p _ hH).1) st (by have:n<=i:=hg;lia) fun h' eb=>⟨rfl,I.kept (t':=s.toks) eb⟩
 self:=fun _ _ _ _ _ st h=>y0 st h
section
variable {X:Cx} {tg:Expr}
def RL(K:PySem.W.Frag)(tl:TE):TI:=fun σ H R=>tl σ H fun x H1=>∃a,x=.ref a/\(∃xs,bh K H1 a xs)/\R (Fh K a) H1
def WC(K:PySem.W.Frag)(tl:TE):TI:=fun σ H R=>tl σ H fun x H1=>∃a,x=.ref a/\(∃xs,bz K H1 a xs)/\R (QO K a) H1
theorem bC{l:Expr}{tl:TE}(hl:PE X l tl):PI X tg l (RL X.K tl):=by
 intro ae s σ H R I h;refine cj (hl ae s σ H _ I h) fun v s1 ⟨x,H1,I1,r1,q1⟩=>?_;obtain⟨a,e,⟨xs,hq⟩,q⟩:=q1;subst e;cases r1;obtain⟨its,rv,p,hz⟩:=I1.list hq;refine vD p.isList ?_;refine⟨s1.heap.objs.size,[s1.heap.objs.size],_,_,H1,rfl,I1.kept (t':=s1.toks) fun b o e=>bp _ e,Dh a _,⟨_,bR _ rfl,rfl,rfl⟩,fun b hb=>?_,q⟩;have e:b=s1.heap.objs.size:=by simpa using hb
 subst e;exact I1.tW (aW _) (I1.bU.fresh (aW _))
theorem mw{l:Expr}{tl:TE}(hl:PE X l tl):PI X tg l (WC X.K tl):=by
 intro ae s σ H R I h;refine cj (hl ae s σ H _ I h) fun v s1 ⟨x,H1,I1,r1,q1⟩=>?_;obtain⟨a,e,⟨xs,hq⟩,q⟩:=q1;subst e;cases r1;obtain⟨its,rv,p,hz⟩:=I1.tuple hq;refine rk (show s1.heap.IsTuple a its.toArray from p) ?_;refine⟨s1.heap.objs.size,[s1.heap.objs.size],_,_,H1,rfl,I1.kept (t':=s1.toks) fun b o e=>bp _ e,zQ a _,⟨_,bR _ rfl,rfl,rfl⟩,fun b hb=>?_,q⟩;have e:b=s1.heap.objs.size:=by simpa using hb
 subst e;exact I1.tW (aW _) (I1.bU.fresh (aW _))
theorem Fj{ae:List (Addr×Obj)}{σ:St}{H:Hp}{s:Shared}{R:It->Hp->Prop}{E:Value->Shared->Prop}{lo hi:Int}{t u v:Tok}{tk:Nat}(I:aE X ae σ H s)(h1:-(2 ^ 62)<=lo)(h2:lo<2 ^ 62)(h3:-(2 ^ 62)<=hi)(h4:hi<2 ^ 62)(q:R (JD lo (hi-lo).toNat) H):wpAny (model X.prog X.w) X.A (pyIter (.ref s.heap.objs.size)) (WB X ae σ tg R) E { s with heap:=s.heap.push { cls:=.type "range",data:=.fields #[.int lo t,.int hi u,.int 1 v] },toks:=tk }:=by
 refine wpAny_pyIter_range (IsRange.new ..) (small_one h1 h2 h3 h4) ?_;have I1:aE X ae σ H { s with heap:=s.heap.push { cls:=.type "range",data:=.fields #[.int lo t,.int hi u,.int 1 v] },toks:=tk }:=I.kept fun b o e=>bp _ e;refine⟨(s.heap.push { cls:=.type "range",data:=.fields #[.int lo t,.int hi u,.int 1 v] }).objs.size,[(s.heap.push { cls:=.type "range",data:=.fields #[.int lo t,.int hi u,.int 1 v] }).objs.size],_,_,H,rfl,
  I1.kept (t':=tk) fun b o e=>bp _ e,zR _ lo (hi-lo).toNat,?_,fun b hb=>?_,q⟩
 .have e1:lo+((0:Nat):Int)*1=lo:=by simp
  have e2:(((hi-lo).toNat:Nat):Int)-((0:Nat):Int)=Builtin.Range.rangeSize lo hi 1:=by rw[rangeSize_one];split <;> lia
  show IsRangeIter _ _ (lo+((0:Nat):Int)*1) ((((hi-lo).toNat:Nat):Int)-((0:Nat):Int)) 1;rw[e1,e2];exact bR _ rfl
 .have e:b=(s.heap.push { cls:=.type "range",data:=.fields #[.int lo t,.int hi u,.int 1 v] }).objs.size:=by simpa using hb
  subst e;exact I1.tW (aW _) (I1.bU.fresh (aW _))
def RM(ta:TA):TI:=fun σ H R=>ta σ H fun vs H1=>∃j:Int,vs=[.int j]/\-(2 ^ 62)<=j/\j<2 ^ 62/\R (JD 0 j.toNat) H1
theorem ce{a:Expr}{ta:TA}{p pos:Pos}(hg:Gl X "range")(hm:X.mg "range"=none)(ha:PA X [a] ta)(hs:starEach [a] X.env=[(false,eval a X.env)]:=by rfl):PI X tg (.Call (.Name "range" p) [a] [] pos) (RM ta):=by
 intro ae s σ H R I h;refine Call_ (jq I hg hm boot_range (ow (cj (ha pos ae s σ H _ I h) fun us s1 ⟨vs,H1,I1,r1,q1⟩=>?_) hs rfl));obtain⟨j,e,q1,q2,q⟩:=q1;subst e;cases r1 with
 |cons r rr=>
  cases rr;obtain⟨t,rfl⟩:=r;exact call_range_1 (Fj I1 (by lia) (by lia) q1 q2 (by simpa using q))
def WD(wi:TI)(g:TG)(tb:TS):TS:=fun D σ H=>wi σ H fun J H1=>∃W:Nat->Nat->St->Hp->Prop,(∃m,W 0 m σ H1)/\∀i m σ H,W i m σ H->
 (J.stop i H/\D.nx σ H)\/(J.go i H/\∃N:St->Hp->Prop,(∀σ' H',N σ' H'->∃m',m'<m/\W (i+1) m' σ' H')/\∀x H',J.Ja i H x H'->g x σ H' fun σ2 H2=>tb { D with nx:=N,ct:=N,bk:=D.nx } σ2 H2)
def o7(fp:List Addr)(h:Heap):List (Addr×Obj):=fp.filterMap fun b=>(h.get? b).map fun o=>(b,o)
theorem fD(hb:b∈fp)(e:h.get? b=some o):(b,o)∈o7 fp h:=l8.mpr ⟨b,hb,by rw[e];rfl⟩
theorem Di(hp:p∈o7 fp h):p.1∈fp/\h.get? p.1=some p.2:=by
 obtain⟨b,hb,e⟩:=l8.mp hp;cases q:h.get? b with
 |none=>rw[q] at e;cases e
 |some o=>
  rw[q] at e;have e':(b,o)=p:=bi e;subst e';exact⟨hb,q⟩
theorem aE.pinned(I:aE X ae σ H s)(hf:∀b∈fp,f_ X ae H b)(ho:∀b∈fp,∃o,s.heap.get? b=some o/\∀v,o.data≠.cell v):aE X (ae++o7 fp s.heap) σ H s:=
 I.Bj fun p hp=>(cR.mp hp).elim (fun z=>I.pin p (gJ _ z)) fun z=>by
  obtain⟨hb,e⟩:=Di z;obtain⟨f0,f1,f2,_⟩:=hf p.1 hb;obtain⟨o,e',d⟩:=ho p.1 hb;rw[e] at e';cases e';exact⟨e,f0,f1,f2,d⟩
theorem aE.kI(I:aE X (ae++pl) σ H s):aE X ae σ H s:=I.Bj fun p hp=>I.pin p (gJ _ (ny _ hp))
theorem bZ(hp:PassesOwn (model X.prog X.w) X.A X.env X.xe)(hc:X.calm=true)(hi:PI X tg iter wi)(hg:PG X tg g)(hb:yA X body tb)(hs:∀x,foldedSetIterable iter X.env x=pure x:=by intro _;rfl):PS X (.For tg iter body [] pos) (WD wi g tb):=by
 intro ae s σ H D I h;refine wpAny_For (cj (hi ae s σ H _ I h) fun v s1 h1=>cj h1 fun QN s2 h2=>?_) hs;obtain⟨it,fp,tn,J,H2,e,I2,T,oo,f2,W,⟨m0,w0⟩,zP⟩:=h2;subst e;have rR:∀ {H':Hp},(∀b∈fp,H' b=none)->∀b∈fp,f_ X ae H' b:=fun hn b hb=>⟨hn b hb,(f2 b hb).2⟩
 refine codeAny_forLoop_any (fun n s'=>∃i σ' H',aE X ae σ' H' s'/\tn i s'.heap/\(∀b∈fp,H' b=none)/\W i n σ' H') ?_ m0 ⟨0,σ,H2,I2,oo,fun b hb=>(f2 b hb).1,w0⟩;rintro n s3 ⟨i,σ3,H3,I3,xc,Jb,w3⟩;rcases zP i n σ3 H3 w3 with ⟨stop,qn⟩|⟨go,N,hN,step⟩
 .refine me hp (cj (T.done X rfl rfl rfl i ae s3 σ3 H3 X.xe (.inl hc) I3 (rR Jb) xc stop) fun r s4 ⟨hr,I4⟩=>?_);subst hr;exact vK ⟨σ3,H3,I4,qn⟩
 .refine me hp (cj (T.item X rfl rfl rfl i ae s3 σ3 H3 X.xe (.inl hc) I3 (rR Jb) xc go) fun r s4 ⟨u,hr,h4⟩=>?_);subst hr;refine me hp (cj h4 fun _ s5 ⟨x,H5,I5,r5,y5,tO,RN⟩=>?_);have RO:=I5.pinned (rR RN) (T.obj _ _ tO);refine me hp (cj (hg _ s5 σ3 H5 x u _ RO r5 (step x H5 y5)) fun _ s6 ⟨σ6,H6,I6,q6⟩=>?_);refine me hp (cj (hb _ s6 σ6 H6 _ I6 q6) fun f s7 q7=>?_);have again:∀ {σ7:St} {H7:Hp},aE X (ae++o7 fp s5.heap) σ7 H7 s7->N σ7 H7->∃m,m<n/\∃i σ' H',aE X ae σ' H' s7/\tn i s7.heap/\(∀b∈fp,H' b=none)/\W i m σ' H':=fun {σ7 H7} I7 n7=>by
   obtain⟨m',hm,w7⟩:=hN σ7 H7 n7;refine⟨m',hm,i+1,σ7,H7,I7.kI,T.keep _ _ _ tO fun b hb o e=>(I7.pin (b,o) (gJ _ (gJ _ (fD hb e)))).1,fun b hb=>?_,w7⟩;obtain⟨o,e,d⟩:=T.obj _ _ tO b hb;exact(I7.pin (b,o) (gJ _ (gJ _ (fD hb e)))).2.1
  cases f with
  |next=>obtain⟨σ7,H7,I7,n7⟩:=q7;exact again I7 n7
  |cont=>obtain⟨σ7,H7,I7,n7⟩:=q7;exact again I7 n7
  |brk=>obtain⟨σ7,H7,I7,q7⟩:=q7;exact⟨σ7,H7,I7.kI,q7⟩
  |ret v=>obtain⟨x7,σ7,H7,I7,r7,q7⟩:=q7;exact⟨x7,σ7,H7,I7.kI,r7,q7⟩
end
theorem dU{K:PySem.W.Frag}{a:Addr}{xs:List V}{g:TG}{tb:TS}{D:vX}{σ:St}{H:Hp}(Pv:Nat->St->Hp->Prop)(h0:Pv 0 σ H)(hl:∀i σ H,i<=xs.length->Pv i σ H->bh K H a xs)(hs:∀i x σ H,xs[i]?=some x->Pv i σ H->g x σ H fun σ2 H2=>tb { D with nx:=Pv (i+1),ct:=Pv (i+1),bk:=D.nx } σ2 H2)(hd:∀σ H,Pv xs.length σ H->D.nx σ H):
  ∃W:Nat->Nat->St->Hp->Prop,(∃m,W 0 m σ H)/\∀i m σ H,W i m σ H->
   ((Fh K a).stop i H/\D.nx σ H)\/((Fh K a).go i H/\∃N:St->Hp->Prop,(∀σ' H',N σ' H'->∃m',m'<m/\W (i+1) m' σ' H')/\∀x H',(Fh K a).Ja i H x H'->g x σ H' fun σ2 H2=>tb { D with nx:=N,ct:=N,bk:=D.nx } σ2 H2):=by
 refine⟨fun i m σ H=>m=xs.length-i/\i<=xs.length/\Pv i σ H,⟨xs.length,by simp,cE _,h0⟩,?_⟩;rintro i m σ H ⟨rfl,hi,p⟩;have q:=hl i σ H hi p;by_cases df:i<xs.length
 .refine .inr ⟨⟨xs,xs[i],q,by simp[df]⟩,Pv (i+1),fun σ' H' p'=>⟨xs.length-(i+1),by lia,rfl,df,p'⟩,fun x H' y=>?_⟩;obtain⟨e,y⟩:=y;subst e;exact hs i x σ _ (y xs q) p
 .have e:i=xs.length:=by lia
  subst e;exact .inl ⟨⟨xs,q,aW _⟩,hd σ H p⟩
theorem ln{K:PySem.W.Frag}{a:Addr}{xs:List V}{g:TG}{tb:TS}{D:vX}{σ:St}{H:Hp}(Pv:Nat->St->Hp->Prop)(h0:Pv 0 σ H)(hl:∀i σ H,i<=xs.length->Pv i σ H->bz K H a xs)(hs:∀i x σ H,xs[i]?=some x->Pv i σ H->g x σ H fun σ2 H2=>tb { D with nx:=Pv (i+1),ct:=Pv (i+1),bk:=D.nx } σ2 H2)(hd:∀σ H,Pv xs.length σ H->D.nx σ H):
  ∃W:Nat->Nat->St->Hp->Prop,(∃m,W 0 m σ H)/\∀i m σ H,W i m σ H->
   ((QO K a).stop i H/\D.nx σ H)\/((QO K a).go i H/\∃N:St->Hp->Prop,(∀σ' H',N σ' H'->∃m',m'<m/\W (i+1) m' σ' H')/\∀x H',(QO K a).Ja i H x H'->g x σ H' fun σ2 H2=>tb { D with nx:=N,ct:=N,bk:=D.nx } σ2 H2):=by
 refine⟨fun i m σ H=>m=xs.length-i/\i<=xs.length/\Pv i σ H,⟨xs.length,by simp,cE _,h0⟩,?_⟩;rintro i m σ H ⟨rfl,hi,p⟩;have q:=hl i σ H hi p;by_cases df:i<xs.length
 .refine .inr ⟨⟨xs,xs[i],q,by simp[df]⟩,Pv (i+1),fun σ' H' p'=>⟨xs.length-(i+1),by lia,rfl,df,p'⟩,fun x H' y=>?_⟩;obtain⟨e,y⟩:=y;subst e;exact hs i x σ _ (y xs q) p
 .have e:i=xs.length:=by lia
  subst e;exact .inl ⟨⟨xs,q,aW _⟩,hd σ H p⟩
theorem d8{lo:Int}{n:Nat}{g:TG}{tb:TS}{D:vX}{σ:St}{H:Hp}(Pv:Nat->St->Hp->Prop)(h0:Pv 0 σ H)(hs:∀i σ H,i<n->Pv i σ H->g (.int (lo+i)) σ H fun σ2 H2=>tb { D with nx:=Pv (i+1),ct:=Pv (i+1),bk:=D.nx } σ2 H2)(hd:∀σ H,Pv n σ H->D.nx σ H):
  ∃W:Nat->Nat->St->Hp->Prop,(∃m,W 0 m σ H)/\∀i m σ H,W i m σ H->
   ((JD lo n).stop i H/\D.nx σ H)\/((JD lo n).go i H/\∃N:St->Hp->Prop,(∀σ' H',N σ' H'->∃m',m'<m/\W (i+1) m' σ' H')/\∀x H',(JD lo n).Ja i H x H'->g x σ H' fun σ2 H2=>tb { D with nx:=N,ct:=N,bk:=D.nx } σ2 H2):=by
 refine⟨fun i m σ H=>m=n-i/\i<=n/\Pv i σ H,⟨n,by simp,cE _,h0⟩,?_⟩;rintro i m σ H ⟨rfl,hi,p⟩;by_cases df:i<n
 .refine .inr ⟨df,Pv (i+1),fun σ' H' p'=>⟨n-(i+1),by lia,rfl,df,p'⟩,fun x H' y=>?_⟩;obtain⟨e,y⟩:=y;subst e y;exact hs i σ _ df p
 .have e:i=n:=by lia
  subst e;exact .inl ⟨aW _,hd σ H p⟩
theorem Fk(Pv:St->Hp->Prop)(μ:St->Hp->Nat)(h0:Pv σ H)(hs:∀σ H,Pv σ H->c σ H fun b H1=>if b=true then tb { D with nx:=fun σ' H'=>Pv σ' H'/\μ σ' H'<μ σ H,ct:=fun σ' H'=>Pv σ' H'/\μ σ' H'<μ σ H,bk:=D.nx } σ H1 else D.nx σ H1)(mono:∀σ H Q Q',(∀b H1,Q b H1->Q' b H1)->c σ H Q->c σ H Q'):Ff c tb D σ H:=by
 refine⟨fun m σ H=>m=μ σ H/\Pv σ H,⟨_,rfl,h0⟩,?_⟩;rintro m σ H ⟨rfl,p⟩;refine mono σ H _ _ (fun b H1 q=>?_) (hs σ H p);cases b with
 |true=>exact⟨_,fun σ' H' ⟨p',l⟩=>⟨_,l,rfl,p'⟩,q⟩
 |false=>exact q
abbrev R2:=V->V->Hp->VK->Prop
def lH(X:Cx)(f:Value->Value->Sem Value)(r:R2):Prop:=
 ∀ (ae:List (Addr×Obj)) (s:Shared) (σ:St) (H:Hp) (x y:V) (v u:Value) (Q:VK),aE X ae σ H s->bn x v->bn y u->r x y H Q->
  wpAny (model X.prog X.w) X.A (f v u) (EP X ae σ Q) X.xe s
def WE(X:Cx)(f:Value->Sem Value)(r:V->Hp->VK->Prop):Prop:=
 ∀ (ae:List (Addr×Obj)) (s:Shared) (σ:St) (H:Hp) (x:V) (v:Value) (Q:VK),aE X ae σ H s->bn x v->r x H Q->
  wpAny (model X.prog X.w) X.A (f v) (EP X ae σ Q) X.xe s
def gb(X:Cx)(f:Value)(r:List V->Hp->VK->Prop):Prop:=
 ∀ (ae:List (Addr×Obj)) (s:Shared) (σ:St) (H:Hp) (xs:List V) (us:List Value) (Q:VK),aE X ae σ H s->aP xs us->r xs H Q->
  wpAny (model X.prog X.w) X.A (call f us) (EP X ae σ Q) X.xe s
def nB(r:R2)(ta tb:TE):TE:=fun σ H Q=>ta σ H fun x H1=>tb σ H1 fun y H2=>r x y H2 Q
def tUn(r:V->Hp->VK->Prop)(ta:TE):TE:=fun σ H Q=>ta σ H fun x H1=>r x H1 Q
def rI(C:Int->Int->Prop)(g:Int->Int->V):R2:=fun x y H Q=>∃i j,x=.int i/\y=.int j/\C i j/\Q (g i j) H
def JE(g:Int->Int->V):R2:=fun x y H Q=>∃i j,x=.int i/\y=.int j/\Q (g i j) H
def rU(g:Int->V):V->Hp->VK->Prop:=fun x H Q=>∃i,x=.int i/\Q (g i) H
section
variable {X:Cx} {a b c:Expr} {ta tb tc:TE} {pos:Pos}
theorem Nz(ha:PE X a ta)(hb:PE X b tb){ae:List (Addr×Obj)}{s:Shared}{σ:St}{H:Hp}{R:V->V->Hp->Prop}(I:aE X ae σ H s)(h:ta σ H fun x H1=>tb σ H1 fun y H2=>R x y H2){Q:Value->Shared->Prop}{f:Value->Value->Sem Value}(hf:∀v u s2 x y H2,aE X ae σ H2 s2->bn x v->bn y u->R x y H2->wpAny (model X.prog X.w) X.A (f v u) Q X.xe s2):
  wpAny (model X.prog X.w) X.A (eval a X.env) (fun v s₁=>wpAny (model X.prog X.w) X.A (eval b X.env) (fun u s₂=>wpAny (model X.prog X.w) X.A (f v u) Q X.xe s₂) X.xe s₁) X.xe s:=by
 refine cj (ha ae s σ H _ I h) fun v s1 ⟨x,H1,I1,r1,q1⟩=>?_;refine cj (hb ae s1 σ H1 _ I1 q1) fun u s2 ⟨y,H2,I2,r2,q2⟩=>?_;exact hf v u s2 x y H2 I2 r1 r2 q2
theorem bu{op:Operator}{r:R2}(ho:lH X (binaryOp op) r)(ha:PE X a ta)(hb:PE X b tb):PE X (.BinOp a op b pos) (nB r ta tb):=by
 intro ae s σ H Q I h;exact wpAny_BinOp (Nz ha hb I h fun v u s2 x y H2 I2 rx ry q=>ho ae s2 σ H2 x y v u Q I2 rx ry q)
theorem ur(ho:WE X (unaryOp op) r)(ha:PE X a ta):PE X (.UnaryOp op a pos) (tUn r ta):=by
 intro ae s σ H Q I h;exact UnaryOp_ (cj (ha ae s σ H _ I h) fun v s1 ⟨x,H1,I1,r1,q1⟩=>ho ae s1 σ H1 x v Q I1 r1 q1)
theorem QP{f:Value->Value->Sem Value}{C:Int->Int->Prop}{g:Int->Int->Int}(rule:∀ (i j:Int) (t u:Tok) (s:Shared) (Q:Value->Shared->Prop) (E:Value->Shared->Prop),C i j->Q (.int (g i j) s.toks) { s with toks:=s.toks+1 }->wpAny (model X.prog X.w) X.A (f (.int i t) (.int j u)) Q E s):
  lH X f (rI C fun i j=>.int (g i j)):=by
 intro ae s σ H x y v u Q I rx ry h;obtain⟨i,j,rfl,rfl,hc,q⟩:=h;obtain⟨t,rfl⟩:=rx;obtain⟨t',rfl⟩:=ry;exact rule i j t t' s _ _ hc ⟨.int (g i j),H,I.tok _,⟨_,rfl⟩,q⟩
theorem RP{f:Value->Value->Sem Value}{g:Int->Int->Int}(rule:∀ (i j:Int) (t u:Tok) (s:Shared) (Q:Value->Shared->Prop) (E:Value->Shared->Prop),Q (.int (g i j) s.toks) { s with toks:=s.toks+1 }->wpAny (model X.prog X.w) X.A (f (.int i t) (.int j u)) Q E s):
  lH X f (JE fun i j=>.int (g i j)):=by
 intro ae s σ H x y v u Q I rx ry h;obtain⟨i,j,rfl,rfl,q⟩:=h;obtain⟨t,rfl⟩:=rx;obtain⟨t',rfl⟩:=ry;exact rule i j t t' s _ _ ⟨.int (g i j),H,I.tok _,⟨_,rfl⟩,q⟩
theorem NA{f:Value->Value->Sem Value}{g:Int->Int->Bool}(rule:∀ (i j:Int) (t u:Tok) (s:Shared) (Q:Value->Shared->Prop) (E:Value->Shared->Prop),Q (.bool (g i j)) s->wpAny (model X.prog X.w) X.A (f (.int i t) (.int j u)) Q E s):
  lH X f (JE fun i j=>.bl (g i j)):=by
 intro ae s σ H x y v u Q I rx ry h;obtain⟨i,j,rfl,rfl,q⟩:=h;obtain⟨t,rfl⟩:=rx;obtain⟨t',rfl⟩:=ry;exact rule i j t t' s _ _ ⟨.bl (g i j),H,I,rfl,q⟩
def NC(i j:Int):Prop:=0<j/\j<1073741824
def WF(i j:Int):Prop:=0<=j/\j<=1000000/\i.natAbs<2 ^ 64
def Fl(i j:Int):Prop:=(-(2 ^ 64)<i/\i<2 ^ 64)\/(-(2 ^ 64)<j/\j<2 ^ 64)
theorem Fl.ok(h:Fl i j):IntMulOk i j:=by
 rcases h with ⟨h1,h2⟩|⟨h1,h2⟩
 .exact .of_left (intBits_le_64 h1 h2)
 .exact .of_right (intBits_le_64 h1 h2)
theorem eM:lH X (binaryOp .Add) (JE fun i j=>.int (i+j)):=RP fun _ _ _ _ _ _ _ q=>add_int q
theorem mx:lH X (binaryOp .Sub) (JE fun i j=>.int (i-j)):=RP fun _ _ _ _ _ _ _ q=>sub_int q
theorem o8:lH X (binaryOp .Mult) (rI Fl fun i j=>.int (i*j)):=QP fun _ _ _ _ _ _ _ hc q=>mul_int q hc.ok
theorem qF:lH X (binaryOp .FloorDiv) (rI NC fun i j=>.int (i / j)):=QP fun i j _ _ _ _ _ hc q=>by
 have h1:(0:Int)<j:=hc.1;have h2:j<1073741824:=hc.2;exact floordiv_int (by lia) (by rw[vc i (by lia)];exact q) (.inl (yP (by lia)))
theorem jt:lH X (binaryOp .Mod) (rI (fun _ j=>0<j) fun i j=>.int (i % j)):=QP fun i j _ _ _ _ _ hc q=>by
 have h1:(0:Int)<j:=hc;exact mod_int' (by lia) (by rw[yI i (by lia)];exact q)
theorem Fm:lH X (binaryOp .Pow) (rI WF fun i j=>.int (i ^ j.toNat)):=QP fun _ _ _ _ _ _ _ hc q=>pow_int_small hc.1 hc.2.1 hc.2.2 q
theorem Fn:lH X (inplaceOp .FloorDiv) (rI NC fun i j=>.int (i / j)):=QP fun i j _ _ _ _ _ hc q=>by
 have h1:(0:Int)<j:=hc.1;have h2:j<1073741824:=hc.2;exact ifloordiv_int (by lia) (by rw[vc i (by lia)];exact q) (.inl (yP (by lia)))
theorem unI{f:Value->Sem Value}{g:Int->Int}(rule:∀ (i:Int) (t:Tok) (s:Shared) (Q:Value->Shared->Prop) (E:Value->Shared->Prop),Q (.int (g i) s.toks) { s with toks:=s.toks+1 }->wpAny (model X.prog X.w) X.A (f (.int i t)) Q E s):
  WE X f (rU fun i=>.int (g i)):=by
 intro ae s σ H x v Q I rx h;obtain⟨i,rfl,q⟩:=h;obtain⟨t,rfl⟩:=rx;exact rule i t s _ _ ⟨.int (g i),H,I.tok _,⟨_,rfl⟩,q⟩
theorem o9:WE X (unaryOp .USub) (rU fun i=>.int (-i)):=unI fun _ _ _ _ _ q=>neg_int q
end
def ND:V->V->Bool
 |.bA,.bA=>true|.bA,.int _=>true|.int _,.bA=>true|.bA,.bl _=>true|.bl _,.bA=>true|.bA,.str _=>true|.str _,.bA=>true
 |.int _,.int _=>true|.bl _,.bl _=>true|.str _,.str _=>true|.EI _,.EI _=>true
 |.int _,.str _=>true|.str _,.int _=>true|.bl _,.str _=>true|.str _,.bl _=>true
 |_,_=>false
def QQ:R2:=fun x y H Q=>ND x y=true/\Q (.bl (decide (x=y))) H
def rNe:R2:=fun x y H Q=>ND x y=true/\Q (.bl (!decide (x=y))) H
theorem Bo:decide (V.int i=V.int j)=(i==j):=by
 rw[jR];simp
theorem Fo:decide (V.bl i=V.bl j)=(i==j):=by
 rw[jR];simp
theorem Bp:decide (V.str i=V.str j)=(i==j):=by
 rw[jR];simp
theorem Bq:decide (V.EI i=V.EI j)=(i.toList==j.toList):=by
 rw[jR];cases i;cases j;simp
section
variable {X:Cx} {a b c:Expr} {ta tb tc:TE} {pos:Pos}
theorem bJ(I:aE X ae σ H s)(q:Q (.bl k) H)(e:k=k'):EP X ae σ Q (.bool k') s:=by
 subst e;exact⟨.bl k,H,I,rfl,q⟩
theorem iY:lH X (compareOp .Eq) QQ:=by
 intro ae s σ H x y v u Q I rx ry h;obtain⟨hs,q⟩:=h;cases x with
 |bA=>
  cases rx;cases y with
  |bA=>cases ry;exact PySem.EqNone.eq_none_none (bJ I q (by simp))
  |bl j=>cases ry;exact PySem.EqNone.eq_none_bool (bJ I q (by simp))
  |int j=>obtain⟨t',rfl⟩:=ry;exact PySem.EqNone.eq_none_int (bJ I q (by simp))
  |str j=>obtain⟨t',rfl⟩:=ry;exact PySem.EqNone.eq_none_str (bJ I q (by simp))
  |_=>exact absurd (show false=true from hs) bo
 |bl i=>
  cases rx;cases y with
  |bA=>cases ry;exact PySem.EqNone.eq_bool_none (bJ I q (by simp))
  |bl j=>cases ry;exact eq_bool (bJ I q Fo)
  |str j=>obtain⟨t',rfl⟩:=ry;exact PySem.EqMixed.eq_bool_str (bJ I q (by simp))
  |_=>exact absurd (show false=true from hs) bo
 |int i=>
  obtain⟨t,rfl⟩:=rx;cases y with
  |bA=>cases ry;exact PySem.EqNone.eq_int_none (bJ I q (by simp))
  |int j=>obtain⟨t',rfl⟩:=ry;exact eq_int (bJ I q Bo)
  |str j=>obtain⟨t',rfl⟩:=ry;exact PySem.EqMixed.eq_int_str (bJ I q (by simp))
  |_=>exact absurd (show false=true from hs) bo
 |str i=>
  obtain⟨t,rfl⟩:=rx;cases y with
  |bA=>cases ry;exact PySem.EqNone.eq_str_none (bJ I q (by simp))
  |bl j=>cases ry;exact PySem.EqMixed.eq_str_bool (bJ I q (by simp))
  |int j=>obtain⟨t',rfl⟩:=ry;exact PySem.EqMixed.eq_str_int (bJ I q (by simp))
  |str j=>obtain⟨t',rfl⟩:=ry;exact eq_str (bJ I q Bp)
  |_=>exact absurd (show false=true from hs) bo
 |EI i=>
  obtain⟨t,rfl⟩:=rx;cases y with
  |EI j=>obtain⟨t',rfl⟩:=ry;exact PySem.W.eq_bytes (bJ I q Bq)
  |_=>exact absurd (show false=true from hs) bo
 |_=>cases y <;> exact absurd (show false=true from hs) bo
theorem xp:lH X (compareOp .NotEq) rNe:=by
 intro ae s σ H x y v u Q I rx ry h;obtain⟨hs,q⟩:=h;cases x with
 |bA=>
  cases rx;cases y with
  |bA=>cases ry;exact PySem.EqNone.ne_none_none (bJ I q (by simp))
  |bl j=>cases ry;exact PySem.EqNone.ne_none_bool (bJ I q (by simp))
  |int j=>obtain⟨t',rfl⟩:=ry;exact PySem.EqNone.ne_none_int (bJ I q (by simp))
  |str j=>obtain⟨t',rfl⟩:=ry;exact PySem.EqNone.ne_none_str (bJ I q (by simp))
  |_=>exact absurd (show false=true from hs) bo
 |bl i=>
  cases rx;cases y with
  |bA=>cases ry;exact PySem.EqNone.ne_bool_none (bJ I q (by simp))
  |bl j=>cases ry;exact ne_bool (bJ I q (congrArg not Fo))
  |str j=>obtain⟨t',rfl⟩:=ry;exact PySem.EqMixed.ne_bool_str (bJ I q (by simp))
  |_=>exact absurd (show false=true from hs) bo
 |int i=>
  obtain⟨t,rfl⟩:=rx;cases y with
  |bA=>cases ry;exact PySem.EqNone.ne_int_none (bJ I q (by simp))
  |int j=>obtain⟨t',rfl⟩:=ry;exact ne_int (bJ I q (congrArg not Bo))
  |str j=>obtain⟨t',rfl⟩:=ry;exact PySem.EqMixed.ne_int_str (bJ I q (by simp))
  |_=>exact absurd (show false=true from hs) bo
 |str i=>
  obtain⟨t,rfl⟩:=rx;cases y with
  |bA=>cases ry;exact PySem.EqNone.ne_str_none (bJ I q (by simp))
  |bl j=>cases ry;exact PySem.EqMixed.ne_str_bool (bJ I q (by simp))
  |int j=>obtain⟨t',rfl⟩:=ry;exact PySem.EqMixed.ne_str_int (bJ I q (by simp))
  |str j=>obtain⟨t',rfl⟩:=ry;exact ne_str (bJ I q (congrArg not Bp))
  |_=>exact absurd (show false=true from hs) bo
 |EI i=>
  obtain⟨t,rfl⟩:=rx;cases y with
  |EI j=>obtain⟨t',rfl⟩:=ry;exact PySem.W.ne_bytes (bJ I q (congrArg not Bq))
  |_=>exact absurd (show false=true from hs) bo
 |_=>cases y <;> exact absurd (show false=true from hs) bo
theorem rS:lH X (compareOp .Lt) (JE fun i j=>.bl (decide (i<j))):=NA fun _ _ _ _ _ _ _ q=>lt_int q
theorem Fp:lH X (compareOp .LtE) (JE fun i j=>.bl (decide (i<=j))):=NA fun _ _ _ _ _ _ _ q=>le_int q
theorem Br:lH X (compareOp .Gt) (JE fun i j=>.bl (decide (j<i))):=NA fun _ _ _ _ _ _ _ q=>gt_int q
theorem o_:lH X (compareOp .Is) (fun x y H Q=>y=.bA/\Q (.bl (decide (x=.bA))) H):=by
 intro ae s σ H x y v u Q I rx ry h;obtain⟨rfl,q⟩:=h;cases ry;refine is_none_gen (bJ I q ?_);cases x <;> first
  |(cases rx;rfl)
  |(obtain⟨t,rfl⟩:=rx;rfl)
theorem Bu:lH X (compareOp .IsNot) (fun x y H Q=>y=.bA/\Q (.bl (!decide (x=.bA))) H):=by
 intro ae s σ H x y v u Q I rx ry h;obtain⟨rfl,q⟩:=h;cases ry;refine isnot_none_gen (bJ I q ?_);cases x <;> first
  |(cases rx;rfl)
  |(obtain⟨t,rfl⟩:=rx;rfl)
theorem be(b:Expr)(h:op≠.In:=by decide)(h2:op≠.NotIn:=by decide):behindInMarks op b=false:=by
 have e1:(op==CmpOp.In)=false:=by cases op <;> first|rfl|exact absurd rfl h
 have e2:(op==CmpOp.NotIn)=false:=by cases op <;> first|rfl|exact absurd rfl h2
 cases b <;> simp[behindInMarks,e1,e2]
theorem ju(ho:lH X (compareOp op) r)(ha:PE X a ta)(hb:PE X b tb)(hm:behindInMarks op b=false):PE X (.Compare a [op] [b] pos) (nB r ta tb):=by
 intro ae s σ H Q I h;exact wpAny_Compare1 (Nz ha hb I h fun v u s2 x y H2 I2 rx ry q=>ho ae s2 σ H2 x y v u Q I2 rx ry q) hm
def iZ(t:TE):TT:=fun σ H Q=>t σ H fun x H'=>∃k,x=.bl k/\Q k H'
theorem aK(ho:lH X (compareOp op) r)(ha:PE X a ta)(hb:PE X b tb)(hm:behindInMarks op b=false):PT X (.Compare a [op] [b] pos) (iZ (nB r ta tb)):=by
 intro ae s σ H Q I h;refine wpAny_isTrue_Compare1 (cj (ha ae s σ H _ I h) fun v s1 ⟨x,H1,I1,r1,q1⟩=>cj (hb ae s1 σ H1 _ I1 q1) fun u s2 ⟨y,H2,I2,r2,q2⟩=>
  cj (ho ae s2 σ H2 x y v u _ I2 r1 r2 q2) fun c s3 ⟨z,H3,I3,r3,k,e,q3⟩=>?_) hm
 subst e;cases r3;exact kd ⟨H3,I3,q3⟩
def Fq(r r':R2)(ta tb tc:TE):TE:=fun σ H Q=>ta σ H fun x H1=>tb σ H1 fun y H2=>r x y H2 fun z H3=>∃k,z=.bl k/\
 (if k=true then tc σ H3 fun w' H4=>r' y w' H4 Q else Q (.bl false) H3)
theorem Fs(ho:lH X (compareOp op) r)(zN:lH X (compareOp QR) r')(ha:PE X a ta)(hb:PE X b tb)(hc:PE X c tc)(hm:lastMarks [op,QR] [b,c]=false:=by with_unfolding_all rfl):PE X (.Compare a [op,QR] [b,c] pos) (Fq r r' ta tb tc):=by
 intro ae s σ H Q I h;refine Compare_chain (cj (ha ae s σ H _ I h) fun v s1 ⟨x,H1,I1,r1,q1⟩=>chain_link (cj (hb ae s1 σ H1 _ I1 q1) fun u s2 ⟨y,H2,I2,r2,q2⟩=>
  cj (ho ae s2 σ H2 x y v u _ I2 r1 r2 q2) fun d s3 ⟨z,H3,I3,r3,k,e,q3⟩=>?_)) hm
 subst e;cases r3;refine kd ?_;cases k with
 |false=>exact ite_ff ⟨.bl false,H3,I3,rfl,q3⟩
 |true=>exact ite_tt (chain_last (cj (hc ae s3 σ H3 _ I3 q3) fun w' s4 ⟨z',H4,I4,r4,q4⟩=>zN ae s4 σ H4 y z' u w' Q I4 r2 r4 q4))
theorem Ft{op QR:CmpOp}{r r':R2}(ho:lH X (compareOp op) r)(zN:lH X (compareOp QR) r')(ha:PE X a ta)(hb:PE X b tb)(hc:PE X c tc)(hm:lastMarks [op,QR] [b,c]=false:=by with_unfolding_all rfl):PT X (.Compare a [op,QR] [b,c] pos) (iZ (Fq r r' ta tb tc)):=by
 intro ae s σ H Q I h;refine isTrue_chain (cj (ha ae s σ H _ I h) fun v s1 ⟨x,H1,I1,r1,q1⟩=>test_link (cj (hb ae s1 σ H1 _ I1 q1) fun u s2 ⟨y,H2,I2,r2,q2⟩=>
  cj (ho ae s2 σ H2 x y v u _ I2 r1 r2 q2) fun d s3 ⟨z,H3,I3,r3,k,e,q3⟩=>?_)) hm
 subst e;cases r3;refine kd ?_;cases k with
 |false=>
  obtain⟨k',e',q'⟩:=q3;cases e';exact ite_ff ⟨H3,I3,q'⟩
 |true=>
  refine ite_tt (test_last (cj (hc ae s3 σ H3 _ I3 q3) fun w' s4 ⟨z',H4,I4,r4,q4⟩=>cj (zN ae s4 σ H4 y z' u w' _ I4 r2 r4 q4) fun d' s5 ⟨z2,H5,I5,r5,k2,e2,q5⟩=>?_));subst e2;cases r5;exact kd ⟨H5,I5,q5⟩
theorem rT:(sizeLine:Nat)<2 ^ 63:=by rw[kr];decide
theorem Fu(r:aP [x] us):∃u,us=[u]/\bn x u:=by
 cases r with
 |cons r1 r2=>cases r2;exact⟨_,rfl,r1⟩
theorem Fv(r:aP [x,y] us):∃u w',us=[u,w']/\bn x u/\bn y w':=by
 cases r with
 |cons r1 r2=>
  cases r2 with
  |cons r3 r4=>cases r4;exact⟨_,_,rfl,r1,r3⟩
theorem ut(hc:X.calm=true):gb X (.builtin "max") (fun xs H Q=>∃i j,xs=[.int i,.int j]/\Q (.int (if j > i then j else i)) H):=by
 intro ae s σ H xs us Q I r h;obtain⟨i,j,rfl,q⟩:=h;obtain⟨u,w',rfl,⟨t,rfl⟩,⟨t',rfl⟩⟩:=Fv r;refine max_two_ints (I.ok.hd hc) fun h' tk k=>⟨_,H,I.kept k,?_,q⟩
 by_cases hj:j > i
 .rw[ai hj,ai hj];exact⟨_,rfl⟩
 .rw[ap hj,ap hj];exact⟨_,rfl⟩
theorem uv(hc:X.calm=true):gb X (.builtin "min") (fun xs H Q=>∃i j,xs=[.int i,.int j]/\Q (.int (if j<i then j else i)) H):=by
 intro ae s σ H xs us Q I r h;obtain⟨i,j,rfl,q⟩:=h;obtain⟨u,w',rfl,⟨t,rfl⟩,⟨t',rfl⟩⟩:=Fv r;refine min_two_ints (I.ok.hd hc) fun h' tk k=>⟨_,H,I.kept k,?_,q⟩
 by_cases hj:j<i
 .rw[ai hj,ai hj];exact⟨_,rfl⟩
 .rw[ap hj,ap hj];exact⟨_,rfl⟩
end
structure zS(h:Heap)(x dx C:Addr)(mA:Str->Option Value):Prop where
 obj:h.get? x=some (PySem.W.instObj C dx)
 ns:h.Ns1 dx mA
 ne:dx≠x
theorem Dj{h:Heap}{dx:Addr}{mA:Str->Option Value}(n:h.Ns1 dx mA):∃od,h.get? dx=some od/\∀name,PySem.W.lookIn name od=some (mA name):=by
 obtain⟨o,es,ep,ho,hd,hk,_,hm⟩:=n;refine⟨o,ho,fun name=>?_⟩;have e:=hm name;unfold nsFind findBy at e;rw[<-Array.find?_toList] at e;unfold PySem.W.lookIn;rw[hd];dsimp only;split
 .rename_i y q;rw[q] at e;exact congrArg some e
 .rename_i q;rw[q] at e;have a:es.toList.any (·.refKey)=false:=by
   rw[zh];intro y hy;obtain⟨z,t,nC⟩:=hk y (Array.mem_toList_iff.mp hy);simp[DictEntry.refKey,nC]
  have a':¬ es.toList.any (·.refKey)=true:=by rw[a];exact bo
  rw[ap a'];exact congrArg some e
theorem zS.look(I:zS h x dx C mA):∃od,PySem.W.InstAt h x (PySem.W.instObj C dx) C (some od)/\∀name,PySem.W.lookIn name od=some (mA name):=
 let ⟨od,ho,hl⟩:=Dj I.ns
 ⟨od,⟨I.obj,rfl,rfl,ho⟩,hl⟩
section
variable {prog:Program} {w:World} {A:Around} {E:Value->Shared->Prop} {s:Shared} {K:PySem.W.Frag} {x dx C f:Addr} {mA:Str->Option Value} {name:Str} {v:Value}
theorem JF(X:K.In s.heap)(I:zS s.heap x dx C mA)(hg:PySem.W.plainGet K C name=true)(hh:PySem.W.hasDictIn K C=true)(ha:PySem.W.findIn K (.ref C) name=some none)(hv:mA name=some v)(NE:PySem.W.handedIn v=true)(h:Q v { s with toks:=s.toks+1 }):
  wpAny (model prog w) A (getAttr (.ref x) name JG) Q E s:=by
 obtain⟨od,J,hl⟩:=I.look;exact PySem.W.get_value X J (y3 hg).1 (PySem.W.findObj_own hh ha rfl (by rw[hl,hv])) NE h
theorem Fw(X:K.In s.heap)(I:zS s.heap x dx C mA)(hg:PySem.W.plainGet K C name=true)(hf:PySem.W.findIn K (.ref C) name=some (some (.ref f)))(ht:PySem.W.isFn K (.ref f)=true)(hv:mA name=none)(h:Q (.ref f,[.ref x]) s):
  wpAny (model prog w) A (getMethod (.ref x) name pl) Q E s:=by
 obtain⟨od,J,hl⟩:=I.look;exact PySem.W.method_fn X J (y3 hg).1 (y3 hg).2 hf (dL.mp ht) (by show (PySem.W.lookIn name od).map (·.isSome)=some false;rw[hl,hv];rfl) h
theorem JJ(X:K.In s.heap)(I:zS s.heap x dx C mA)(hs:PySem.W.findIn K (.ref C) "__setattr__"=some (some (.builtin "object.__setattr__")))(hp:PySem.W.plainOver K C=true)(ht:PySem.W.takerIn K C name=some none)(hh:PySem.W.hasDictIn K C=true)(hw:PySem.Within mA ns)(hsz:ns.length<=sizeLine)(h:∀h',zS h' x dx C (fun y=>if y=name then some v else mA y)->Heap.SameBut dx s.heap h'->Q () { s with heap:=h',toks:=s.toks+2 }):
  wpAny (model prog w) A (setAttr (.ref x) name v) Q E s:=by
 obtain⟨od,J,hl⟩:=I.look;refine PySem.W.set_plain X J hs (PySem.W.osa_open (s:={ s with toks:=s.toks+1 }) (r:=none) X J hp ht fun b=>?_);obtain⟨cd,hc,Rt⟩:=PySem.W.any_some hh;have hx:s.heap.get? x=some ⟨.ref C,some dx,.plain,#[]⟩:=I.obj;refine aj (wpAny_pure (aj (aj (wpAny_loadPart hx (aj (PySem.W.Looks.here (s:={ s with toks:=s.toks+1 }) (PySem.W.looks_clsIn X hc) ?_))))));rw[Rt];refine wpAny_pure (a:=some dx) (aj (wpAny_pure (aj ?_)));refine wpAny_nsSet1 (s:={ s with toks:=s.toks+1 }) I.ns fun h' QS tY=>?_;obtain⟨oD,esD,epD,hoD,RQ,JK⟩:=QS.count (PySem.Within.cons name v hw);refine aj (wpAny_lookBehind hoD (by rw[RQ];exact pastItsLine_dict (aZ JK (by rw[cD];lia))) ?_);exact wpAny_pure (h _ ⟨(tY.2 _ (bE I.ne)).trans I.obj,QS,I.ne⟩ tY)
theorem Fx(X:K.In s.heap)(hm:PySem.W.makesIn K C=true)(hi:PySem.W.findIn K (.ref C) "__init__"=some (some (.ref f)))(hf:PySem.W.typeIn K (.ref f)=some (.type "function"))(h:codeAny (model prog w) (A.under (.builtin "type.__call__" ⟨.ref C::vs,kw⟩)) (.call (.ref f) ⟨.ref (s.heap.objs.size+1)::vs,kw⟩) (PySem.W.InitBack (s.heap.objs.size+1) R)
   { s with heap:=(s.heap.push PySem.W.emptyDict).push (PySem.W.instObj C s.heap.objs.size) }):
  codeAny (model prog w) A (.call (.ref C) ⟨vs,kw⟩) R s:=by
 obtain⟨hh,g,d,t,os⟩:=s;exact PySem.W.make_core (PySem.W.makes_of X hm) (PySem.W.looks_findIn X hi) (fun self=>PySem.W.bind_fn X self hf) (.inl rfl) h
end
def cY(f:Str)(v:V):List (Str×V)->List (Str×V)
 |[]=>[(f,v)]
 |(g,x)::r=>if g=f then (g,v)::r else (g,x)::cY f v r
theorem aX(f g:Str)(v:V):∀fs:List (Str×V),(cY f v fs).lookup g=if g=f then some v else fs.lookup g
 |[]=>by
  show List.lookup g [(f,v)]=_;by_cases h:g=f
  .have hb:(g==f)=true:=dL.mpr h;simp only[List.lookup,hb,ai h]
  .have hb:(g==f)=false:=l7.mpr h;simp only[List.lookup,hb,ap h]
 |(k,x)::r=>by
  have ih:=aX f g v r;rw[show cY f v ((k,x)::r)=(if k=f then (k,v)::r else (k,x)::cY f v r) from rfl];by_cases hk:k=f
  .rw[ai hk];by_cases h:g=k
   .have hb:(g==k)=true:=dL.mpr h;simp only[List.lookup,hb,ai (h.trans hk)]
   .have hb:(g==k)=false:=l7.mpr h;simp only[List.lookup,hb,ap (fun e:g=f=>h (e.trans hk.symm))]
  .rw[ap hk];by_cases h:g=k
   .have hb:(g==k)=true:=dL.mpr h;simp only[List.lookup,hb,ap (fun e:g=f=>hk (h.symm.trans e))]
   .have hb:(g==k)=false:=l7.mpr h;simp only[List.lookup,hb];exact ih
theorem pc(f:Str)(v:V):∀fs:List (Str×V),f∈(cY f v fs).map (·.1)/\∀g,g∈fs.map (·.1)->g∈(cY f v fs).map (·.1)
 |[]=>⟨by simp[cY],fun g h=>by simp at h⟩
 |(k,x)::r=>by
  obtain⟨i1,i2⟩:=pc f v r;rw[show cY f v ((k,x)::r)=(if k=f then (k,v)::r else (k,x)::cY f v r) from rfl];by_cases hk:k=f
  .rw[ai hk];subst hk;exact⟨by simp,fun g h=>by simpa using h⟩
  .rw[ap hk];refine⟨?_,fun g h=>?_⟩
   .rw[eD];exact bL _ i1
   .rw[eD] at h |-;rcases a7.mp h with e|e
    .exact a7.mpr (.inl e)
    .exact bL _ (i2 g e)
theorem dW(f:Str)(v:V):∀fs:List (Str×V),(cY f v fs).length<=fs.length+1
 |[]=>by simp[cY]
 |(k,x)::r=>by
  have ih:=dW f v r;rw[show cY f v ((k,x)::r)=(if k=f then (k,v)::r else (k,x)::cY f v r) from rfl];by_cases hk:k=f
  .rw[ai hk,cD,cD];lia
  .rw[ap hk,cD,cD];lia
theorem lG.some_of(r:lG (some v) o):∃u,o=some u/\bn v u:=by
 cases o with
 |none=>exact(show False from r).elim
 |some u=>exact⟨u,rfl,r⟩
theorem lG.none_of(r:lG none o):o=none:=by
 cases o with
 |none=>rfl
 |some u=>exact(show False from r).elim
theorem Dk(r:bn v u):PySem.W.handedIn u=true:=by
 cases v with
 |bA=>cases (show u=Value.none from r);rfl
 |bl b=>cases (show u=Value.bool b from r);rfl
 |int i=>obtain⟨t,e⟩:=(show ∃t,u=Value.int i t from r);cases e;rfl
 |str x=>obtain⟨t,e⟩:=(show ∃t,u=Value.str x t from r);cases e;rfl
 |EI b=>obtain⟨t,e⟩:=(show ∃t,u=Value.bytes b t from r);cases e;rfl
 |Nn b=>obtain⟨t,e⟩:=(show ∃t,u=Value.float b t from r);cases e;rfl
 |ref a=>cases (show u=Value.ref a from r);rfl
 |ty n=>cases (show u=Value.type n from r);rfl
section
variable {P:Program} {w:World} {H H':Hp} {h h':Heap} {a C dx:Addr} {fs fs':List (Str×V)}
theorem qG(bU:jY P w H h)(e:H a=some (.ins C dx fs)):∃mA,zS h a dx C mA/\(∀f,lG (fs.lookup f) (mA f))/\PySem.Within mA (fs.map (·.1))/\fs.length<=1000/\H dx=some (.own a):=by
 obtain⟨d,z,ne,ob,mA,n,r,q⟩:=(show bX P w H h a (.ins C dx fs) from bU a _ e)
 exact⟨mA,⟨ob,n,ne⟩,r,q,z,d⟩
end
structure EK(K:PySem.W.Frag)(C:Addr):Prop where
 pg:PySem.W.plainGet K C Str.empty=true
 hd:PySem.W.hasDictIn K C=true
 po:PySem.W.plainOver K C=true
 sa:PySem.W.findIn K (.ref C) "__setattr__"=some (some (.builtin "object.__setattr__"))
theorem EK.get{K:PySem.W.Frag}{C:Addr}(c:EK K C)(f:Str):PySem.W.plainGet K C f=true:=c.pg
def gy(K:PySem.W.Frag)(C:Addr)(f:Str):Prop:=PySem.W.findIn K (.ref C) f=some none
theorem gy.RS{K:PySem.W.Frag}{C:Addr}{f:Str}(n:gy K C f):PySem.W.takerIn K C f=some none:=by
 unfold PySem.W.takerIn;rw[show PySem.W.findIn K (.ref C) f=some none from n];rfl
structure JM(K:PySem.W.Frag)(C:Addr)(m:Str)(f:Addr):Prop where
 at_:PySem.W.findIn K (.ref C) m=some (some (.ref f))
 fn:PySem.W.isFn K (.ref f)=true
 kp:PySem.W.keepIn K (.ref f)=true
section
variable {X:Cx} {ae:List (Addr×Obj)} {σ:St} {H:Hp} {s:Shared} {a C dx:Addr} {fs:List (Str×V)} {f:Str} {v:V} {A:Around} {E:Value->Shared->Prop}
theorem zU(I:aE X ae σ H s)(e:H a=some (.ins C dx fs))(c:EK X.K C)(n:gy X.K C f)(l:fs.lookup f=some v)(h:∀u s',aE X ae σ H s'->bn v u->Q u s'):wpAny (model X.prog X.w) A (getAttr (.ref a) f b) Q E s:=by
 obtain⟨mA,O,r,_,_,_⟩:=qG I.bU e;obtain⟨u,hu,ru⟩:=lG.some_of (v:=v) (o:=mA f) (by rw[<-l];exact r f);exact JF I.pV O (c.get f) c.hd n hu (Dk ru) (h u _ (I.tok _) ru)
theorem rV(I:aE X ae σ H s)(e:H a=some (.ins C dx fs))(c:EK X.K C)(k:JM X.K C m g)(l:fs.lookup m=none)(h:Q (.ref g,[.ref a]) s):wpAny (model X.prog X.w) A (getMethod (.ref a) m pl) Q E s:=by
 obtain⟨mA,O,r,_,_,_⟩:=qG I.bU e;have hn:mA m=none:=lG.none_of (by rw[<-l];exact r m);exact Fw I.pV O (c.get m) k.at_ k.fn hn h
theorem zV(I:aE X ae σ H s)(e:H a=some (.ins C dx fs))(c:EK X.K C)(n:gy X.K C f)(hl:fs.length<1000)(ry:bn y u)(h:∀s',aE X ae σ (upd H a (.ins C dx (cY f y fs))) s'->Q () s'):wpAny (model X.prog X.w) A (setAttr (.ref a) f u) Q E s:=by
 obtain⟨mA,O,r,wi,_,ho⟩:=qG I.bU e;have hz:(fs.map (·.1)).length<=sizeLine:=by rw[aV,kr];lia
 refine JJ I.pV O c.sa c.po n.RS c.hd wi hz fun h' O' sb=>h _ ?_;have hd:∃o,h'.get? dx=some o:=let ⟨o,_,_,e',_⟩:=O'.ns;⟨o,e'⟩;refine I.write (x:=a) (e:=dx) (by rw[e];exact True.intro) (.inr ho) (fun b q hb z=>(sb.2 b hb).trans z) hd ?_;refine⟨by rw[al O.ne];exact ho,?_,O.ne,O'.obj,_,O'.ns,fun g=>?_,fun g hg=>?_⟩
 .have:=dW f y fs;lia
 .show lG ((cY f y fs).lookup g) (if g=f then some u else mA g);rw[aX];by_cases q:g=f
  .rw[ai q,ai q];exact ry
  .rw[ap q,ap q];exact r g
 .by_cases q:g=f
  .rw[q];exact(pc f y fs).1
  .refine(pc f y fs).2 g (wi g fun z=>hg ?_);show (if g=f then some u else mA g)=none;rw[ap q];exact z
theorem aE.made(I:aE X ae σ H s):aE X ae σ (upd (upd H s.heap.objs.size (.own (s.heap.objs.size+1))) (s.heap.objs.size+1) (.ins C s.heap.objs.size []))
  { s with heap:=(s.heap.push PySem.W.emptyDict).push (PySem.W.instObj C s.heap.objs.size) }:=by
 have e1:(s.heap.push PySem.W.emptyDict).get? s.heap.objs.size=some PySem.W.emptyDict:=bR s.heap rfl;have e2:((s.heap.push PySem.W.emptyDict).push (PySem.W.instObj C s.heap.objs.size)).get? (s.heap.objs.size+1)=some (PySem.W.instObj C s.heap.objs.size):=by
  have:=bR (s.heap.push PySem.W.emptyDict) (o:=PySem.W.instObj C s.heap.objs.size) rfl;rwa [hU] at this
 have e3:(s.heap.push PySem.W.emptyDict).Ns s.heap.objs.size (fun _=>none):=⟨PySem.W.emptyDict,#[],_,e1,rfl,(fun e he=>absurd he (by simp)),fun _=>rfl⟩
 have I1:=I.laid (a:=s.heap.objs.size) (o:=.own (s.heap.objs.size+1)) (h':=s.heap.push PySem.W.emptyDict) (t':=s.toks) (fun b u q=>bp _ q) (aW _) ⟨_,e1⟩;refine I1.laid (a:=s.heap.objs.size+1) (o:=.ins C s.heap.objs.size []) (t':=s.toks) (fun b u q=>bp _ q) (rH (hU _ _)) ?_;have ne:s.heap.objs.size≠s.heap.objs.size+1:=aT (j5 _);refine⟨by rw[al ne,ag],cE _,ne,e2,fun _=>none,(Heap.Ns1.of_empty e3).at fun o q=>bp _ q,fun _=>True.intro,fun y hy=>absurd rfl hy⟩
theorem JN(hb:attributeBase e f env (eval e env)=eval e env)(h:wpAny (model prog w) A (eval e env) (fun o s₁=>wpAny (model prog w) A (getAttr o f true) Q E s₁) E s):wpAny (model prog w) A (eval (.Attribute e f pos) env) Q E s:=
 Attribute_any_ h (by rw[arm_eval_Attribute,hb])
end
def RT(K:PySem.W.Frag)(ta:TE)(f:Str):TE:=fun σ H Q=>ta σ H fun x H1=>∃a C dx fs v,x=.ref a/\H1 a=some (.ins C dx fs)/\EK K C/\gy K C f/\fs.lookup f=some v/\Q v H1
def WG(K:PySem.W.Frag)(ta tv:TE)(f:Str):TS:=fun D σ H=>tv σ H fun y H1=>ta σ H1 fun x H2=>∃a C dx fs,x=.ref a/\H2 a=some (.ins C dx fs)/\EK K C/\gy K C f/\fs.length<1000/\
 D.nx σ (upd H2 a (.ins C dx (cY f y fs)))
section
variable {X:Cx} {o e value:Expr} {f:Str} {pos xn Dg:Pos} {ta tv:TE}
theorem gC(he:PE X e ta)(hb:attributeBase e f X.env (eval e X.env)=eval e X.env):PE X (.Attribute e f pos) (RT X.K ta f):=by
 intro ae s σ H Q I h;refine JN hb (cj (he ae s σ H _ I h) fun u s1 ⟨x,H1,I1,rx,a,C,dx,fs,v,ex,ea,c,n,l,q⟩=>?_);subst ex;obtain rfl:u=Value.ref a:=rx;exact zU I1 ea c n l fun u' s2 I2 ru=>⟨v,H1,I2,ru,q⟩
theorem pf(ha:PE X o ta)(hv:PE X value tv)(hs:swapsWith value (some (.Attribute o f xn)) pos.line X.env=pure false):PS X (.Assign [.Attribute o f xn] value pos) (WG X.K ta tv f):=by
 intro ae s σ H D I h;refine plainObj_wpAny_Assign_Attribute (cj (hv ae s σ H _ I h) fun u s1 ⟨y,H1,I1,ry,q⟩=>cj (ha ae s1 σ H1 _ I1 q) fun ov s2 ⟨x,H2,I2,rx,a,C,dx,fs,ex,ea,c,n,l,q2⟩=>?_) hs;subst ex;obtain rfl:ov=Value.ref a:=rx;exact zV I2 ea c n l ry fun s3 I3=>⟨σ,_,I3,q2⟩
end
section
variable {X:Cx} {ae:List (Addr×Obj)} {σ:St} {H:Hp} {s:Shared} {A:Around} {E:Value->Shared->Prop} {Q:Value->Shared->Prop} {c:Value} {b:Bool}
inductive pi (K:PySem.W.Frag) (H:Hp):V->Value->Prop where
 |bA:pi K H .bA (.type "NoneType")
 |bl (x:Bool):pi K H (.bl x) (.type "bool")
 |int (i:Int):pi K H (.int i) (.type "int")
 |str (x:Str):pi K H (.str x) (.type "str")
 |Nn (x:UInt64):pi K H (.Nn x) (.type "float")
 |lst {a:Addr} {xs:List V} (e:H a=some (.lst xs)):pi K H (.ref a) (.type "list")
 |mm {a:Addr} {o:Obj} {xs:List V} (e:H a=some (.mm o (.lst xs))):pi K H (.ref a) (.type "list")
 |tup {a:Addr} {xs:List V} (e:H a=some (.tup xs)):pi K H (.ref a) (.type "tuple")
 |dK {a:Addr} {kvs:List (dI×V)} (e:H a=some (.dK kvs)):pi K H (.ref a) (.type "dict")
 |dT {a:Addr} {kvs:List (List dI×V)} (e:H a=some (.dT kvs)):pi K H (.ref a) (.type "dict")
 |ins {a C dx:Addr} {fs:List (Str×V)} (e:H a=some (.ins C dx fs)) (cl:EK K C) (ha:PySem.W.findIn K (.ref C) "__class__"=some (some (.builtin "object.__class__")))
   (hn:PySem.W.specialIn K (.builtin "object.__class__") "__get__"=some (some (.builtin "getset_descriptor.__get__"))) (WH:PySem.W.takesIn K (.builtin "object.__class__")=some true)
   (hm:PySem.W.mroIn K C (.type "object")=some true):pi K H (.ref a) (.ref C)
theorem Dl(I:aE X ae σ H s)(rx:bn x u)(ty:pi X.K H x t)(e:PySem.W.kitOne X.K t c=some b)(h:∀tk,Q (.bool b) { s with toks:=tk }):
  wpAny (model X.prog X.w) A (call (.builtin "isinstance") [u,c]) Q E s:=by
 cases ty with
 |bA=>cases (show u=Value.none from rx);exact jP PySem.W.kitx_none I.pV True.intro e (fun z=>nomatch z) h
 |bl y=>cases (show u=Value.bool y from rx);exact jP PySem.W.kitx_bool I.pV True.intro e (fun z=>nomatch z) h
 |int i=>obtain⟨t,q⟩:=(show ∃t,u=Value.int i t from rx);cases q;exact jP PySem.W.kitx_int I.pV True.intro e (fun z=>nomatch z) h
 |str y=>obtain⟨t,q⟩:=(show ∃t,u=Value.str y t from rx);cases q;exact jP PySem.W.kitx_str I.pV True.intro e (fun z=>nomatch z) h
 |Nn y=>obtain⟨t,q⟩:=(show ∃t,u=Value.float y t from rx);cases q;exact jP PySem.W.kitx_float I.pV True.intro e (fun z=>nomatch z) h
 |@lst a xs ea=>
  cases (show u=Value.ref a from rx);obtain⟨_,_,n,_,h1⟩:=(show bX X.prog X.w H s.heap a (.lst xs) from I.bU a _ ea)
  exact jP PySem.W.kitx_list I.pV ⟨_,h1,rfl⟩ e (fun z=>nomatch z) h
 |@mm a ob xs ea=>
  cases (show u=Value.ref a from rx);obtain⟨_,_,_,n,_,h1⟩:=(show bX X.prog X.w H s.heap a (.mm ob (.lst xs)) from I.bU a _ ea)
  exact jP PySem.W.kitx_list I.pV ⟨_,h1,rfl⟩ e (fun z=>nomatch z) h
 |@tup a xs ea=>
  cases (show u=Value.ref a from rx);obtain⟨_,_,_,p⟩:=(show bX X.prog X.w H s.heap a (.tup xs) from I.bU a _ ea)
  obtain⟨o,h1,h2,_⟩:=p;exact jP PySem.W.kitx_tuple I.pV ⟨o,h1,h2⟩ e (fun z=>nomatch z) h
 |@dK a kvs ea=>
  cases (show u=Value.ref a from rx);obtain⟨_,_,vs,_,p⟩:=(show bX X.prog X.w H s.heap a (.dK kvs) from I.bU a _ ea)
  obtain⟨o,es,ep,h1,h2,_⟩:=p;exact jP PySem.W.kitx_dict I.pV ⟨o,h1,h2.1⟩ e (fun z=>nomatch z) h
 |@dT a kvs ea=>
  cases (show u=Value.ref a from rx);obtain⟨_,_,xs,_,o,es,ep,h1,h2,_⟩:=(show bX X.prog X.w H s.heap a (.dT kvs) from I.bU a _ ea)
  exact jP PySem.W.kitx_dict I.pV ⟨o,h1,h2.1⟩ e (fun z=>nomatch z) h
 |@ins a C dx fs ea cl ha hn WH hm=>
  cases (show u=Value.ref a from rx);obtain⟨mA,O,_⟩:=qG I.bU ea;obtain⟨od,J,_⟩:=O.look;exact jP (PySem.W.kitx_own (cl.get _) cl.hd ha hn WH hm) I.pV J e (fun z=>nomatch z) h
end
structure bQ(k:Nat)(A:Around):Prop where
 hd:A.handled=none
 dp:A.depth+3*k+5<recursionLimit
 un:A.units+16*k+200<cLine
 gd:A.guards=some []
theorem bQ.mono(r:bQ k A)(h:j<=k):bQ j A:=⟨r.hd,by have:=r.dp;lia,by have:=r.un;lia,r.gd⟩
theorem bQ.deeper(r:bQ (k+1) A)(env:Env):bQ k (A.deeper env):=
 ⟨r.hd,by have:=r.dp;show A.depth+1+3*k+5<_;lia,by have:=r.un;show A.units+3+16*k+200<_;lia,r.gd⟩
theorem zW{A:Around}{C:Addr}{us:List Value}{kw:List (Str×Value)}:(A.under (.builtin "type.__call__" ⟨.ref C::us,kw⟩)).depth=A.depth+1:=by
 first|rfl|simp[Around.under,Code.weight,Code.isCreation,Code.isGuard,Code.isCaller,Code.frames,Code.isFrame,guardIds]
theorem zX{A:Around}{C:Addr}{us:List Value}{kw:List (Str×Value)}:(A.under (.builtin "type.__call__" ⟨.ref C::us,kw⟩)).units=A.units+1:=by
 first|rfl|simp[Around.under,Code.cUnits,Code.frames,Code.isFrame]
theorem bQ.make(r:bQ (k+1) A)(C:Addr)(us:List Value)(kw:List (Str×Value)):bQ k (A.under (.builtin "type.__call__" ⟨.ref C::us,kw⟩)):=
 ⟨r.hd,by have:=r.dp;rw[zW];lia,by have:=r.un;rw[zX];lia,r.gd⟩
theorem bQ.depth(r:bQ k A):A.depth<recursionLimit:=by have:=r.dp;lia
theorem bQ.u(r:bQ k A)(h:n<=200:=by decide):A.units+n<cLine:=by have:=r.un;lia
def mz:TA:=fun _ H Q=>Q [] H
def dq(ta:TE)(tr:TA):TA:=fun σ H Q=>ta σ H fun x H1=>tr σ H1 fun xs H2=>Q (x::xs) H2
section
variable {X:Cx} {e:Expr} {es:List Expr} {te:TE} {t:TA} {pos:Pos}
theorem af:PA X [] mz:=fun _ _ _ _ H Q I h=>Calls.spliced_nil ⟨[],H,I,.nil,h⟩
theorem aa(ha:PE X e te)(hr:PA X es t)(hs:starEach (e::es) X.env=(false,eval e X.env)::starEach es X.env:=by rfl):PA X (e::es) (dq te t):=by
 intro pos ae s σ H Q I h;rw[hs];show wpAny _ _ (spliced ((false,eval e X.env)::backTo pos (starEach es X.env))) _ _ s;refine Calls.spliced_cons (cj (ha ae s σ H _ I h) fun u s1 ⟨x,H1,I1,r1,q1⟩=>?_);exact cj (hr pos ae s1 σ H1 _ I1 q1) fun us s2 ⟨xs,H2,I2,r2,q2⟩=>⟨x::xs,H2,I2,.cons r1 r2,q2⟩
def NF(t:TA):TE:=fun σ H Q=>t σ H fun xs H1=>xs.length<=sizeLine/\∀p,H1 p=none->Q (.ref p) (upd H1 p (.tup xs))
def WJ(t:TA):TE:=fun σ H Q=>t σ H fun xs H1=>xs.length<=sizeLine/\∀p,H1 p=none->Q (.ref p) (upd H1 p (.lst xs))
theorem iS{x1}(h:PA X es t):PE X (.Tuple es x1 pos) (NF t):=by
 intro ae s σ H Q I hq;refine wpAny_Tuple_spliced (cj (h pos ae s σ H _ I hq) fun us s1 ⟨xs,H1,I1,r,z,q⟩=>⟨by rw[<-r.length];exact z,?_⟩);have hf:H1 s1.heap.objs.size=none:=I1.bU.fresh (aW _);refine⟨.ref s1.heap.objs.size,upd H1 s1.heap.objs.size (.tup xs),I1.laid (t':=s1.toks) (fun b u e=>bp _ e) (aW _) ?_,rfl,q _ hf⟩;exact⟨z,us,r,⟨_,bR _ rfl,rfl,_,rfl,rfl⟩⟩
theorem dX(h:PA X es t):PE X (.List es pos) (WJ t):=by
 intro ae s σ H Q I hq;refine wpAny_List_spliced (cj (h pos ae s σ H _ I hq) fun us s1 ⟨xs,H1,I1,r,z,q⟩=>⟨by rw[<-r.length];exact z,?_⟩);have hf:H1 s1.heap.objs.size=none:=I1.bU.fresh (aW _);refine⟨.ref s1.heap.objs.size,upd H1 s1.heap.objs.size (.lst xs),I1.laid (t':=s1.toks) (fun b u e=>bp _ e) (aW _) ?_,rfl,q _ hf⟩;exact⟨z,us,0,r,bR _ rfl⟩
end
abbrev Sp:=List V->Hp->VK->XK->Prop
abbrev xf:=List Env->Hp->Shared->XK->Value->Shared->Prop
structure zY(P:Program)(w:World)(K:PySem.W.Frag)(mg:Str->Option Value)(base:Heap)(A:Around)(outer:List Env)(s:Shared)(H:Hp):Prop where
 frames:A.frames=some outer
 mod:Mod K mg base
 bs:∀b o,base.get? b=some o->s.heap.get? b=some o/\H b=none
 I0:base.objs.size<=s.heap.objs.size
 nA:s.heap.FunFrames base outer
 Jw:∀b∈oZ outer,H b=none
 bU:jY P w H s.heap
 bare:AllBare s.gens
def CE(outer:List Env)(P:Program)(w:World)(H:Hp)(s:Shared)(Q:VK)(u:Value)(s':Shared):Prop:=
 ∃v H',s'.os=s.os/\AllBare s'.gens/\Un (oZ outer) [] H H' s.heap s'.heap/\jY P w H' s'.heap/\bn v u/\Q v H'
def CR(CX:xf)(outer:List Env)(P:Program)(w:World)(H:Hp)(s:Shared)(Q:VK)(E:XK)(r:Result)(s':Shared):Prop:=
 match r with
 |.ok (.ret u)=>CE outer P w H s Q u s'
 |.ok _=>False
 |.error e=>CX outer H s E e s'
structure bj(P:Program)(w:World)(K:PySem.W.Frag)(mg:Str->Option Value)(base:Heap)(CX:xf)(k:Nat)(f:Addr)(fd:FuncData)(ps:List Str)(sp:Sp):Prop where
 len:∀vs H Q E,sp vs H Q E->vs.length=ps.length
 run:∀ (A:Around) (outer:List Env) (s:Shared) (H:Hp) (args:Args) (us:List Value) (vs:List V) (Q:VK) (E:XK),bQ k A->zY P w K mg base A outer s H->BindsTo s fd args (ps.zip us)->aP vs us->sp vs H Q E->
  codeAny (model P w) A (.call (.ref f) args) (CR CX outer P w H s Q E) s
theorem zY.make{P:Program}{w:World}{K:PySem.W.Frag}{mg:Str->Option Value}{base:Heap}{A:Around}{outer:List Env}{s:Shared}{H:Hp}(e:zY P w K mg base A outer s H)(C:Addr)(us:List Value)(kw:List (Str×Value)):
  zY P w K mg base (A.under (.builtin "type.__call__" ⟨.ref C::us,kw⟩)) outer s H:=⟨by first|exact e.frames|(simpa [Around.under,Code.envs,Code.isFrame,pushEnvs] using e.frames),e.mod,e.bs,e.I0,e.nA,e.Jw,e.bU,e.bare⟩
section
variable {X:Cx} {ae:List (Addr×Obj)} {σ:St} {H:Hp} {s s':Shared}
theorem aE.RU(I:aE X ae σ H s):zY X.prog X.w X.K X.mg X.base X.A X.stack s H:=
 ⟨I.ok.frames,I.ok.mod,I.bs,aZ I.ok.I0 I.sz,I.stack,I.vW,I.bU,I.bare⟩
theorem aE.after(I:aE X ae σ H s)(h:CE X.stack X.prog X.w H s Q u s'):EP X ae σ Q u s':=by
 obtain⟨v,H',os,bare,un,bU,r,q⟩:=h;obtain⟨hh,g,d,t,os'⟩:=s';obtain rfl:os'=s.os:=os;exact⟨v,H',I.call (h':=hh) (g':=g) (d':=d) (t':=t) (ch:=[]) un bU bare (fun b z=>absurd z (by simp)),r,q⟩
end
def nE(sp:Sp)(qH:List V)(E:XK)(t:TA):TE:=fun σ H Q=>t σ H fun vs H1=>sp (vs++qH) H1 Q E
def Bv(C:Addr)(m:Str)(sp:Sp)(qH:List V)(E:XK)(ta:TE)(t:TA):TE:=fun σ H Q=>ta σ H fun x H1=>∃a dx fs,x=.ref a/\H1 a=some (.ins C dx fs)/\fs.lookup m=none/\
 t σ H1 fun vs H2=>sp (x::(vs++qH)) H2 Q E
def RV(C:Addr)(sp:Sp)(qH:List V)(E:XK)(t:TA):TE:=fun σ H Q=>t σ H fun vs H1=>∀x dx,H1 x=none->H1 dx=none->dx≠x->
 sp (.ref x::(vs++qH)) (upd (upd H1 dx (.own x)) x (.ins C dx [])) (fun v H2=>v=.bA/\Q (.ref x) H2) E
def i6(K:PySem.W.Frag)(fd:FuncData)(ps:List Str)(ds:List Value):Prop:=
 ∀ (s:Shared) (us:List Value),K.In s.heap->(us++ds).length=ps.length->BindsTo s fd ⟨us,[]⟩ (ps.zip (us++ds))
theorem i6.all{K:PySem.W.Frag}{fd:FuncData}{ps:List Str}(h:∀us:List Value,us.length=ps.length->bindArgs fd ⟨us,[]⟩=pure (ps.zip us)):i6 K fd ps []:=fun s us _ hl=>by
 rw[oK] at hl |-;exact .of_eq (h us hl)
def iT(CX:xf)(X:Cx)(E:XK):Prop:=∀ (ae:List (Addr×Obj)) (σ:St) (H:Hp) (s:Shared) (e:Value) (s':Shared),aE X ae σ H s->CX X.stack H s E e s'->X.xe e s'
section
variable {X:Cx} {CX:xf} {k:Nat} {f C:Addr} {fd:FuncData} {ps:List Str} {sp:Sp} {qH:List V} {ds:List Value} {E:XK} {x m:Str} {p pos qi:Pos} {e o:Expr} {es:List Expr} {ta:TE} {t:TA}
theorem zZ(F:bj X.prog X.w X.K X.mg X.base CX k f fd ps sp)(hr:bQ k X.A)(hb:i6 X.K fd ps ds)(hd:aP qH ds)(hx:iT CX X E)(I:aE X ae σ H s)(r:aP vs us)(h:sp (vs++qH) H Q E):wpAny (model X.prog X.w) X.A (call (.ref f) us) (EP X ae σ Q) X.xe s:=by
 have r2:aP (vs++qH) (us++ds):=r.append hd;have hl:(us++ds).length=ps.length:=by rw[<-r2.length];exact F.len _ _ _ _ h
 refine rL (kn (F.run X.A X.stack s H ⟨us,[]⟩ (us++ds) (vs++qH) Q E hr I.RU (hb s us I.pV hl) r2 h) fun r s' hq=>?_);cases r with
 |error e=>exact hx ae σ H s e s' I hq
 |ok fl=>
  cases fl with
  |ret u=>exact I.after hq
  |next=>exact False.elim hq
  |brk=>exact False.elim hq
  |cont=>exact False.elim hq
theorem JO(F:bj X.prog X.w X.K X.mg X.base CX k f fd ps sp)(hr:bQ k X.A)(hg:Gl X x)(hm:X.mg x=some (.ref f))(hk:PySem.W.keepIn X.K (.ref f)=true)(hb:i6 X.K fd ps ds)(hd:aP qH ds)(hx:iT CX X E)(ha:PA X (e::es) t)(Dm:(x==("__debug__":Str))=false:=by decide)(he:starEach (e::es) X.env=(false,eval e X.env)::starEach es X.env:=by rfl)(uo:(backTo pos (starEach es X.env)).any (·.1)=false:=by rfl):
  PE X (.Call (.Name x p) (e::es) [] pos) (nE sp qH E t):=by
 intro ae s σ H Q I h;refine rn (qE I hg hm ?_ Dm);refine y7 (h₀:=X.base) I.ok.mod.QK hk (cj (ha pos ae s σ H _ I h) fun us s1 ⟨vs,H1,I1,r,q⟩=>⟨I1.pV,?_⟩) he uo;exact zZ F hr hb hd hx I1 r q
theorem cP(he:PE X o ta)(c:EK X.K C)(hm:JM X.K C m f)(F:bj X.prog X.w X.K X.mg X.base CX k f fd ps sp)(hr:bQ k X.A)(hb:i6 X.K fd ps ds)(hd:aP qH ds)(hx:iT CX X E)(ha:PA X (e::es) t)(iw:starEach (e::es) X.env=(false,eval e X.env)::starEach es X.env:=by rfl)(uo:(backTo pos (starEach es X.env)).any (·.1)=false:=by rfl)(ht:eval (.Call (.Attribute o m qi) (e::es) [] pos) X.env=(do
   let ov <- eval o X.env
   standAt qi.atName
   let (f,first) <- holding [ov] (getMethod ov m pl)
   callWith pos f first (backTo pos (starEach (e::es) X.env)) (backToKw pos (keywordEach [] X.env))):=by rfl):
  PE X (.Call (.Attribute o m qi) (e::es) [] pos) (Bv C m sp qH E ta t):=by
 intro ae s σ H Q I h;refine PySem.W.methodCall_KW (pl:=pl) (cj (he ae s σ H _ I h) fun u s1 ⟨x,H1,I1,rx,a,dx,fs,ex,ea,l,q⟩=>?_) ht;subst ex;obtain rfl:u=Value.ref a:=rx;refine rV I1 ea c hm l ?_;refine y7 (first:=[.ref a]) (h₀:=X.base) I.ok.mod.QK hm.kp (cj (ha pos ae s1 σ H1 _ I1 q) fun us s2 ⟨vs,H2,I2,r,q2⟩=>⟨I2.pV,?_⟩) iw uo;exact zZ (us:=.ref a::us) (vs:=.ref a::vs) F hr hb hd hx I2 (.cons rfl r) q2
theorem rW{pl:Sem Bool}(he:PE X o ta)(c:EK X.K C)(hm:JM X.K C m f)(F:bj X.prog X.w X.K X.mg X.base CX k f fd ps sp)(hr:bQ k X.A)(hb:i6 X.K fd ps ds)(hd:aP qH ds)(hx:iT CX X E)(ht:eval (.Call (.Attribute o m qi) [] [] pos) X.env=(do
   let ov <- eval o X.env
   standAt qi.atName
   let (f,first) <- holding [ov] (getMethod ov m pl)
   callWith pos f first (backTo pos (starEach [] X.env)) (backToKw pos (keywordEach [] X.env))):=by rfl):
  PE X (.Call (.Attribute o m qi) [] [] pos) (Bv C m sp qH E ta mz):=by
 intro ae s σ H Q I h;refine PySem.W.methodCall_KW (pl:=pl) (cj (he ae s σ H _ I h) fun u s1 ⟨x,H1,I1,rx,a,dx,fs,ex,ea,l,q⟩=>?_) ht;subst ex;obtain rfl:u=Value.ref a:=rx;refine rV I1 ea c hm l ?_;exact PySem.W.callWith_K0 (first:=[.ref a]) I1.pV hm.kp (zZ (us:=[.ref a]) (vs:=[.ref a]) F hr hb hd hx I1 (.cons rfl .nil) q)
structure Mk(K:PySem.W.Frag)(C f:Addr):Prop where
 makes:PySem.W.makesIn K C=true
 init:PySem.W.findIn K (.ref C) "__init__"=some (some (.ref f))
 fn:PySem.W.isFn K (.ref f)=true
 kp:PySem.W.keepIn K (.ref C)=true
theorem Fy(M:Mk X.K C f)(F:bj X.prog X.w X.K X.mg X.base CX k f fd ps sp)(hr:bQ (k+1) X.A)(hb:i6 X.K fd ps ds)(hd:aP qH ds)(hx:iT CX X E)(I:aE X ae σ H s)(r:aP vs us)(h:∀x dx,H x=none->H dx=none->dx≠x->sp (.ref x::(vs++qH)) (upd (upd H dx (.own x)) x (.ins C dx [])) (fun v H2=>v=.bA/\Q (.ref x) H2) E):
  wpAny (model X.prog X.w) X.A (call (.ref C) us) (EP X ae σ Q) X.xe s:=by
 have hq:=h (s.heap.objs.size+1) s.heap.objs.size (I.bU.fresh (Nat.le_succ _)) (I.bU.fresh (aW _)) (aT (j5 _));have I2:=aE.made (C:=C) I;have r2:aP (V.ref (s.heap.objs.size+1)::(vs++qH)) (Value.ref (s.heap.objs.size+1)::(us++ds)):=.cons rfl (r.append hd);have hl:(Value.ref (s.heap.objs.size+1)::us++ds).length=ps.length:=by
  have e:=r2.length;rw[F.len _ _ _ _ hq] at e;exact e.symm
 refine rL (Fx (f:=f) I.pV M.makes M.init (dL.mp M.fn) (kn (F.run _ X.stack _ _ ⟨Value.ref (s.heap.objs.size+1)::us,[]⟩ (Value.ref (s.heap.objs.size+1)::(us++ds)) _ _ E (hr.make C us [])
  (I2.RU.make C us []) (hb _ (Value.ref (s.heap.objs.size+1)::us) I2.pV hl) r2 hq) fun r s' NG=>?_))
 cases r with
 |error e=>exact hx ae σ _ _ e s' I2 NG
 |ok fl=>
  cases fl with
  |ret u=>
   obtain⟨v,H',I3,rv,ev,q3⟩:=I2.after NG;subst ev;exact⟨rv,⟨V.ref (s.heap.objs.size+1),H',I3,rfl,q3⟩⟩
  |next=>exact False.elim NG
  |brk=>exact False.elim NG
  |cont=>exact False.elim NG
theorem Bw(M:Mk X.K C f)(F:bj X.prog X.w X.K X.mg X.base CX k f fd ps sp)(hr:bQ (k+1) X.A)(hg:Gl X x)(hm:X.mg x=some (.ref C))(hb:i6 X.K fd ps ds)(hd:aP qH ds)(hx:iT CX X E)(ha:PA X (e::es) t)(Dm:(x==("__debug__":Str))=false:=by decide)(he:starEach (e::es) X.env=(false,eval e X.env)::starEach es X.env:=by rfl)(uo:(backTo pos (starEach es X.env)).any (·.1)=false:=by rfl):
  PE X (.Call (.Name x p) (e::es) [] pos) (RV C sp qH E t):=by
 intro ae s σ H Q I h;refine rn (qE I hg hm ?_ Dm);refine y7 (h₀:=X.base) I.ok.mod.QK M.kp (cj (ha pos ae s σ H _ I h) fun us s1 ⟨vs,H1,I1,r,q⟩=>⟨I1.pV,?_⟩) he uo;exact Fy M F hr hb hd hx I1 r q
end
def PK(X:Cx)(Fz:List Keyword)(t:TA):Prop:=
 ∀ (pos:Pos) (ae:List (Addr×Obj)) (s:Shared) (σ:St) (H:Hp) (Q:List V->Hp->Prop),aE X ae σ H s->t σ H Q->wpAny (model X.prog X.w) X.A (evalAll ((backToKw pos (keywordEach Fz X.env)).map (·.2))) (AP X ae σ Q) X.xe s
section
variable {X:Cx} {CX:xf} {k:Nat} {f C:Addr} {fd:FuncData} {ps ks:List Str} {sp:Sp} {E:XK} {x m:Str} {p pos qi WK:Pos} {e o:Expr} {es:List Expr} {Fz:List Keyword} {te ta:TE} {t tk:TA} {nm:Option Str}
theorem NH:PK X [] mz:=fun _ _ _ _ H Q I h=>wpAny_evalAll_nil ⟨[],H,I,.nil,h⟩
theorem JP(ha:PE X e te)(hr:PK X Fz t):PK X (⟨nm,e,WK⟩::Fz) (dq te t):=by
 intro pos ae s σ H Q I h;show wpAny _ _ (evalAll ((do let v <- eval e X.env;standAt pos;pure v)::(backToKw pos (keywordEach Fz X.env)).map (·.2))) _ _ s;refine wpAny_evalAll_cons (aj (cj (ha ae s σ H _ I h) fun u s1 ⟨x,H1,I1,r1,q1⟩=>aj (iQ (wpAny_pure ?_))));exact cj (hr pos ae s1 σ H1 _ I1 q1) fun us s2 ⟨xs,H2,I2,r2,q2⟩=>⟨x::xs,H2,I2,.cons r1 r2,q2⟩
variable {g:List Value->List Value->List Value} {gV:List V->List V->List V}
end
structure aA(N P:List Str)(sc:Scope):Prop where
 kind:sc.kind=.function
 co:sc.isCoroutine=false
 gen:sc.isGenerator=false
 nd:N.Nodup
 pre:N.take P.length=P
 par:∀x∈P,sc.names.lookup x=some .local\/sc.names.lookup x=some .cell
 NI:∀y∈sc.names,y.2≠.free
theorem uw{kindOf:Str->Option NameKind}{x:Str}:∀ {binds:List (Str×Value)} {m:Str->Option Value},(∀v,(x,v)∉binds)->bindL kindOf binds m x=m x
 |[],_,_=>rfl
 |(n,v)::r,m,h=>by
  unfold bindL;rw[uw fun w hw=>h w (bL _ hw)];split
  .have:x≠n:=by rintro rfl;exact h v bN
   simp[this]
  .rfl
theorem ux{kindOf:Str->Option NameKind}{x:Str}:∀ {binds:List (Str×Value)} {m:Str->Option Value},(∀v,(x,v)∉binds)->bindC kindOf binds m x=m x
 |[],_,_=>rfl
 |(n,v)::r,m,h=>by
  unfold bindC;rw[ux fun w hw=>h w (bL _ hw)];split
  .rfl
  .have:x≠n:=by rintro rfl;exact h v bN
   simp[this]
theorem uy{kindOf:Str->Option NameKind}{x:Str}{v:Value}:∀ {P:List Str} {vs:List Value} {i:Nat} {m:Str->Option Value},P.Nodup->P[i]?=some x->vs[i]?=some v->kindOf x=some .local->
  bindL kindOf (P.zip vs) m x=some v
 |[],_,_,_,_,h,_,_=>by simp at h
 |_::_,[],_,_,_,_,h,_=>by simp at h
 |p::P,w::vs,0,m,nd,h1,h2,hk=>by
  simp at h1 h2;subst h1;subst h2;show bindL kindOf ((p,w)::P.zip vs) m p=_;unfold bindL;rw[uw fun v hv=>(cM.mp nd).1 (rA hv).1,ai hk];simp
 |p::P,w::vs,i+1,m,nd,h1,h2,hk=>by
  show bindL kindOf ((p,w)::P.zip vs) m x=_;unfold bindL;exact uy (i:=i) (cM.mp nd).2 (by simpa using h1) (by simpa using h2) hk
theorem uz{kindOf:Str->Option NameKind}{x:Str}{v:Value}:∀ {P:List Str} {vs:List Value} {i:Nat} {m:Str->Option Value},P.Nodup->P[i]?=some x->vs[i]?=some v->kindOf x≠some .local->
  bindC kindOf (P.zip vs) m x=some v
 |[],_,_,_,_,h,_,_=>by simp at h
 |_::_,[],_,_,_,_,h,_=>by simp at h
 |p::P,w::vs,0,m,nd,h1,h2,hk=>by
  simp at h1 h2;subst h1;subst h2;show bindC kindOf ((p,w)::P.zip vs) m p=_;unfold bindC;rw[ux fun v hv=>(cM.mp nd).1 (rA hv).1,ap hk];simp
 |p::P,w::vs,i+1,m,nd,h1,h2,hk=>by
  show bindC kindOf ((p,w)::P.zip vs) m x=_;unfold bindC;exact uz (i:=i) (cM.mp nd).2 (by simpa using h1) (by simpa using h2) hk
def start(N:List Str)(vs:List V):St:=vs.map some++List.replicate (N.length-vs.length) none
def jv(CX:xf)(P:Program)(w:World)(K:PySem.W.Frag)(mg:Str->Option Value)(base:Heap)(N:List Str)(qual:Str)(scope:Scope)(f:Addr)(cd:Value)(A:Around)(outer:List Env)(s:Shared)(H:Hp)(E:XK):Cx where
 prog:=P
 w:=w
 K:=K
 mg:=mg
 base:=base
 A:=A.deeper (envOfC qual scope s.heap.objs.size f cd)
 N:=N
 s₀:=s
 H₀:=H
 env:=envOfC qual scope s.heap.objs.size f cd
 outer:=outer
 stack:=envOfC qual scope s.heap.objs.size f cd::outer
 ex:=[]
 calm:=true
 fn:=fun _=>true
 pn:=[]
 xe:=fun e s'=>wpAny (model P w) (A.deeper (envOfC qual scope s.heap.objs.size f cd)) (leaving (envOfC qual scope s.heap.objs.size f cd) e) (fun _ FA=>CX outer H s E e FA) (fun e' FA=>CX outer H s E e' FA) s'
theorem xq{sc:Scope}{n:Nat}{x:Str}(h:sc.names.lookup x=some .cell):∃c,(cellsFrom n sc.names []).lookup x=some c:=by
 have q:=PySem.W.cellsFrom_some sc.names n [] (.inl h);exact yM.mp q
theorem Dn{CX:xf}{P:Program}{w:World}{K:PySem.W.Frag}{mg:Str->Option Value}{base:Heap}{N ps:List Str}{qual:Str}{scope:Scope}{f:Addr}{cd:Value}{A:Around}{outer:List Env}{s s1:Shared}{H:Hp}{E:XK}{us:List Value}{vs:List V}(S:aA N ps scope)(hd:A.handled=none)(e0:zY P w K mg base A outer s H)(hl:vs.length=ps.length)(r:aP vs us)(x:InCallC s s.heap.objs.size (bindL (envOfC qual scope s.heap.objs.size f cd).kindOf (ps.zip us) fun _=>none) (cellsFrom (s.heap.objs.size+1) scope.names []) (bindC (envOfC qual scope s.heap.objs.size f cd).kindOf (ps.zip us) fun _=>none) s1):
  aE (jv CX P w K mg base N qual scope f cd A outer s H E) [] (start N vs) H s1:=by
 have uo:ps.length<=N.length:=by have:=congrArg List.length S.pre;rw[j6] at this;lia
 obtain⟨h1,tk,rfl,hk⟩:=x.done;have QT:∀b:Addr,b∉(jv CX P w K mg base N qual scope f cd A outer s H E).ex:=fun b z=>absurd (show b∈([]:List Addr) from z) (by simp);refine⟨⟨e0.mod,S.kind,rfl,rfl,aW _,fun y z c h1 h2=>?_,fun y hy=>?_,fun y c _ h=>?_,fun _=>hd,Around.frames_deeper e0.frames,.inr ⟨rfl,rfl⟩,fun b z=>absurd z (QT b),e0.bs,e0.I0,fun b _ _=>QT b,fun b z=>absurd z (QT b),e0.nA,e0.Jw⟩,
  rfl,e0.bare,Un.kept hk,⟨_,x.toInCall.ns,fun i y v h1 h2 h3=>?_⟩,fun y c h=>⟨_,x.cell y c h⟩,e0.bU.fresh (aW _),fun y c h=>?_,fun p hp=>absurd (show p∈([]:List (Addr×Obj)) from hp) (by simp),e0.bU.kept hk,?_⟩
 .exact name_of_addr x.apart (j7 h1) (j7 h2)
 .have hy:scope.names.lookup y=some .cell\/scope.names.lookup y=some .free:=hy;rcases hy with hy|hy
  .exact xq hy
  .exact absurd rfl (S.NI _ (j7 hy))
 .exact jl (x.above y c (j7 h))
 .have hi:i<vs.length:=by
   unfold start at h2;by_cases hi:i<vs.length
   .exact hi
   .rw[oz (by simpa using hi)] at h2;rw[List.getElem?_replicate] at h2;split at h2 <;> cases h2
  have ha:vs[i]?=some v:=by
   unfold start at h2;rw[pT (by simpa using hi),bv] at h2;cases e:vs[i]? with
   |none=>rw[e] at h2;cases h2
   |some a=>rw[e] at h2;cases h2;rfl
  obtain⟨u,hu,rv⟩:=r.get ha;have hp:ps[i]?=some y:=by
   rw[<-S.pre,qW (by lia)];exact h1
  have ndP:ps.Nodup:=by rw[<-S.pre];exact S.nd.sublist (List.take_sublist _ _)
  refine⟨u,rv,?_⟩;rcases S.par y (cB hp) with k|k
  .exact .inl ⟨k,uy ndP hp hu k⟩
  .obtain⟨c,e⟩:=xq (n:=s.heap.objs.size+1) k;refine .inr ⟨.inl k,c,e,?_⟩;have q:=x.cell y c e;rw[uz ndP hp hu (by show scope.names.lookup y≠_;rw[k];decide)] at q;exact q
 .exact e0.bU.fresh (jl (x.above y c (j7 h)))
 .unfold start;show _=N.length;rw[dF,aV,l4];lia
theorem FB{CX:xf}{P:Program}{w:World}{K:PySem.W.Frag}{mg:Str->Option Value}{base:Heap}{k:Nat}{f:Addr}{name qual:Str}{params:Arguments}{body:List Stmt}{scope:Scope}{dV kV m_ pm dt ct oc:Value}{an od:Option Addr}{xr:Array (Option Value)}{N ps:List Str}{sp:Sp}(lk:K.lookup f=some ⟨oc,od,.func (PySem.W.fnOf name qual params body scope dV kV m_ pm an dt ct),xr⟩)(tK:PySem.W.codeIn K dt qual=true)(S:aA N ps scope)(len:∀vs H Q E,sp vs H Q E->vs.length=ps.length)(rX:∀ (A:Around) (outer:List Env) (s:Shared) (H:Hp) (vs:List V) (Q:VK) (E:XK),bQ k (A.deeper (envOfC qual scope s.heap.objs.size f dt))->sp vs H Q E->
   ∃t,yA (jv CX P w K mg base N qual scope f dt A outer s H E) body t/\t { nx:=fun _ H'=>Q .bA H',rt:=Q } (start N vs) H):
  bj P w K mg base CX (k+1) f (PySem.W.fnOf name qual params body scope dV kV m_ pm an dt ct) ps sp:=by
 refine⟨len,fun A outer s H args us vs Q E hr e0 hb r EL=>?_⟩;have hl:=len _ _ _ _ EL;have KX:K.In s.heap:=e0.mod.QK.keeps fun b o e=>(e0.bs b o e).1;have lim:s.heap.NoLimit:=e0.mod.nolimit.keeps fun b o e=>(e0.bs b o e).1;have RX:∀y∈ps.zip us,scope.names.lookup y.1=some .local\/(scope.names.lookup y.1=some .cell/\((cellsFrom (s.heap.objs.size+1) scope.names []).lookup y.1).isSome=true):=fun ⟨n,v⟩ hy=>by
  rcases S.par n (rA hy).1 with q|q
  .exact .inl q
  .exact .inr ⟨q,PySem.W.cellsFrom_some _ _ _ (.inl q)⟩
 refine codeAny_call_function hr.depth (KX _ _ lk) rfl S.co S.gen rfl (PySem.W.codeRec_of KX tK) (hb _ _ _ _ ?_);refine wpAny_newFunctionEnv_cells S.kind RX fun env he s1 x=>?_;subst he;refine⟨lim.keeps x.toInCall.keep,codeAny_func ?_⟩;obtain⟨t,ht,hq⟩:=rX A outer s H vs Q E (hr.deeper _) EL;have I:aE (jv CX P w K mg base N qual scope f dt A outer s H E) [] (start N vs) H s1:=Dn S hr.hd e0 hl r x;refine gs (ht [] s1 (start N vs) H _ I hq) (fun fl s' hs=>?_) fun e s' hs=>hs;have cK:∀ {σ':St} {H':Hp} {v:V} {u:Value},aE (jv CX P w K mg base N qual scope f dt A outer s H E) [] σ' H' s'->bn v u->Q v H'->CE outer P w H s Q u s':=
  fun {σ' H' v u} J rv q=>⟨v,H',J.os,J.bare,J.base,J.bU,rv,q⟩
 cases fl with
 |ret u=>
  obtain⟨v,σ',H',J,rv,q⟩:=hs;exact cK J rv q
 |next=>
  obtain⟨σ',H',J,q⟩:=hs;exact cK (v:=V.bA) (u:=Value.none) J rfl q
 |brk=>
  obtain⟨_,_,_,q⟩:=hs;exact False.elim q
 |cont=>
  obtain⟨_,_,_,q⟩:=hs;exact False.elim q
section
variable {X:Cx} {x:Str} {p pos:Pos} {e:Expr} {es:List Expr} {t:TA} {id T:String} {r:List V->Hp->VK->Prop}
def tCB(r:List V->Hp->VK->Prop)(t:TA):TE:=fun σ H Q=>t σ H fun vs H1=>r vs H1 Q
theorem aG(hc:gb X (.builtin id) r)(hg:Gl X x)(hm:X.mg x=none)(hv:bootBuiltins x=some (.builtin id))(ha:PA X (e::es) t)(hn:x≠"__name__":=by decide)(Dm:(x==("__debug__":Str))=false:=by decide)(he:starEach (e::es) X.env=(false,eval e X.env)::starEach es X.env:=by rfl)(uo:(backTo pos (starEach es X.env)).any (·.1)=false:=by rfl):PE X (.Call (.Name x p) (e::es) [] pos) (tCB r t):=by
 intro ae s σ H Q I h;refine rn (jq I hg hm hv ?_ hn Dm);exact PyProof.Rows.callWith_builtin1 (cj (ha pos ae s σ H _ I h) fun us s1 ⟨vs,H1,I1,r1,q1⟩=>hc ae s1 σ H1 vs us Q I1 r1 q1) he uo
theorem cf(hc:gb X (.type T) r)(hg:Gl X x)(hm:X.mg x=none)(hv:bootBuiltins x=some (.type T))(ha:PA X (e::es) t)(hn:x≠"__name__":=by decide)(Dm:(x==("__debug__":Str))=false:=by decide)(he:starEach (e::es) X.env=(false,eval e X.env)::starEach es X.env:=by rfl)(uo:(backTo pos (starEach es X.env)).any (·.1)=false:=by rfl):PE X (.Call (.Name x p) (e::es) [] pos) (tCB r t):=by
 intro ae s σ H Q I h;refine rn (jq I hg hm hv ?_ hn Dm);exact ow (cj (ha pos ae s σ H _ I h) fun us s1 ⟨vs,H1,I1,r1,q1⟩=>hc ae s1 σ H1 vs us Q I1 r1 q1) he uo
end
end L2
namespace HT
open PySem PyProof.Rows
section
open PySem.SeqAt
open PySem.AutoSeq1 (wpAny_loadPart')
open PySem.MeetsSeq PySem.MeetsSeq2 PySem.MeetsSeq3
end
section
variable {prog:Program} {w:World} {A:Around} {E:Value->Shared->Prop} {s:Shared}
def fN(n d:Nat):Option Int->Nat
 |none=>d
 |some v=>if v<0 then (v+(n:Int)).toNat else min v.toNat n
theorem NJ(n d:Nat)(hd:d<=n)(o:Option Int):fN n d o<=n:=by
 cases o with
 |none=>exact hd
 |some v=>
  show (if v<0 then (v+(n:Int)).toNat else min v.toNat n)<=n;by_cases hv:v<0
  .rw[ai hv];lia
  .rw[ap hv];exact Nat.min_le_right _ _
theorem By(v:Int)(n d:Nat):(if v<0 then max (v+(n:Int)) 0 else min v (n:Int))=((fN n d (some v):Nat):Int):=by
 show (if v<0 then max (v+(n:Int)) 0 else min v (n:Int))=(((if v<0 then (v+(n:Int)).toNat else min v.toNat n):Nat):Int);by_cases hv:v<0
 .simp only[ai hv];lia
 .simp only[ap hv];lia
theorem z0(lo hi:Option Int)(n:Nat):Builtin.Slice.sliceAdjust lo hi 1 (n:Int)=(((fN n 0 lo:Nat):Int),((fN n n hi:Nat):Int)):=by
 have h1:¬ ((1:Int)<0):=by lia
 unfold Builtin.Slice.sliceAdjust;simp only[h1,gv];refine eK ?_ ?_
 .cases lo with
  |none=>rfl
  |some v=>exact By v n 0
 .cases hi with
  |none=>rfl
  |some v=>exact By v n n
theorem z4(i j:Nat):Builtin.Slice.slicePlaces (i:Int) (j:Int) 1=j-i:=by
 unfold Builtin.Slice.slicePlaces;have h1:(1:Int) > 0:=by lia
 simp only[h1,mi,Int.ediv_one];split <;> lia
theorem rY(p:IsPart v o)(h:Q o s):wpAny (model prog w) A (Builtin.Slice.slicePartIndex v) Q E s:=by
 cases p with
 |none=>exact slicePart_none h
 |int i t=>exact slicePart_int h
theorem i7{sl:Addr}{vl vu:Value}{lo hi:Option Int}{n:Nat}{Q:Int×Int×Nat->Shared->Prop}(hs:s.heap.IsSliceOf sl vl vu .none)(pl:IsPart vl lo)(pu:IsPart vu hi)(h:Q (((fN n 0 lo:Nat):Int),1,fN n n hi-fN n 0 lo) s):wpAny (model prog w) A (Builtin.Slice.sliceApplied (.ref sl) (pure (n:Int))) Q E s:=by
 obtain⟨os,Jc,VI,RY⟩:=id hs;unfold Builtin.Slice.sliceApplied Builtin.Slice.sliceFields;refine aj (aj (dQ Jc RY (x:=vl) rfl (aj (dQ Jc RY (x:=vu) rfl (aj (dQ Jc RY (x:=.none) rfl (wpAny_pure ?_)))))));refine aj (slicePart_none ?_);show wpAny _ _ (if ((1:Int)==0)=true then _ else _) _ _ s;rw[ap (by decide)];refine aj (rY pl (aj (rY pu (aj (wpAny_pure ?_)))));show wpAny _ _ (match Builtin.Slice.sliceAdjust lo hi 1 (n:Int) with|(lo,hi)=>pure (lo,(1:Int),Builtin.Slice.slicePlaces lo hi 1)) _ _ s;rw[z0 lo hi n];show wpAny _ _ (pure (((fN n 0 lo:Nat):Int),(1:Int),Builtin.Slice.slicePlaces ((fN n 0 lo:Nat):Int) ((fN n n hi:Nat):Int) 1)) _ _ s;rw[z4];exact wpAny_pure h
theorem FE(xs:Array Value)(i k:Nat):((List.range k).filterMap fun (m:Nat)=>xs[((i:Int)+(m:Int)*1).toNat]?).toArray=((xs.toList.drop i).take k).toArray:=by
 have e:(fun (m:Nat)=>xs[((i:Int)+(m:Int)*1).toNat]?)=fun m=>xs[i+m]?:=by
  funext m;have:((i:Int)+(m:Int)*1).toNat=i+m:=by lia
  rw[this]
 rw[e];have:=pick_run xs i k;rw[zd] at this;have e2:((fun x=>xs[x]?) ∘ fun x=>i+x)=fun m=>xs[i+m]?:=rfl;rw[e2] at this;rw[this]
theorem nF{t sl:Addr}{items:Array Value}{vl vu:Value}{lo hi:Option Int}{Q:Value->Shared->Prop}(ht:IsTup s.heap t items)(hs:s.heap.IsSliceOf sl vl vu .none)(pl:IsPart vl lo)(pu:IsPart vu hi)(hw:¬ (fN items.size 0 lo=0/\fN items.size items.size hi=items.size))(h:Q (.ref s.heap.objs.size) { s with heap:=s.heap.push { cls:=.type "tuple",data:=.seq ((items.toList.drop (fN items.size 0 lo)).take (fN items.size items.size hi-fN items.size 0 lo)).toArray } })(hsz:items.size<=sizeLine):wpAny (model prog w) A (getItem (.ref t) (.ref sl)) Q E s:=by
 have Bz:sizeOk (.seq ((items.toList.drop (fN items.size 0 lo)).take (fN items.size items.size hi-fN items.size 0 lo)).toArray):=by
  show ((items.toList.drop (fN items.size 0 lo)).take (fN items.size items.size hi-fN items.size 0 lo)).toArray.size<=sizeLine;rw[cC,j6,List.length_drop,eA];lia
 have hj:fN items.size items.size hi<=items.size:=NJ _ _ (aW _) hi;obtain⟨os,Jc,VI,RY⟩:=id hs;have WL:s.TypeIs (.ref sl) "slice":=⟨os,Jc,VI⟩
 unfold getItem;try with_reducible refine f9 ?_
 first|refine aj (wpAny_pure ?_)|skip
 refine aj (wpAny_sequenceKey ht.typeIs (by decide) ?_);refine aj (lN (name:=Str.ofString "__getitem__") ht.typeIs ul
  (g_ ul ht.typeIs entry_tuple_getitem ?_ (args_tuple_getitem _ _)))
 show wpAny _ _ (Builtin.Tuple.tupleItemsOf (.ref t) >>= _) _ _ s;refine aj (tupleItemsOf_ ht ?_);refine aj (vU WL ?_);rw[ai (by decide)];refine aj (i7 hs pl pu ?_);have Do:¬ ((((fN items.size 0 lo:Nat):Int)==0&&(1:Int)==1&&(fN items.size items.size hi-fN items.size 0 lo)==items.size)=true):=by
  intro q;rw[fq,fq] at q;have q1:((fN items.size 0 lo:Nat):Int)=0:=eq_of_beq q.1.1;have q2:fN items.size items.size hi-fN items.size 0 lo=items.size:=eq_of_beq q.2;exact hw ⟨by lia,by lia⟩
 show wpAny _ _ (if (((fN items.size 0 lo:Nat):Int)==0&&(1:Int)==1&&(fN items.size items.size hi-fN items.size 0 lo)==items.size)=true then _ else _) _ _ s;rw[ap Do,FE];first
  |exact aj (m:=Builtin.Tuple.tupleExact _) (g8 (wpAny_pure ⟨_,rfl,wpAny_pure h⟩) Bz)
  |exact aj (m:=Builtin.Tuple.tupleExact _) (g8 (aj (wpAny_pure (wpAny_pure ⟨_,rfl,wpAny_pure h⟩))) Bz)
  |exact aj (aj (m:=Builtin.Tuple.tupleExact _) (g8 (wpAny_pure (wpAny_pure ⟨_,rfl,wpAny_pure h⟩)) Bz))
  |exact aj (aj (m:=Builtin.Tuple.tupleExact _) (g8 (wpAny_pure ⟨_,rfl,wpAny_pure h⟩) Bz))
end
end HT
namespace L2
open PySem PySem.Spec PyProof.Rows
abbrev TO:=St->Hp->(Option Int->Hp->Prop)->Prop
def PO(X:Cx)(e:Option Expr)(t:TO):Prop:=
 ∀ (ae:List (Addr×Obj)) (s:Shared) (σ:St) (H:Hp) (Q:Option Int->Hp->Prop),aE X ae σ H s->t σ H Q->
  wpAny (model X.prog X.w) X.A (evalPart e X.env) (fun u s'=>∃o H',aE X ae σ H' s'/\IsPart u o/\Q o H') X.xe s
def BB:TO:=fun _ H Q=>Q none H
def Mj(t:TE):TO:=fun σ H Q=>t σ H fun x H1=>∃i,x=.int i/\Q (some i) H1
theorem z5{ns:List Int}:∀ {us:List Value},aP (ns.map V.int) us->IntsAre us ns:=by
 induction ns with
 |nil=>intro us r;rw[List.map_nil] at r;cases r;exact .nil
 |cons n ns ih=>
  intro us r;rw[eD] at r;cases r with
  |cons r1 r2=>
   obtain⟨t,e⟩:=r1;subst e;exact .cons n t (ih r2)
section
variable {X:Cx} {e:Expr} {te:TE} {lo hi:Option Expr} {tl th:TO} {pos p2:Pos}
theorem BC:PO X none BB:=by
 intro ae s σ H Q I h;rw[evalPart_none];exact wpAny_pure ⟨none,H,I,.none,h⟩
theorem BF(h:PE X e te):PO X (some e) (Mj te):=by
 intro ae s σ H Q I hw;rw[evalPart_some];refine cj (h ae s σ H _ I hw) fun u s1 ⟨x,H1,I1,r1,q1⟩=>?_;obtain⟨i,rfl,q⟩:=q1;obtain⟨t,rfl⟩:=r1;exact⟨some i,H1,I1,.int i t,q⟩
def WM(X:Cx)(r:V->Option Int->Option Int->Hp->VK->Prop):Prop:=
 ∀ (ae:List (Addr×Obj)) (s:Shared) (σ:St) (H:Hp) (x:V) (v vl vu:Value) (lo hi:Option Int) (sl:Addr) (Q:VK),aE X ae σ H s->bn x v->s.heap.IsSliceOf sl vl vu .none->IsPart vl lo->IsPart vu hi->r x lo hi H Q->
  ∃T id,typeLookup (.type T) "__getitem__"=pure (some (.builtin id))/\s.TypeIs v T/\wpAny (model X.prog X.w) X.A (getItem v (.ref sl)) (EP X ae σ Q) X.xe s
def tSl(r:V->Option Int->Option Int->Hp->VK->Prop)(te:TE)(tl th:TO):TE:=fun σ H Q=>te σ H fun x H1=>tl σ H1 fun l H2=>th σ H2 fun u H3=>r x l u H3 Q
theorem xt(hr:WM X r)(he:PE X e te)(hl:PO X lo tl)(hu:PO X hi th):PE X (.Subscript e (.Slice lo hi none p2) pos) (tSl r te tl th):=by
 intro ae s σ H Q I h;refine Subscript_ (cj (he ae s σ H _ I h) fun v s1 ⟨x,H1,I1,r1,q1⟩=>?_);refine wpAny_Slice (cj (hl ae s1 σ H1 _ I1 q1) fun vl s2 ⟨l,H2,I2,pl,q2⟩=>cj (hu ae s2 σ H2 _ I2 q2) fun vu s3 ⟨u,H3,I3,pu,q3⟩=>?_);rw[evalPart_none];refine wpAny_pure ?_;have I4:aE X ae σ H3 { s3 with heap:=s3.heap.push { cls:=.type "slice",data:=.fields #[vl,vu,.none] } }:=I3.kept (t':=s3.toks) fun b ob q=>bp _ q;obtain⟨T,id,hT,ht,hg⟩:=hr ae { s3 with heap:=s3.heap.push { cls:=.type "slice",data:=.fields #[vl,vu,.none] } } σ H3 x v vl vu l u s3.heap.objs.size Q I4 r1 (Heap.IsSliceOf.new ..) pl pu q3;show wpAny (model X.prog X.w) X.A (subscriptTail e (.Slice lo hi none p2) v (.ref s3.heap.objs.size)) (EP X ae σ Q) X.xe { s3 with heap:=s3.heap.push { cls:=.type "slice",data:=.fields #[vl,vu,.none] } };exact tail_any (ops:=[.ref s3.heap.objs.size,v]) ht hT hg (by with_unfolding_all rfl)
def vY(xs:List V)(lo hi:Option Int):List V:=(xs.drop (HT.fN xs.length 0 lo)).take (HT.fN xs.length xs.length hi-HT.fN xs.length 0 lo)
theorem xu(xs:List V)(lo hi:Option Int):(vY xs lo hi).length<=xs.length:=by
 unfold vY;rw[j6,List.length_drop];lia
def WN(K:PySem.W.Frag):V->Option Int->Option Int->Hp->VK->Prop:=fun x lo hi H Q=>∃a xs,x=.ref a/\bz K H a xs/\
 ¬ (HT.fN xs.length 0 lo=0/\HT.fN xs.length xs.length hi=xs.length)/\∀p,H p=none->Q (.ref p) (upd H p (.tup (vY xs lo hi)))
theorem NK:WM X (WN X.K):=by
 intro ae s σ H x v vl vu lo hi sl Q I rx hs pl pu h;obtain⟨a,xs,rfl,hx,hw,q⟩:=h;cases rx;obtain⟨its,r,ht,hz⟩:=I.tuple hx;have cG:its.toArray.size=xs.length:=by rw[cC];exact r.length.symm
 refine⟨"tuple",_,ul.lookup,ht.typeIs,?_⟩;refine HT.nF ht hs pl pu (by rw[cG];exact hw) ?_ (by rw[cG];exact hz);rw[cG];refine⟨.ref s.heap.objs.size,_,I.laid (t':=s.toks) (o:=.tup (vY xs lo hi)) (fun b ob q=>bp _ q) (aW _) ?_,rfl,q _ (I.bU.fresh (aW _))⟩;exact⟨aZ (xu xs lo hi) hz,_,(r.drop (HT.fN xs.length 0 lo)).take (HT.fN xs.length xs.length hi-HT.fN xs.length 0 lo),mn.new _ _⟩
end
def EM(n:Nat)(i:Int):Option Nat:=if 0<=i then (if i<n then some i.toNat else none) else if -(n:Int)<=i then some (i+n).toNat else none
def FF{α:Type}(xs:List α)(i:Int):Option α:=(EM xs.length i).bind fun j=>xs[j]?
theorem BG(h:EM n i=some j):seqIndex? i n=some j/\j<n/\-(n:Int)<=i/\i<n:=by
 unfold EM at h;by_cases h0:0<=i
 .rw[ai h0] at h;by_cases h1:i<n
  .rw[ai h1] at h;have e:i.toNat=j:=bi h;exact⟨by rw[seqIndex_of h0 h1,e],by lia,by lia,h1⟩
  .rw[ap h1] at h;cases h
 .rw[ap h0] at h;by_cases h1:-(n:Int)<=i
  .rw[ai h1] at h;have e:(i+n).toNat=j:=bi h;exact⟨by rw[seqIndex_neg (by lia) h1,e],by lia,h1,by lia⟩
  .rw[ap h1] at h;cases h
theorem BH(h:FF xs i=some v):∃j,seqIndex? i xs.length=some j/\xs[j]?=some v/\j<xs.length/\-(xs.length:Int)<=i/\i<xs.length:=by
 unfold FF at h;cases e:EM xs.length i with
 |none=>rw[e] at h;cases h
 |some j=>
  rw[e] at h;obtain⟨h1,h2,h3,h4⟩:=BG e;exact⟨j,h1,h,h2,h3,h4⟩
theorem aD{α:Type}{xs:List α}{j:Nat}{v:α}(h:xs[j]?=some v):FF xs (j:Int)=some v:=by
 have hj:j<xs.length:=(cQ.mp h).1;have e:EM xs.length (j:Int)=some j:=by
  unfold EM;rw[ai (by lia),ai (by lia)];simp
 unfold FF;rw[e];exact h
theorem FG(xs:List α)(v:α):FF (xs++[v]) (-1)=some v:=by
 have hl:(xs++[v]).length=xs.length+1:=by simp
 have e:EM (xs++[v]).length (-1)=some xs.length:=by
  unfold EM;rw[hl,ap (by decide),ai (by lia)];congr 1;lia
 unfold FF;rw[e];show (xs++[v])[xs.length]?=some v;simp
def JQ(b:Expr):Prop:=∀o i,subscripted b false o i=operate [o,i] (getItem o i)
def WO(X:Cx)(r:R2):Prop:=
 ∀ (value slice:Expr) (ae:List (Addr×Obj)) (s:Shared) (σ:St) (H:Hp) (x y:V) (v u:Value) (Q:VK),aE X ae σ H s->bn x v->bn y u->r x y H Q->
  subscripted slice false v u=operate [v,u] (getItem v u)->wpAny (model X.prog X.w) X.A (subscriptTail value slice v u) (EP X ae σ Q) X.xe s
def MtR(X:Cx)(id:String)(r:V->List V->Hp->VK->Prop):Prop:=
 ∀ (ae:List (Addr×Obj)) (s:Shared) (σ:St) (H:Hp) (x:V) (xs:List V) (v:Value) (us:List Value) (Q:VK),aE X ae σ H s->bn x v->aP xs us->r x xs H Q->
  wpAny (model X.prog X.w) X.A (call (.builtin id) (v::us)) (EP X ae σ Q) X.xe s
section
variable {X:Cx} {a b:Expr} {ta tb:TE} {pos:Pos}
theorem bg(hr:WO X r)(ha:PE X a ta)(hb:PE X b tb)(hs:JQ b):PE X (.Subscript a b pos) (nB r ta tb):=by
 intro ae s σ H Q I h;exact Subscript_ (Nz ha hb I h fun v u s2 x y H2 I2 rx ry q=>hr a b ae s2 σ H2 x y v u Q I2 rx ry q (hs _ _))
def NL(K:PySem.W.Frag):R2:=fun x y H Q=>∃p xs i v,x=.ref p/\y=.int i/\bh K H p xs/\FF xs i=some v/\Q v H
def tZ(K:PySem.W.Frag):R2:=fun x y H Q=>∃p xs i v,x=.ref p/\y=.int i/\bz K H p xs/\FF xs i=some v/\Q v H
theorem bD:WO X (NL X.K):=by
 intro value slice ae s σ H x y v u Q I rx ry h hs;obtain⟨p,xs,i,z,rfl,rfl,hq,he,q⟩:=h;cases rx;obtain⟨t,rfl⟩:=ry;obtain⟨its,r,pl,hz⟩:=I.list hq;obtain⟨j,h1,h2,h3,h4,h5⟩:=BH he;obtain⟨w,ew,Df⟩:=r.get h2;have hl:=r.length;have hn:=rT;have cK:EP X ae σ Q w s:=⟨z,H,I,Df,q⟩
 by_cases h0:0<=i
 .have hj:i.toNat=j:=by
   rw[seqIndex_of h0 h5] at h1;exact bi h1
  exact item_listR pl.isList h0 (by lia) (by rw[hj];simpa using ew) cK hs
 .have hj:(i+(its.toArray.size:Int)).toNat=j:=by
   rw[seqIndex_neg (by lia) h4] at h1;rw[cC,<-hl];exact bi h1
  exact subscriptTail_builtinR (x:=w) pl.isList.typeIs slot_list_getitem.lookup
   (wpAny_getItem_list_neg (Q:=fun r s'=>r=w/\EP X ae σ Q r s') pl.isList (by lia) (by rw[cC] <;> lia) (by lia) (by rw[hj];simpa using ew) ⟨rfl,cK⟩) hs
theorem cp:WO X (tZ X.K):=by
 intro value slice ae s σ H x y v u Q I rx ry h hs;obtain⟨p,xs,i,z,rfl,rfl,hq,he,q⟩:=h;cases rx;obtain⟨t,rfl⟩:=ry;obtain⟨its,r,pl,hz⟩:=I.tuple hq;obtain⟨j,h1,h2,h3,h4,h5⟩:=BH he;obtain⟨w,ew,Df⟩:=r.get h2;have hl:=r.length;have hn:=rT;have cK:EP X ae σ Q w s:=⟨z,H,I,Df,q⟩
 exact subscriptTail_builtinR (x:=w) pl.typeIs slot_tuple_getitem.lookup
  (getItem_tuple (j:=j) (Q:=fun r s'=>r=w/\EP X ae σ Q r s') pl (by lia) (by lia) (by rw[cC,<-hl];exact h1) (by simpa using ew) ⟨rfl,cK⟩) hs
theorem z6(its:List Value)(n j:Nat)(u:Value):Obj.mapSeq (·.setIfInBounds j u) { cls:=.type "list",data:=.seq its.toArray n }={ cls:=.type "list",data:=.seq (its.set j u).toArray n }:=by
 simp[Obj.mapSeq]
theorem aE.lst(I:aE X ae σ H s)(h:H p=some (.lst xs)):
  ∃ (its:List Value) (n:Nat),aP xs its/\s.heap.get? p=some { cls:=.type "list",data:=.seq its.toArray n }/\xs.length<=sizeLine:=by
 obtain⟨z,its,n,r,e⟩:=I.bU p _ h;exact⟨its,n,r,e,z⟩
theorem aE.NM{ae:List (Addr×Obj)}{σ:St}{H:Hp}{s:Shared}{p:Addr}{xs ys:List V}{its its':List Value}{n n':Nat}{f:Obj->Obj}(I:aE X ae σ H s)(h:H p=some (.lst xs))(ho:s.heap.get? p=some { cls:=.type "list",data:=.seq its.toArray n })(hf:f { cls:=.type "list",data:=.seq its.toArray n }={ cls:=.type "list",data:=.seq its'.toArray n' })(r:aP ys its')(hz:ys.length<=sizeLine)(t:Nat):
  aE X ae σ (upd H p (.lst ys)) { s with heap:=s.heap.update p f,toks:=t }:=by
 have e:(s.heap.update p f).get? p=some { cls:=.type "list",data:=.seq its'.toArray n' }:=by
  rw[oE f ho (by rw[hf] <;> rfl),hf]
 refine I.write (x:=p) (e:=p) (by rw[h];trivial) (.inl rfl) (fun b u hb q=>(q9 _ _ (bE hb)).trans q) ⟨_,e⟩ ?_;exact⟨hz,its',n',r,e⟩
def RZ:V->V->V->Hp->(Hp->Prop)->Prop:=fun o i v H Q=>∃p xs k j,o=.ref p/\i=.int k/\H p=some (.lst xs)/\EM xs.length k=some j/\Q (upd H p (.lst (xs.set j v)))
theorem ge:Nx X RZ:=by
 intro ae s σ H o i v ov iv u Q I ro ri rv h;obtain⟨p,xs,k,j,rfl,rfl,hp,hj,q⟩:=h;cases ro;obtain⟨t,rfl⟩:=ri;obtain⟨its,n,r,ho,hz⟩:=I.lst hp;obtain⟨h1,h2,h3,h4⟩:=BG hj;have hl:=r.length;have hn:=rT;have I':aE X ae σ (upd H p (.lst (xs.set j v))) { s with heap:=s.heap.update p (Obj.mapSeq (·.setIfInBounds j u)) }:=
  I.NM hp ho (z6 its n j u) (r.set rv j) (by rw[vE];exact hz) s.toks
 by_cases h0:0<=k
 .have hk:k.toNat=j:=by
   rw[seqIndex_of h0 h4] at h1;exact bi h1
  exact PySem.W.ki_setAt ho h0 (by lia) (by rw[cC,<-hl];exact h4) (by rw[hk];exact⟨_,I',q⟩)
 .have hk:(k+(its.toArray.size:Int)).toNat=j:=by
   rw[seqIndex_neg (by lia) h3] at h1;rw[cC,<-hl];exact bi h1
  exact PySem.W.ki_setBack ho (by lia) (by rw[cC,<-hl];exact h3) (by lia) (by rw[hk];exact⟨_,I',q⟩)
def ie:V->Bool
 |.bA=>true
 |.bl _=>true
 |.int _=>true
 |.str _=>true
 |_=>false
def vZ:V->V->Bool
 |.bA,.bA=>true
 |.bl a,.bl b=>a==b
 |.bl a,.int b=>(if a then 1 else 0)==b
 |.int a,.bl b=>a==(if b then 1 else 0)
 |.int a,.int b=>a==b
 |.str a,.str b=>a==b
 |_,_=>false
theorem z7(ry:bn y u)(rx:bn x v)(fy:ie y=true)(fx:ie x=true):SeqAt.EqAt A s u v (vZ y x):=by
 cases y with
 |bA=>
  cases ry;cases x with
  |bA=>cases rx;exact SeqAt.EqAt.same _
  |bl b=>cases rx;exact SeqAt.EqAt.none_bool b
  |int b=>obtain⟨t,rfl⟩:=rx;exact SeqAt.EqAt.none_int b t
  |str b=>obtain⟨t,rfl⟩:=rx;exact SeqAt.EqAt.none_str b t
  |_=>exact absurd (show false=true from fx) bo
 |bl a=>
  cases ry;cases x with
  |bA=>cases rx;exact SeqAt.EqAt.bool_none a
  |bl b=>cases rx;exact SeqAt.EqAt.bool_bool a b
  |int b=>obtain⟨t,rfl⟩:=rx;exact SeqAt.EqAt.bool_int a b t
  |str b=>obtain⟨t,rfl⟩:=rx;exact SeqAt.EqAt.bool_str a b t
  |_=>exact absurd (show false=true from fx) bo
 |int a=>
  obtain⟨t',rfl⟩:=ry;cases x with
  |bA=>cases rx;exact SeqAt.EqAt.int_none a t'
  |bl b=>cases rx;exact SeqAt.EqAt.int_bool a t' b
  |int b=>obtain⟨t,rfl⟩:=rx;exact SeqAt.EqAt.int_int a t' b t
  |str b=>obtain⟨t,rfl⟩:=rx;exact SeqAt.EqAt.int_str a t' b t
  |_=>exact absurd (show false=true from fx) bo
 |str a=>
  obtain⟨t',rfl⟩:=ry;cases x with
  |bA=>cases rx;exact SeqAt.EqAt.str_none a t'
  |bl b=>cases rx;exact SeqAt.EqAt.str_bool a t' b
  |int b=>obtain⟨t,rfl⟩:=rx;exact SeqAt.EqAt.str_int a t' b t
  |str b=>obtain⟨t,rfl⟩:=rx;exact SeqAt.EqAt.str_str a t' b t
  |_=>exact absurd (show false=true from fx) bo
 |_=>exact absurd (show false=true from fy) bo
def z8(x:V)(u:Value):Bool:=match u with
 |.none=>vZ .bA x
 |.bool b=>vZ (.bl b) x
 |.int i _=>vZ (.int i) x
 |.str z _=>vZ (.str z) x
 |_=>false
theorem FH(r:bn y u)(f:ie y=true):z8 x u=vZ y x:=by
 cases y with
 |bA=>cases r;rfl
 |bl b=>cases r;rfl
 |int i=>obtain⟨t,rfl⟩:=r;rfl
 |str z=>obtain⟨t,rfl⟩:=r;rfl
 |_=>exact absurd (show false=true from f) bo
theorem nG:∀ {xs:List V} {us:List Value},aP xs us->xs.all ie=true->us.any (z8 x)=xs.any fun y=>vZ y x
 |_,_,.nil,_=>rfl
 |y::xs,u::us,.cons r t,f=>by
  rw[vM,fq] at f;rw[kl,kl,FH r f.1,nG t f.2]
theorem kJ(rx:bn x v)(fx:ie x=true):∀ {xs:List V} {us:List Value},aP xs us->xs.all ie=true->∀u∈us,SeqAt.EqAt A s u v (z8 x u)
 |_,_,.nil,_=>fun u hu=>by cases hu
 |y::xs,u::us,.cons r t,f=>fun u' hu=>by
  rw[vM,fq] at f;rcases a7.mp hu with rfl|hu
  .rw[FH r f.1];exact z7 r rx f.1 fx
  .exact kJ rx fx t f.2 u' hu
def BI(x:V)(xs:List V):Bool:=xs.any fun y=>vZ y x
def VJ(K:PySem.W.Frag)(Jd:Bool):R2:=fun x y H Q=>∃p xs,y=.ref p/\(bh K H p xs\/bz K H p xs)/\ie x=true/\xs.all ie=true/\Q (.bl (if Jd then !BI x xs else BI x xs)) H
theorem fE:lH X (compareOp .In) (VJ X.K false):=by
 intro ae s σ H x y v u Q I rx ry h;obtain⟨p,xs,rfl,hq,fx,fs,q⟩:=h;cases ry;rcases hq with hq|hq
 .obtain⟨its,r,pl,hz⟩:=I.list hq;refine SeqAt.in_listAt (z8 x) pl.isList (fun w hw=>kJ rx fx r fs w (by simpa using hw)) ⟨.bl _,H,I,rfl,?_⟩;rw[show its.toArray.any (z8 x)=its.any (z8 x) by simp,nG r fs];exact q
 .obtain⟨its,r,pl,hz⟩:=I.tuple hq;refine SeqAt.in_tupleAt (z8 x) pl (fun w hw=>kJ rx fx r fs w (by simpa using hw)) ⟨.bl _,H,I,rfl,?_⟩;rw[show its.toArray.any (z8 x)=its.any (z8 x) by simp,nG r fs];exact q
theorem nI:lH X (compareOp .NotIn) (VJ X.K true):=by
 intro ae s σ H x y v u Q I rx ry h;obtain⟨p,xs,rfl,hq,fx,fs,q⟩:=h;cases ry;rcases hq with hq|hq
 .obtain⟨its,r,pl,hz⟩:=I.list hq;refine SeqAt.notIn_listAt (z8 x) pl.isList (fun w hw=>kJ rx fx r fs w (by simpa using hw)) ⟨.bl _,H,I,rfl,?_⟩;rw[show its.toArray.any (z8 x)=its.any (z8 x) by simp,nG r fs];exact q
 .obtain⟨its,r,pl,hz⟩:=I.tuple hq;refine SeqAt.notIn_tupleAt (z8 x) pl (fun w hw=>kJ rx fx r fs w (by simpa using hw)) ⟨.bl _,H,I,rfl,?_⟩;rw[show its.toArray.any (z8 x)=its.any (z8 x) by simp,nG r fs];exact q
theorem aJ:gb X (.builtin "len") (fun xs H Q=>∃p ys,xs=[.ref p]/\(bh X.K H p ys\/bz X.K H p ys)/\Q (.int ys.length) H):=by
 intro ae s σ H xs us Q I r h;obtain⟨p,ys,rfl,hq,q⟩:=h;obtain⟨u,rfl,rx⟩:=Fu r;cases rx;have hn:=rT;rcases hq with hq|hq
 .obtain⟨its,r',pl,hz⟩:=I.list hq;have cG:=r'.length;exact Calls.call_len_list pl.isList (by simp only[cC] <;> lia) ⟨.int ys.length,H,I.tok _,⟨s.toks+1,by rw[cC,cG]⟩,q⟩
 .obtain⟨its,r',pl,hz⟩:=I.tuple hq;have cG:=r'.length;exact len_tuple pl (by simp only[cC] <;> lia) ⟨.int ys.length,H,I.tok _,⟨s.toks+1,by rw[cC,cG]⟩,q⟩
theorem nJ:gb X (.type "list") (fun xs H Q=>∃p ys,xs=[.ref p]/\(bh X.K H p ys\/bz X.K H p ys)/\∀l,H l=none->Q (.ref l) (upd H l (.lst ys))):=by
 intro ae s σ H xs us Q I r h;obtain⟨p,ys,rfl,hq,q⟩:=h;obtain⟨u,rfl,rx⟩:=Fu r;cases rx;have cK:∀ (its:List Value),aP ys its->ys.length<=sizeLine->∀ (h':Heap) (c':Nat),(∀b o',s.heap.get? b=some o'->h'.get? b=some o')->
   h'.get? s.heap.objs.size=some { cls:=.type "list",dict:=none,data:=.seq its.toArray c',slots:=#[] }->EP X ae σ Q (.ref s.heap.objs.size) { s with heap:=h' }:=fun its r' hz h' c' kp e=>
  ⟨.ref s.heap.objs.size,_,I.laid (t':=s.toks) kp (aW _) (show bX X.prog X.w _ h' _ (.lst ys) from ⟨hz,its,c',r',e⟩),rfl,q _ (I.bU.fresh (aW _))⟩
 rcases hq with hq|hq
 .obtain⟨its,r',pl,hz⟩:=I.list hq;have cG:=r'.length;obtain⟨o,ho,hc,n,hd⟩:=pl.isList;exact call_list_seq p (.inl rfl) ho hc hd (fun h' c' kp e=>cK its r' hz h' c' kp e) (by simp only[cC] <;> lia)
 .obtain⟨its,r',pl,hz⟩:=I.tuple hq;have cG:=r'.length;obtain⟨o,ho,hc,n,hd⟩:=pl;exact call_list_seq p (.inr rfl) ho hc hd (fun h' c' kp e=>cK its r' hz h' c' kp e) (by simp only[cC] <;> lia)
theorem cr:gb X (.type "tuple") (fun xs H Q=>∃p ys,xs=[.ref p]/\((bh X.K H p ys/\∀l,H l=none->Q (.ref l) (upd H l (.tup ys)))\/(bz X.K H p ys/\Q (.ref p) H))):=by
 intro ae s σ H xs us Q I r h;obtain⟨p,ys,rfl,h⟩:=h;obtain⟨u,rfl,rx⟩:=Fu r;cases rx;rcases h with ⟨hq,q⟩|⟨hq,q⟩
 .obtain⟨its,r',pl,hz⟩:=I.list hq;have cG:=r'.length;refine call_tuple_list pl.isList (fun h' kp=>?_) (by simp only[cC] <;> lia);have I1:aE X ae σ H { s with heap:=h' }:=I.kept (t':=s.toks) kp;have I2:aE X ae σ (upd H h'.objs.size (.tup ys)) { s with heap:=h'.push { cls:=.type "tuple",data:=.seq its.toArray } }:=
   I1.laid (t':=s.toks) (fun b o e=>bp _ e) (aW _) (show bX X.prog X.w _ _ _ (.tup ys) from ⟨hz,its,r',mn.new _ _⟩)
  exact⟨.ref h'.objs.size,_,I2,rfl,q _ (I1.bU.fresh (aW _))⟩
 .obtain⟨its,r',pl,hz⟩:=I.tuple hq;exact call_tuple_same pl ⟨.ref p,H,I,rfl,q⟩
def tyV(K:PySem.W.Frag)(T:String)(x:V)(H:Hp):Prop:=match x with
 |.str _=>T="str"
 |.int _=>T="int"
 |.ref p=>(T="list"/\∃xs,bh K H p xs)\/(T="tuple"/\∃o,K.lookup p=some o/\o.cls=.type "tuple"/\o.dict=none)\/
   (T="dict"/\((∃kvs,H p=some (.dK kvs))\/∃kvs,H p=some (.dT kvs)))\/(T="set"/\∃S n,H p=some (.set S n))
 |_=>False
theorem NO(I:aE X ae σ H s)(r:bn x v)(ty:tyV X.K T x H):
  s.TypeIs v T/\∀a,v=.ref a->∃ob,s.heap.get? a=some ob/\ob.dict=none:=by
 cases x with
 |str z=>
  obtain⟨t,rfl⟩:=r;cases (show T="str" from ty);exact⟨typeIs_str s z t,fun _ e=>nomatch e⟩
 |int i=>
  obtain⟨t,rfl⟩:=r;cases (show T="int" from ty);exact⟨typeIs_int s i t,fun _ e=>nomatch e⟩
 |ref p=>
  cases r;rcases ty with ⟨rfl,xs,hq⟩|⟨rfl,o,hk,hc,hd⟩|⟨rfl,hk⟩|⟨rfl,S,n,hk⟩
  .obtain⟨its,_,pl,_⟩:=I.list hq;refine⟨pl.isList.typeIs,fun a e=>?_⟩;cases e;obtain⟨o,n,e,c,hd,_⟩:=pl;exact⟨o,e,hd⟩
  .refine⟨⟨o,I.pV p o hk,hc⟩,fun a e=>?_⟩;cases e;exact⟨o,I.pV _ o hk,hd⟩
  .have z:∃o,s.heap.get? p=some o/\o.ExactDict:=by
    rcases hk with ⟨kvs,hk⟩|⟨kvs,hk⟩
    .obtain⟨_,_,_,_,o,_,_,e,ex,_⟩:=I.bU p _ hk;exact⟨o,e,ex⟩
    .obtain⟨_,_,_,_,o,_,_,e,ex,_⟩:=I.bU p _ hk;exact⟨o,e,ex⟩
   obtain⟨o,e,ex⟩:=z;refine⟨⟨o,e,ex.1⟩,fun a e2=>?_⟩;cases e2;exact⟨o,e,ex.2.1⟩
  .obtain⟨o,_,_,_,e,ex,_⟩:=I.bU p _ hk;refine⟨⟨o,e,ex.1⟩,fun a e2=>?_⟩;cases e2;exact⟨o,e,ex.2.1⟩
 |_=>exact False.elim ty
def tBM(K:PySem.W.Frag)(T:String)(r:V->List V->Hp->VK->Prop)(to:TE)(t:TA):TE:=fun σ H Q=>to σ H fun x H1=>tyV K T x H1/\t σ H1 fun xs H2=>r x xs H2 Q
variable {o e:Expr} {es:List Expr} {to:TE} {t:TA} {name:Str} {qi qj:Pos} {T id:String} {r:V->List V->Hp->VK->Prop}
theorem ig(pa:PlainAttrs T)(slot:Slot T name id)(hty:typeOf (.builtin id)=pure (.type "method_descriptor"))(hm:MtR X id r)(ho:PE X o to)(ha:PA X (e::es) t)(R0:attributeBase o name X.env (eval o X.env)=eval o X.env:=by rfl)(WP:((backTo qj (starEach (e::es) X.env)).all (fun x=>!x.1)&&(backToKw qj (keywordEach [] X.env)).all (fun x=>x.1.isSome)
   && decide ((e::es).length+([]:List Keyword).length+(if ([]:List Keyword).isEmpty then 0 else 1)<30))=true:=by rfl)(R1:(qi.endLine==qj.line)=true:=by rfl)(hs:starEach (e::es) X.env=(false,eval e X.env)::starEach es X.env:=by rfl)(z_:(backTo qj (starEach es X.env)).any (·.1)=false:=by rfl):
  PE X (.Call (.Attribute o name qi) (e::es) [] qj) (tBM X.K T r to t):=by
 intro ae s σ H Q I h;refine wpAny_Call_method_late R0 WP R1 rfl (cj (ho ae s σ H _ I h) fun v s1 ⟨x,H1,I1,r1,ty,q1⟩=>?_);obtain⟨h1,h2⟩:=NO I1 r1 ty;refine⟨T,id,pa,slot,hty,h1,h2,?_⟩;have hA:=ha qj ae s1 σ H1 _ I1 q1;rw[hs] at hA |-;refine Calls.callWith_builtin (by show (false||(backTo qj (starEach es X.env)).any (·.1))=false;rw[z_] <;> rfl) (Calls.evalArgs_plain ?_);exact cj hA fun us s2 ⟨vs,H2,I2,r2,q2⟩=>hm ae s2 σ H2 x vs v us Q I2 r1 r2 q2
end
def MtM(X:Cx)(id:String)(r:V->List V->Hp->VK->Prop):Prop:=
 ∀ (ae:List (Addr×Obj)) (s:Shared) (σ:St) (H:Hp) (x:V) (xs:List V) (v:Value) (us:List Value) (Q:VK),aE X ae σ H s->bn x v->aP xs us->r x xs H Q->
  wpAny (model X.prog X.w) X.A (call (.builtin id) (v::us)) (EP X ae σ Q) X.xe s
theorem aP.one{x:V}{us:List Value}(h:aP [x] us):∃u,us=[u]/\bn x u:=by
 cases h with
 |cons r h=>cases h;exact⟨_,rfl,r⟩
theorem aP.two{x y:V}{us:List Value}(h:aP [x,y] us):∃u v,us=[u,v]/\bn x u/\bn y v:=by
 cases h with
 |cons r h=>
  cases h with
  |cons q h=>cases h;exact⟨_,_,rfl,r,q⟩
theorem aP.eraseIdx:∀ {xs:List V} {us:List Value} (i:Nat),aP xs us->aP (xs.eraseIdx i) (us.eraseIdx i)
 |_,_,_,.nil=>.nil
 |_,_,0,.cons _ t=>t
 |_,_,i+1,.cons r t=>.cons r (aP.eraseIdx i t)
theorem aP.rep(h:aP xs us):∀k:Nat,aP (List.replicate k xs).flatten (List.replicate k us).flatten
 |0=>.nil
 |k+1=>by
  rw[rd,rd,vw,vw];exact aP.append h (aP.rep h k)
theorem uA(its:List Value):∀ (k:Nat) (cn:List Value),
  List.foldl (fun x1 x2=>x1++x2) cn.toArray (List.replicate k its.toArray)=(cn++(List.replicate k its).flatten).toArray
 |0,cn=>by simp
 |k+1,cn=>by
  have e:cn.toArray++its.toArray=(cn++its).toArray:=by simp
  have e2:(cn++its)++(List.replicate k its).flatten=cn++(List.replicate (k+1) its).flatten:=by
   rw[rd,vw,cT]
  rw[<-e2,<-uA its k (cn++its),<-e,rd,f8]
section
variable {X:Cx} {ae:List (Addr×Obj)} {σ:St} {H:Hp} {s:Shared} {l b:Addr} {xs ys zs:List V}
theorem aE.R3{its its':List Value}{n:Nat}{f:Array Value->Array Value}{t':Nat}(I:aE X ae σ H s)(hH:H l=some (.lst xs))(e:s.heap.get? l=some { cls:=.type "list",data:=.seq its.toArray n })(hf:f its.toArray=its'.toArray)(hv:aP ys its')(hz:ys.length<=sizeLine):
  aE X ae σ (upd H l (.lst ys)) { s with heap:=s.heap.update l (Obj.mapSeq f),toks:=t' }:=by
 have q:=PySem.IsL.update e f;rw[hf] at q;refine I.write (x:=l) (e:=l) (by rw[hH];exact trivial) (.inl rfl) (fun b' u hb hu=>(q9 s.heap (Obj.mapSeq f) (bE hb)).trans hu) ⟨_,q⟩ ?_;exact⟨hz,its',_,hv,q⟩
theorem aE.NP(I:aE X ae σ H s)(hv:aP ys its)(hz:ys.length<=sizeLine):
  aE X ae σ (upd H s.heap.objs.size (.lst ys)) { s with heap:=s.heap.push { cls:=.type "list",data:=.seq its.toArray },toks:=t' }:=
 I.laid (fun _ _ q=>bp _ q) (aW _) ⟨hz,its,0,hv,bR _ rfl⟩
theorem aE.fresh(I:aE X ae σ H s):H s.heap.objs.size=none:=I.bU.fresh (aW _)
theorem aE.FJ(I:aE X ae σ H s)(hH:H l=some (.lst xs)):xs.length<=sizeLine/\∃ (its:List Value) (n:Nat),aP xs its/\xs.length=its.length/\s.heap.get? l=some { cls:=.type "list",data:=.seq its.toArray n }:=by
 obtain⟨z,its,n,r,e⟩:=I.bU l _ hH;exact⟨z,its,n,r,r.length,e⟩
theorem FK(h:n<=sizeLine):Builtin.List.listTooLong n=false:=by
 unfold Builtin.List.listTooLong;exact dP (by lia)
end
section
variable {X:Cx}
def JR:V->List V->Hp->VK->Prop:=fun x vs H Q=>∃l xs y,x=.ref l/\vs=[y]/\H l=some (.lst xs)/\xs.length<sizeLine/\Q .bA (upd H l (.lst (xs++[y])))
theorem cL:MtM X "list.append" JR:=by
 intro ae s σ H x vs v us Q I rx rv h;obtain⟨l,xs,y,rfl,rfl,hH,hz,q⟩:=h;cases rx;obtain⟨u,rfl,ru⟩:=rv.one;obtain⟨z,its,n,r,hl,e⟩:=I.FJ hH;refine call_meets F.slot_list_append ⟨_,e,rfl⟩ F.entry_list_append (F.args_list_append_2 _ _) (PySem.list_append l its.toArray n u (by rw[cC];lia)) ⟨e,?_⟩;refine⟨.bA,_,I.R3 (its':=its++[u]) hH e (by simp) (r.append (.cons ru .nil)) ?_,rfl,q⟩;rw[dF,List.length_singleton];lia
def WQ:R2:=fun x y H Q=>∃l b xs zs,x=.ref l/\y=.ref b/\H l=some (.lst xs)/\H b=some (.lst zs)/\xs.length+zs.length<=sizeLine/\∀p,H p=none->Q (.ref p) (upd H p (.lst (xs++zs)))
theorem NQ:lH X (binaryOp .Add) WQ:=by
 intro ae s σ H x y v u Q I rx ry h;obtain⟨l,b,xs,zs,rfl,rfl,hH,hB,hz,q⟩:=h;cases rx;cases ry;obtain⟨z,its,n,r,hl,e⟩:=I.FJ hH;obtain⟨z2,JS,n2,r2,hl2,e2⟩:=I.FJ hB;refine PySem.P.add_list e e2 ?_ (by rw[cC,cC];lia);have ea:its.toArray++JS.toArray=(its++JS).toArray:=by simp
 rw[ea];exact⟨.ref _,_,I.NP (t':=s.toks) (r.append r2) (by rw[dF];lia),rfl,q _ I.fresh⟩
def WR:R2:=fun x y H Q=>∃l k xs,x=.ref l/\y=.int k/\H l=some (.lst xs)/\-(2 ^ 63)<=k/\k<2 ^ 63/\xs.length*k.toNat<=sizeLine/\
 ∀p,H p=none->Q (.ref p) (upd H p (.lst (List.replicate k.toNat xs).flatten))
theorem JT(xs:List α)(k:Nat):(List.replicate k xs).flatten.length=k*xs.length:=by
 induction k with
 |zero=>simp
 |succ k ih=>rw[rd,vw,dF,ih,Nat.succ_mul,Nat.add_comm]
theorem NR:lH X (binaryOp .Mult) WR:=by
 intro ae s σ H x y v u Q I rx ry h;obtain⟨l,k,xs,rfl,rfl,hH,h1,h2,hz,q⟩:=h;cases rx;obtain⟨t,rfl⟩:=ry;obtain⟨z,its,n,r,hl,e⟩:=I.FJ hH;have cG:its.toArray.size*k.toNat<=sizeLine:=by rw[cC,<-hl];exact hz
 have WT:¬ its.toArray.size*k.toNat > (2 ^ 63-1) / 8:=by
  have:(sizeLine:Nat)<=(2 ^ 63-1) / 8:=by decide
  lia
 have WU:¬ (!Builtin.List.listFitsIndex k)=true:=by
  rw[fitsIndex_both h1 h2];exact bo
 have R4:¬ Builtin.List.listTooLong (its.toArray.size*k.toNat)=true:=by
  rw[FK cG];exact bo
 have rZ:List.foldl (fun x1 x2=>x1++x2) #[] (List.replicate (if its.toArray.isEmpty=true then 0 else k.toNat) its.toArray)=(List.replicate k.toNat its).flatten.toArray:=by
  have f0:∀m:Nat,List.foldl (fun x1 x2=>x1++x2) #[] (List.replicate m its.toArray)=(List.replicate m its).flatten.toArray:=fun m=>by
   have:=uA its m [];rw[zy] at this;exact this
  rw[f0];cases its with
  |nil=>simp
  |cons a r'=>rw[ap (by simp)]
 refine wpAny_binaryOp_repeat_ref (T:="list") (U:="int") (by decide) ⟨_,e,rfl⟩ (fun s'=>typeIs_int s' k t) noFill_list_mul F.fills_int_mul F.slot_int_rmul repeat_list F.slot_int_index.lookup
  (call_meets F.slot_int_rmul (typeIs_int s k t) F.entry_int_rmul (F.args_int_rmul_2 _ _) (int___rmul___int_list k t l its.toArray n)
   ⟨e,rfl,⟨_,e,rfl⟩,call_meets F.slot_list_mul ⟨_,e,rfl⟩ F.entry_list_mul (F.args_list_mul_2 _ _) (AutoListH.list___mul___list_int_3 l its.toArray n k t WU WT R4) ⟨e,?_⟩⟩)
 rw[rZ];exact⟨.ref _,_,I.NP (t':=s.toks) (r.rep k.toNat) (by rw[JT,vR];exact hz),rfl,q _ I.fresh⟩
end
section
variable {prog:Program} {w:World} {A:Around} {E:Value->Shared->Prop} {s:Shared}
end
section
variable {X:Cx}
end
end L2
namespace Att
open PySem PySem.W PySem.Calls PyProof.Rows
theorem qk:∀ (ns:List Int) (vs:List Value),WellAll P h vs (ns.map WData.int)->IntsAre vs ns:=by
 intro ns;induction ns with
 |nil=>
  intro vs w;rw[List.map_nil] at w;cases w;exact .nil
 |cons n ns ih=>
  intro vs w;rw[eD] at w;cases w with
  |cons a b=>
   cases a;exact .cons _ _ (ih _ b)
theorem Dp{l:OpenLaw}{n:Nat}(hn:l.most=some n){P:Params}{h:Heap}{args:List WData}{FL:List Value}(JU:l.row.toRowW.claim.pre args=true)(WV:WellAll P h FL args):
  ∃a vs ns,FL=[Value.ref a]/\args=[WData.list (ns.map WData.int)]/\h.get? a=some { cls:=.type "list",data:=.seq vs.toArray }/\IntsAre vs ns/\ns.length<=n:=by
 have hsh:WShape.hasAll [] args [.list .int]=true:=(pre_splitW JU).1;have hc:l.pre.holds [] { args:=args }=true:=(pre_splitW JU).2;obtain⟨d,r,rfl,h1,h2⟩:=hasAllW_cons hsh;obtain rfl:=hasAllW_nil h2;obtain⟨xs,rfl,h3⟩:=hasW_list h1;obtain⟨ns,rfl⟩:=items_int h3;have cG:ns.length<=n:=by
  unfold OpenLaw.pre at hc;have h4:(WTm.not (.lt (.lit (.int (n:Int))) (.len (.arg 0)))).holds [] { args:=[.list (ns.map .int)] }=true:=by
   have h4:=(holds_andW hc).1;rw[hn] at h4;exact h4
  have h5:=condW_of h4 (w_not (w_lt w_lit (w_len_list (w_arg rfl))));rw[aV] at h5;refine zm fun q=>?_;have q':(n:Int)<((ns.length:Nat):Int):=by lia
  first
   |(rw[decide_eq_true q'] at h5;exact absurd h5 (by decide))
   |(simp at h5;lia)
 cases WV with
 |cons w1 w2=>
  cases w2;cases w1 with
  |list ho xv=>exact⟨_,_,ns,rfl,rfl,ho,qk ns _ xv,cG⟩
theorem Dq(l:OpenLaw)(args:List WData):l.row.toRowW.claim.post args (.bool true) args=true:=
 postW_of (r:=l.row.toRowW) (X:=(true==true))
  (show WShape.has [] (.bool true) .bool=true by first|rfl|decide|simp[WShape.has,WShape.arms,WShape.armsAll])
  (show (WTm.eq .res (.lit (.bool true))).value [] { args:=args,res:=some (.bool true),after:=args }=some (.bool (true==true)) from w_eq_bool (w_res rfl) w_lit) rfl
theorem xw{l:OpenLaw}{n:Nat}{q:Program}{uB:List Str}{XP:(Str->Option Value)->Heap->Prop}{YP:World->Heap->Prop}{d:DefRec}(hn:l.most=some n)(R5:d.params.defaults=[])(call:∀ (w:World) (s₀ s₁:Shared) (mg mb:Str->Option Value) (fa:Addr) (o:Obj) (pm cd m_:Value) (a:Addr) (vs:List Value) (ns:List Int),
   Ground q uB [] XP w s₀ mg mb s₁.heap->YP w s₁.heap->
   s₁.heap.get? fa=some o->o.data=.func (docDef d.name d.params d.body d.scope pm cd m_)->s₁.heap.CodeRec cd d.name->mg d.name=some (.ref fa)->
   s₁.heap.get? a=some { cls:=.type "list",data:=.seq vs.toArray }->IntsAre vs ns->ns.length<=n->s₁.gens=#[]->
   codeAny (model l.prog w) callerA (.call (.ref fa) ⟨[.ref a],[]⟩) (fun r s'=>r=.ok (.ret (.bool true))/\OldK s₁.heap s'.heap/\s'.os=s₁.os/\AllBare s'.gens) s₁):
  WalkO q uB XP YP l.row.toRowW d [] (fun f vs=>PySem.call f vs):=by
 intro w s₀ s₁ mg mb G Y fa o pm cd m_ dV kV ho hd tK hD R6 hg args FL as JU aa2 hrd WV VL;obtain rfl:dV=.none:=Dflts.none hD R5;obtain rfl:kV=.none:=Dflts.noKw hD;obtain⟨a,vs,ns,rfl,rfl,NS,FM,cG⟩:=Dp hn JU WV;refine enter_call (kn (call w s₀ s₁ mg mb fa o pm cd m_ a vs ns G Y ho (fd_plain hd) tK R6 NS FM cG hg) fun r s' hq=>?_);obtain⟨rfl,h2,h3,h4⟩:=hq;exact⟨.inl ⟨.bool true,.bool true,[],rfl,fun _=>rfl,.bool true,Dq l _,fun _=>⟨List.Pairwise.nil,fun _ hm=>(nomatch hm)⟩⟩,h2,h3,h4⟩
section
variable {prog:Program} {w:World} {A:Around} {E:Value->Shared->Prop} {s:Shared} {K:Frag}
end
end Att
namespace L2
open PySem PySem.Spec PyProof.Rows
theorem pj:∀ {vs:List Value} {ns:List Int},IntsAre vs ns->aP (ns.map V.int) vs
 |_,_,.nil=>.nil
 |_,_,.cons n t h=>.cons ⟨t,rfl⟩ (pj h)
def eJ(s:Stmt)(j:Nat):Stmt:=match s with
 |.ClassDef _ _ _ body _ _ _ _ _ _ _=>body.getD j (.Pass ⟨0,0,0,0⟩)
 |_=>.Pass ⟨0,0,0,0⟩
def cZ(s:Stmt):Arguments:=match s with
 |.FunctionDef _ a _ _ _ _ _ _ _ _=>a
 |_=>{ posonlyargs:=[],args:=[],vararg:=none,kwonlyargs:=[],kw_defaults:=[],kwarg:=none,defaults:=[] }
def cu(s:Stmt):List Stmt:=match s with
 |.FunctionDef _ _ b _ _ _ _ _ _ _=>b
 |_=>[]
def am(s:Stmt):Scope:=match s with
 |.FunctionDef _ _ _ _ _ _ sc _ _ _=>sc
 |_=>{ kind:=.function,names:=[],isGenerator:=false,isCoroutine:=false }
abbrev ba:xf:=fun _ _ _ _ _ _=>False
abbrev E0:XK:=fun _ _ _=>False
theorem aF:iT ba X E0:=fun _ _ _ _ _ _ _ h=>h.elim
structure eN(K:PySem.W.Frag)(x qual:Str)(st:Stmt)(f:Addr)(fd:FuncData):Prop where
 ex:∃ (oc:Value) (od:Option Addr) (kV m_ pm:Value) (an:Option Addr) (dt ct:Value) (xr:Array (Option Value)),
  fd=PySem.W.fnOf x qual (cZ st) (cu st) (am st) .none kV m_ pm an dt ct/\K.lookup f=some ⟨oc,od,.func fd,xr⟩/\PySem.W.codeIn K dt qual=true
 kp:PySem.W.keepIn K (.ref f)=true
section
variable {P:Program} {w:World} {K:PySem.W.Frag} {mg:Str->Option Value} {base:Heap}
theorem eN.ok{x qual:Str}{st:Stmt}{f:Addr}{fd:FuncData}{N ps:List Str}{k:Nat}{sp:Sp}(F:eN K x qual st f fd)(S:aA N ps (am st))(len:∀vs H Q E,sp vs H Q E->vs.length=ps.length)(rX:∀ (dt:Value) (A:Around) (outer:List Env) (s:Shared) (H:Hp) (vs:List V) (Q:VK) (E:XK),bQ k (A.deeper (envOfC qual (am st) s.heap.objs.size f dt))->sp vs H Q E->
   ∃t,yA (jv ba P w K mg base N qual (am st) f dt A outer s H E).Mi (cu st) t/\t { nx:=fun _ H'=>Q .bA H',rt:=Q } (start N vs) H):bj P w K mg base ba (k+1) f fd ps sp:=by
 obtain⟨oc,od,kV,m_,pm,an,dt,ct,xr,rfl,lk,tK⟩:=F.ex;refine FB lk tK S len fun A outer s H vs Q E hr EL=>?_;obtain⟨t,h,q⟩:=rX dt A outer s H vs Q E hr EL;exact⟨t,h.Mi,q⟩
theorem eN.binds{x qual:Str}{st:Stmt}{f:Addr}{fd:FuncData}{ps:List Str}(F:eN K x qual st f fd)(h:∀ (kV m_ pm:Value) (an:Option Addr) (dt ct:Value) (us:List Value),us.length=ps.length->bindArgs (PySem.W.fnOf x qual (cZ st) (cu st) (am st) .none kV m_ pm an dt ct) ⟨us,[]⟩=pure (ps.zip us)):i6 K fd ps []:=by
 obtain⟨oc,od,kV,m_,pm,an,dt,ct,xr,rfl,lk,tK⟩:=F.ex;exact .all (h kV m_ pm an dt ct)
theorem r0{x qual:Str}{st:Stmt}{f:Addr}{oc:Value}{od an:Option Addr}{xr:Array (Option Value)}{kV m_ pm dt ct:Value}(l:K.lookup f=some ⟨oc,od,.func (PySem.W.fnOf x qual (cZ st) (cu st) (am st) .none kV m_ pm an dt ct),xr⟩)(c:PySem.W.codeIn K dt qual=true)(k:PySem.W.keepIn K (.ref f)=true):eN K x qual st f (PySem.W.fnOf x qual (cZ st) (cu st) (am st) .none kV m_ pm an dt ct):=⟨⟨oc,od,kV,m_,pm,an,dt,ct,xr,rfl,l,c⟩,k⟩
end
section
variable {X:Cx}
theorem pv(i:Nat)(hN:X.N[i]?=some x:=by rfl)(hv:Rp X.env.scope x:=by first|exact Or.inl rfl|exact Or.inr (Or.inl rfl)|exact Or.inr (Or.inr rfl))(hd:(x==("__debug__":Str))=false:=by decide)(tK:(x==("__classdict__":Str))=false:=by decide):PE X (.Name x pos) (bf i):=Nr hN hv hd tK
end
theorem eX{A B:Prop}(h:B):if false=true then A else B:=by
 rw[ap bo];exact h
theorem gD{A B:Prop}(h:A):if true=true then A else B:=by
 rw[ai rfl];exact h
theorem gG{c A B:Prop}[Decidable c](h1:c->A)(h2:¬ c->B):if c then A else B:=by
 by_cases h:c
 .rw[ai h];exact h1 h
 .rw[ap h];exact h2 h
def az(H H':Hp):Prop:=∀b o,H b=some o->H' b=some o
theorem az.refl(H:Hp):az H H:=fun _ _ h=>h
theorem az.trans(a:az H H1)(b:az H1 H2):az H H2:=fun c o h=>b c o (a c o h)
theorem az.free(e:az H H')(h:H' l=Option.none):H l=Option.none:=by
 cases q:H l with
 |none=>rfl
 |some o=>
  rw[e l o q] at h;cases h
def FO(src:List (Option Nat))(σ:St):St:=src.map fun o=>match o with|some j=>σ.getD j none|none=>none
theorem JV{src:List (Option Nat)}{σ:St}{i:Nat}{v:V}(h:(FO src σ)[i]?=some (some v)):∃j,src[i]?=some (some j)/\σ[j]?=some (some v):=by
 unfold FO at h;rw[bv] at h;cases e:src[i]? with
 |none=>rw[e] at h;cases h
 |some o=>
  rw[e] at h;cases o with
  |none=>cases h
  |some j=>
   refine⟨j,rfl,?_⟩;have h':σ.getD j none=some v:=bi h;rw[cg] at h';cases e2:σ[j]? with
   |none=>rw[e2] at h';cases h'
   |some o=>rw[e2] at h';rw[show o=some v from h']
structure eE(NB:List Str)(src:List (Option Nat))(scope:Scope)(X:Cx):Prop where
 kind:scope.kind=.function
 nd:NB.Nodup
 len:src.length=NB.length
 cells:∀y∈scope.names,y.2=.cell->scope.names.lookup y.1=some .cell
 names:∀y∈scope.names,y.2=.local->scope.names.lookup y.1=some .local
 free:∀y∈scope.names,y.2=.free->X.env.scope.names.lookup y.1=some .cell\/X.env.scope.names.lookup y.1=some .free
 src:∀ (i:Nat) (x:Str) (j:Nat),NB[i]?=some x->src[i]?=some (some j)->X.N[j]?=some x/\scope.names.lookup x=some .free
def v6(scope:Scope)(x:Str):Bool:=match scope.names.lookup x with
 |some .cell=>true
 |_=>false
theorem xx:v6 scope x=true↔scope.names.lookup x=some .cell:=by
 unfold v6;split
 .rename_i h;exact⟨fun _=>h,fun _=>rfl⟩
 .rename_i h;exact⟨fun z=>(by cases z),fun z=>absurd z h⟩
def nK(X:Cx)(NB:List Str)(scope:Scope)(cl:List (Str×Addr))(C:Addr)(s₃:Shared)(H₃:Hp)(fp:List Addr):Cx:=
 { X with N:=NB,s₀:=s₃,H₀:=H₃,env:=compEnvC scope cl C X.env,outer:=X.stack,stack:=X.stack,ex:=fp,fn:=v6 scope,pn:=[],xe:=fun _ _=>False }
theorem mB:∀ (names:List (Str×NameKind)) (cn:List (Str×Addr)),(∀y∈names,y.2=NameKind.free->∃c,env.cells.lookup y.1=some c)->(∀x c,cn.lookup x=some c->env.cells.lookup x=some c)->
  ∃cl,(forIn names cn fun x r=>(if (x.2==NameKind.free)=true then (do let a <- cellOf env x.1;pure (ForInStep.yield ((x.1,a)::r))) else pure (ForInStep.yield r):Sem (ForInStep (List (Str×Addr)))))=(pure cl:Sem (List (Str×Addr)))/\
   (∀x c,cl.lookup x=some c->env.cells.lookup x=some c)/\(∀x c,cn.lookup x=some c->∃c',cl.lookup x=some c')/\∀x,(x,NameKind.free)∈names->∃c,cl.lookup x=some c
 |[],cn,_,ha=>⟨cn,by rw[vI],ha,fun x c h=>⟨c,h⟩,fun x h=>nomatch h⟩
 |(n,k)::r,cn,hf,ha=>by
  by_cases hk:k=NameKind.free
  .subst hk;obtain⟨c,hc⟩:=hf (n,NameKind.free) bN rfl;have JW:∀x c',((n,c)::cn).lookup x=some c'->env.cells.lookup x=some c':=fun x c' h=>by
    rw[gN] at h;cases hx:x==n with
    |true=>
     rw[hx] at h;cases h;have:x=n:=by simpa using hx
     rw[this];exact hc
    |false=>rw[hx] at h;exact ha x c' h
   obtain⟨cl,e1,e2,e3,e4⟩:=mB r ((n,c)::cn) (fun y hy=>hf y (bL _ hy)) JW;refine⟨cl,?_,e2,fun x c' h=>?_,fun x h=>?_⟩
   .rw[vF];have ec:cellOf env n=pure c:=by unfold cellOf;rw[hc]
    have e0:(if ((n,NameKind.free).2==NameKind.free)=true then (do let a <- cellOf env (n,NameKind.free).1;pure (ForInStep.yield (((n,NameKind.free).1,a)::cn))) else pure (ForInStep.yield cn):Sem (ForInStep (List (Str×Addr))))=pure (ForInStep.yield ((n,c)::cn)):=by
     rw[ai (show (NameKind.free==NameKind.free)=true by decide)];show cellOf env n >>= _=_;rw[ec];rfl
    rw[e0];exact e1
   .cases hx:x==n with
    |true=>exact e3 x c (by rw[gN,hx])
    |false=>exact e3 x c' (by rw[gN,hx];exact h)
   .rcases a7.mp h with h|h
    .cases h;exact e3 n c (by rw[gN];simp)
    .exact e4 x h
  .obtain⟨cl,e1,e2,e3,e4⟩:=mB r cn (fun y hy=>hf y (bL _ hy)) ha;refine⟨cl,?_,e2,e3,fun x h=>?_⟩
   .rw[vF];have hb:(k==NameKind.free)=false:=by simpa using hk
    have e0:(if ((n,k).2==NameKind.free)=true then (do let a <- cellOf env (n,k).1;pure (ForInStep.yield (((n,k).1,a)::cn))) else pure (ForInStep.yield cn):Sem (ForInStep (List (Str×Addr))))=pure (ForInStep.yield cn):=by
     rw[ap (by show ¬ (k==NameKind.free)=true;rw[hb];decide)]
    rw[e0];exact e1
   .rcases a7.mp h with h|h
    .cases h;exact absurd rfl hk
    .exact e4 x h
theorem ii(ok:X.Ok)(S:eE NB src scope X):
  ∃cl,closureFor scope X.env=pure cl/\(∀x c,cl.lookup x=some c->X.env.cells.lookup x=some c)/\∀x,(x,NameKind.free)∈scope.names->∃c,cl.lookup x=some c:=by
 obtain⟨cl,e1,e2,_,e4⟩:=mB (env:=X.env) scope.names [] (fun y hy hk=>ok.has y.1 (S.free y hy hk)) (fun x c h=>nomatch h);refine⟨cl,?_,e2,e4⟩;unfold closureFor;simp only[bind_pure];exact e1
theorem v7(h:scope.names.lookup x=some .free):(relabel scope env).names.lookup x=some .cell\/(relabel scope env).names.lookup x=some .free:=by
 have go:∀names:List (Str×NameKind),names.lookup x=some .free->
   (names.map fun (n,k)=>if (k==NameKind.free&&env.scope.kind==.function&&env.kindOf n==some .cell) then (n,NameKind.cell) else (n,k)).lookup x=some .cell\/
   (names.map fun (n,k)=>if (k==NameKind.free&&env.scope.kind==.function&&env.kindOf n==some .cell) then (n,NameKind.cell) else (n,k)).lookup x=some .free:=by
  intro names;induction names with
  |nil=>intro h;simp at h
  |cons y r ih=>
   intro h;obtain⟨n,k⟩:=y;rw[gN] at h;rw[eD];cases hx:x==n with
   |true=>
    rw[hx] at h;cases h;by_cases hc:(NameKind.free==NameKind.free&&env.scope.kind==.function&&env.kindOf n==some .cell)=true
    .left;show List.lookup x ((if _ then _ else _)::_)=_;rw[ai hc,gN,hx]
    .right;show List.lookup x ((if _ then _ else _)::_)=_;rw[ap hc,gN,hx]
   |false=>
    rw[hx] at h;by_cases hc:(k==NameKind.free&&env.scope.kind==.function&&env.kindOf n==some .cell)=true
    .show List.lookup x ((if _ then _ else _)::_)=_\/List.lookup x ((if _ then _ else _)::_)=_;rw[ai hc,gN,hx];exact ih h
    .show List.lookup x ((if _ then _ else _)::_)=_\/List.lookup x ((if _ then _ else _)::_)=_;rw[ap hc,gN,hx];exact ih h
 exact go scope.names h
theorem nL(h:(relabel scope env).names.lookup x=some k)(hk:k=.cell\/k=.free):(x,NameKind.free)∈scope.names\/(x,NameKind.cell)∈scope.names:=by
 have m:=j7 h;obtain⟨⟨n,k'⟩,hm,e⟩:=aQ.mp m;by_cases q:(k'==NameKind.free&&env.scope.kind==.function&&env.kindOf n==some .cell)=true
 .have e':(n,NameKind.cell)=(x,k):=by simpa [q] using e
  have k1:k'=NameKind.free:=by
   simp only[fq,dL] at q;exact q.1.1
  cases e';left;rw[<-k1];exact hm
 .have e':(n,k')=(x,k):=by simpa [q] using e
  cases e';rcases hk with z|z
  .subst z;exact .inr hm
  .subst z;exact .inl hm
theorem lq:∀ (names:List (Str×NameKind)) (h:Heap) (cn:List (Str×Addr)) (x:Str) (c:Addr),(cellsFrom h.objs.size names cn).lookup x=some c->cn.lookup x=some c\/(h.objs.size<=c/\(pushCells h names).IsCell c none)
 |[],_,_,_,_,e=>.inl e
 |(name,kind)::r,h,cn,x,c,e=>by
  unfold cellsFrom at e;unfold pushCells;split at e
  .rename_i hk;rw[ai hk];have hsz:(h.push { cls:=.type "cell",data:=.cell none }).objs.size=h.objs.size+1:=hU ..;rw[<-hsz] at e;rcases lq r _ _ x c e with z|⟨z1,z2⟩
   .rw[gN] at z;cases hx:x==name with
    |true=>
     rw[hx] at z;cases z;exact .inr ⟨aW _,_,rD r _ _ _ (bR _ rfl),rfl⟩
    |false=>rw[hx] at z;exact .inl z
   .exact .inr ⟨by lia,z2⟩
  .rename_i hk;rw[ap hk];exact lq r h cn x c e
theorem uC:∀ (names:List (Str×NameKind)) (n:Nat) (cn:List (Str×Addr)) (x:Str),(x,NameKind.cell)∈names->∃c,n<=c/\(cellsFrom n names cn).lookup x=some c:=by
 have up:∀ (names:List (Str×NameKind)) (n m:Nat) (cn:List (Str×Addr)) (x:Str) (c:Addr),cn.lookup x=some c->m<=c->m<=n->∃c',m<=c'/\(cellsFrom n names cn).lookup x=some c':=by
  intro names;induction names with
  |nil=>intro n m cn x c e h _;exact⟨c,h,e⟩
  |cons y r ih=>
   intro n m cn x c e h hm;obtain⟨name,kind⟩:=y;unfold cellsFrom;split
   .cases hx:x==name with
    |true=>exact ih (n+1) m _ x n (by rw[gN,hx]) hm (by lia)
    |false=>exact ih (n+1) m _ x c (by rw[gN,hx];exact e) h (by lia)
   .exact ih n m cn x c e h hm
 intro names;induction names with
 |nil=>intro n cn x h;cases h
 |cons y r ih=>
  intro n cn x h;obtain⟨name,kind⟩:=y;unfold cellsFrom;rcases a7.mp h with z|z
  .cases z;rw[ai (by decide)];exact up r (n+1) n _ x n (by rw[gN];simp) (aW _) (by lia)
  .split
   .obtain⟨c,h1,h2⟩:=ih (n+1) ((name,n)::cn) x z;exact⟨c,by lia,h2⟩
   .exact ih n cn x z
theorem lr:∀ (names:List (Str×NameKind)) (n:Nat) (cn:List (Str×Addr)) (x:Str) (c:Addr),cn.lookup x=some c->(x,NameKind.cell)∉names->(cellsFrom n names cn).lookup x=some c
 |[],_,_,_,_,e,_=>e
 |(name,kind)::r,n,cn,x,c,e,h=>by
  have hr:(x,NameKind.cell)∉r:=fun z=>h (bL _ z);unfold cellsFrom;split
  .rename_i hk;have mC:(x==name)=false:=by
    cases hx:x==name with
    |false=>rfl
    |true=>
     have e1:x=name:=by simpa using hx
     have e2:kind=.cell:=by simpa using hk
     exact absurd (by rw[e1,e2];exact bN) h
   exact lr r (n+1) _ x c (by rw[gN,mC];exact e) hr
  .exact lr r n cn x c e hr
theorem pq:∀ (names:List (Str×NameKind)) (n:Nat) (cn:List (Str×Addr)),(∀x y c,cn.lookup x=some c->cn.lookup y=some c->x=y)->(∀x c,cn.lookup x=some c->c<n)->∀x y c,(cellsFrom n names cn).lookup x=some c->(cellsFrom n names cn).lookup y=some c->x=y
 |[],_,_,hi,_=>hi
 |(name,kind)::r,n,cn,hi,hl=>by
  unfold cellsFrom;split
  .refine pq r (n+1) _ (fun x y c h1 h2=>?_) (fun x c h=>?_)
   .rw[gN] at h1 h2;cases hx:x==name <;> cases hy:y==name <;> rw[hx] at h1 <;> rw[hy] at h2
    .exact hi x y c h1 h2
    .cases h2;exact absurd (hl x _ h1) (hX _)
    .cases h1;exact absurd (hl y _ h2) (hX _)
    .have e1:x=name:=by simpa using hx
     have e2:y=name:=by simpa using hy
     rw[e1,e2]
   .rw[gN] at h;cases hx:x==name <;> rw[hx] at h
    .exact dO (hl x c h)
    .cases h;exact j5 _
  .exact pq r n cn hi hl
section
variable {X:Cx} {ae:List (Addr×Obj)} {σ:St} {H:Hp} {s:Shared} {NB:List Str} {src:List (Option Nat)} {scope:Scope} {cl:List (Str×Addr)} {fp:List Addr} {h₁:Heap} {t₁:Nat}
theorem BJ(I:aE X ae σ H s)(S:eE NB src scope X)(c1:∀x c,cl.lookup x=some c->X.env.cells.lookup x=some c)(c2:∀x,(x,NameKind.free)∈scope.names->∃c,cl.lookup x=some c)(hf:∀b∈fp,f_ X ae H b)(R7:∀b∈fp,b<s.heap.objs.size){m:Str->Option Value}(hn:h₁.Ns s.heap.objs.size m)(hk:∀b o,s.heap.get? b=some o->h₁.get? b=some o)(rZ:∀x c,(cellsFrom (s.heap.objs.size+1) scope.names cl).lookup x=some c->cl.lookup x=some c\/(s.heap.objs.size<c/\h₁.IsCell c none)):
  aE (nK X NB scope (cellsFrom (s.heap.objs.size+1) scope.names cl) s.heap.objs.size s H fp) [] (FO src σ) H { s with heap:=h₁,toks:=t₁ }:=by
 have IZ:∀b∈oZ X.stack,b∈X.env.locals::X.fs:=I.rO;have FP:∀x c,cl.lookup x=some c->∃v,s.heap.IsCell c v:=fun x c e=>I.cell x c (c1 x c e);have WW:∀x c,cl.lookup x=some c->c<s.heap.objs.size:=fun x c e=>by obtain⟨v,o,ho,_⟩:=FP x c e;exact aM ho
 refine⟨⟨I.ok.mod,S.kind,I.ok.glob,I.ok.blt,aW _,pq _ _ _ (fun x y c e1 e2=>I.ok.inj x y c (c1 x c e1) (c1 y c e2)) (fun x c e=>dO (WW x c e)),fun x hx=>?_,fun x c z e=>?_,I.ok.hd,I.ok.frames,.inl rfl,fun b hb=>⟨?_,fun x c e=>?_⟩,I.bs,aZ I.ok.I0 I.sz,fun b o e hb=>?_,fun b hb=>?_,I.stack,I.vW⟩,
  rfl,I.bare,Un.kept hk,⟨m,hn,fun i x v e1 e2 e3=>?_⟩,fun x c e=>?_,I.bU.fresh (aW _),fun x c e=>?_,fun p hp=>absurd (show p∈([]:List (Addr×Obj)) from hp) (by simp),I.bU.kept hk,?_⟩
 .have JX:(x,NameKind.free)∈scope.names\/(x,NameKind.cell)∈scope.names:=by
   rcases hx with hx|hx
   .exact nL hx (.inl rfl)
   .exact nL hx (.inr rfl)
  by_cases hc:(x,NameKind.cell)∈scope.names
  .obtain⟨c,_,e⟩:=uC scope.names (s.heap.objs.size+1) cl x hc;exact⟨c,e⟩
  .rcases JX with z|z
   .obtain⟨c,e⟩:=c2 x z;exact⟨c,lr _ _ _ _ _ e hc⟩
   .exact absurd z hc
 .have hm:=j7 (xx.mp z);obtain⟨c',h1,h2⟩:=uC scope.names (s.heap.objs.size+1) cl x hm;have e':(cellsFrom (s.heap.objs.size+1) scope.names cl).lookup x=some c:=e;rw[h2] at e';cases e';exact Nat.le_of_succ_le h1
 .exact aT (R7 b hb)
 .rcases rZ x c e with z|⟨z,_⟩
  .exact(hf b hb).2.2.2.2.1 x c (c1 x c z)
  .exact gj (vS (R7 b hb) z)
 .rcases(hf b hb).2.2.2.1 with z|z
  .exact I.ok.rN b o e z
  .exact absurd (bK (aM e) (aZ I.ok.I0 z)) (hX _)
 .intro z;rcases a7.mp (IZ b z) with e|e
  .exact(hf b hb).2.1 e
  .exact(hf b hb).2.2.1 e
 .obtain⟨j,hj,hv⟩:=JV e2;obtain⟨hN,hF⟩:=S.src i x j e1 hj;obtain⟨m0,Je,WX⟩:=I.loc;have t_:=j7 hF;have kx:=S.free _ t_ rfl;have WA:Rp X.env.scope x:=by
   rcases kx with z|z
   .exact .inr (.inl z)
   .exact .inr (.inr z)
  obtain⟨u,r,l⟩:=WX j x v hN hv WA;refine⟨u,r,.inr ⟨v7 hF,?_⟩⟩;obtain⟨c,hc⟩:=c2 x t_;have hnc:(x,NameKind.cell)∉scope.names:=fun z=>by
   have:=S.cells _ z rfl;rw[hF] at this;cases this
  refine⟨c,lr _ _ _ _ _ hc hnc,?_⟩;rcases l with ⟨hk',_⟩|⟨_,c',e,z⟩
  .have R8:X.env.scope.names.lookup x=some .local:=hk';rcases kx with z|z <;> (rw[z] at R8;cases R8)
  .rw[c1 x c hc] at e;cases e;obtain⟨o,ho,hd⟩:=z;exact⟨o,hk _ _ ho,hd⟩
 .rcases rZ x c e with z|⟨_,z⟩
  .obtain⟨v,o,ho,hd⟩:=FP x c z;exact⟨v,o,hk _ _ ho,hd⟩
  .exact⟨none,z⟩
 .rcases rZ x c e with z|⟨z,_⟩
  .exact I.lO x c (c1 x c z)
  .exact I.bU.fresh (jl z)
 .show (FO src σ).length=NB.length;unfold FO;rw[aV];exact S.len
theorem aE.Ml(I:aE X ae σ H s)(J:aE (nK X NB scope cl C s H fp) [] σB H' s')(hf:∀b∈fp,f_ X ae H b):aE X ae σ H' s':=by
 refine I.Rx (ch:=fp) J.os J.base J.bU J.bare fun b hb=>?_;obtain⟨_,f1,_,f3,f4,f5⟩:=hf b hb;exact⟨f3,f1,f4,f5⟩
end
def Jf(X:Cx)(oq:List Expr)(t:TT):Prop:=
 ∀ (ae:List (Addr×Obj)) (s:Shared) (σ:St) (H:Hp) (Q:Bool->Hp->Prop),aE X ae σ H s->t σ H Q->
  wpAny (model X.prog X.w) X.A (forIn oq true fun c r=>if r=true then do let ok <- isTrue c X.env (eval c X.env);pure (ForInStep.yield ok) else pure (ForInStep.yield r)) (TP X ae σ Q) X.xe s
def JY:TT:=fun _ H Q=>Q true H
theorem fQ:Jf X [] JY:=fun _ _ _ H _ I h=>wpAny_tests_nil ⟨H,I,h⟩
theorem dD(h:PT X c t):Jf X [c] t:=fun ae s σ H Q I q=>wpAny_tests_one (h ae s σ H Q I q)
def iG(J:It)(g:TG)(tt:TT)(te:TE)(D:Addr)(cK:Hp->Prop)(σB:St)(H1:Hp):Prop:=
 ∃W:Nat->Nat->St->Hp->Prop,(∃m,W 0 m σB H1)/\∀i m σ H,W i m σ H->(J.stop i H/\cK H)\/(J.go i H/\∀x H',J.Ja i H x H'->g x σ H' fun σ2 H2=>tt σ2 H2 fun b H3=>
  if b=true then te σ2 H3 fun v H4=>∃ys,H4 D=some (.lst ys)/\ys.length<sizeLine/\∃m',m'<m/\W (i+1) m' σ2 (upd H4 D (.lst (ys++[v]))) else ∃m',m'<m/\W (i+1) m' σ2 H3)
def Aa(G:Hp->Prop)(J:It)(g:TG)(tt:TT)(te:TE)(D:Addr)(cK:Hp->Prop)(σB:St)(H1:Hp):Prop:=
 ∃W:Nat->Nat->St->Hp->Prop,(∃m,W 0 m σB H1)/\∀i m σ H,W i m σ H->G H/\((J.stop i H/\cK H)\/(J.go i H/\∀x H',J.Ja i H x H'->g x σ H' fun σ2 H2=>tt σ2 H2 fun b H3=>
  if b=true then te σ2 H3 fun v H4=>∃ys,H4 D=some (.lst ys)/\ys.length<sizeLine/\∃m',m'<m/\W (i+1) m' σ2 (upd H4 D (.lst (ys++[v]))) else ∃m',m'<m/\W (i+1) m' σ2 H3))
theorem iG.g{J:It}{g:TG}{tt:TT}{te:TE}{D:Addr}{cK:Hp->Prop}{σB:St}{H1:Hp}(h:iG J g tt te D cK σB H1):Aa (fun _=>True) J g tt te D cK σB H1:=let ⟨W,a,b⟩:=h;⟨W,a,fun i m σ H w=>⟨trivial,b i m σ H w⟩⟩
theorem Dr(hx:B.xe=fun _ _=>False)(hc:∀H,G H->B.calm=true\/J.VH B.A H)(T:qh B.prog B.w B.K tg J fp it tn)(hg:PG B tg g)(ht:Jf B oq tt)(he:PE B EN te)(I:aE B [] σB H1 s)(st:tn 0 s.heap)(hf:∀b∈fp,f_ B [] H1 b)(hw:Aa G J g tt te D cK σB H1)(hR:∀σ' H' s',aE B [] σ' H' s'->cK H'->R (.ok .next) s'):
  codeAny (model B.prog B.w) B.A (.compLoop (.ListComp EN [⟨tg,iter,oq,0⟩] scope pos) 0 (.ref it) (.ref D) B.env) R s:=by
 obtain⟨W,⟨m0,w0⟩,zP⟩:=hw;have rR:∀ {H':Hp},(∀b∈fp,H' b=none)->∀b∈fp,f_ B [] H' b:=fun hn b hb=>⟨hn b hb,(hf b hb).2⟩
 refine codeAny_loop rfl (fun n s'=>∃i σ' H',aE B [] σ' H' s'/\tn i s'.heap/\(∀b∈fp,H' b=none)/\W i n σ' H') ?_ m0 ⟨0,σB,H1,I,st,fun b hb=>(hf b hb).1,w0⟩;rintro n s3 ⟨i,σ3,H3,I3,xc,Jb,w3⟩;show wpAny _ B.A ((compTurn (.ListComp EN [⟨tg,iter,oq,0⟩] scope pos) 0 (.ref it) (.ref D) B.env).onRaise (fun x=>do noteFrame x B.env;theTreesLotGoes x)) _ _ s3;refine wpAny_noted ?_;rw[compTurn_list];have nx:∀ {α:Type} {t:Sem α} {Q:α->Shared->Prop} {E':Value->Shared->Prop} {s:Shared},wpAny (model B.prog B.w) B.A t Q B.xe s->wpAny (model B.prog B.w) B.A t Q E' s:=fun h=>
  gs h (fun _ _ q=>q) fun _ _ z=>by rw[hx] at z;exact z.elim
 obtain⟨hG,R9⟩:=zP i n σ3 H3 w3;rcases R9 with ⟨stop,qn⟩|⟨go,step⟩
 .refine aj (iQ (aj (cj (T.done B rfl rfl rfl i [] s3 σ3 H3 _ (hc _ hG) I3 (rR Jb) xc stop) fun r s4 ⟨hr,I4⟩=>?_)));subst hr;exact wpAny_pure (hR σ3 H3 s4 I4 qn)
 .refine aj (iQ (aj (cj (T.item B rfl rfl rfl i [] s3 σ3 H3 _ (hc _ hG) I3 (rR Jb) xc go) fun r s4 ⟨u,hr,h4⟩=>?_)));subst hr;refine aj (cj h4 fun _ s5 ⟨x,H5,I5,r5,y5,tO,RN⟩=>?_);have RO:=I5.pinned (rR RN) (T.obj _ _ tO);refine aj (nx (cj (hg _ s5 σ3 H5 x u _ RO r5 (step x H5 y5)) fun _ s6 ⟨σ6,H6,I6,q6⟩=>?_));have back:∀ {σ7:St} {H7:Hp} {s7:Shared} {m':Nat},aE B ([]++o7 fp s5.heap) σ7 H7 s7->m'<n->W (i+1) m' σ7 H7->∃m,m<n/\∃i σ' H',aE B [] σ' H' s7/\tn i s7.heap/\(∀b∈fp,H' b=none)/\W i m σ' H':=fun {σ7 H7 s7 m'} I7 hm w7=>by
   refine⟨m',hm,i+1,σ7,H7,I7.kI,T.keep _ _ _ tO fun b hb o e=>(I7.pin (b,o) (gJ _ (gJ _ (fD hb e)))).1,fun b hb=>?_,w7⟩;obtain⟨o,e,d⟩:=T.obj _ _ tO b hb;exact(I7.pin (b,o) (gJ _ (gJ _ (fD hb e)))).2.1
  refine aj (nx (cj (ht _ s6 σ6 H6 _ I6 q6) fun ok s7 ⟨H7,I7,q7⟩=>?_));cases ok with
  |false=>
   rw[ap bo] at q7;obtain⟨m',hm,w7⟩:=q7;exact wpAny_pure ⟨rfl,back I7 hm w7⟩
  |true=>
   rw[ai rfl] at q7;refine aj (aj (nx (cj (he _ s7 σ6 H7 _ I7 q7) fun v s8 ⟨y,H8,I8,r8,ys,hD,hl,m',hm,w8⟩=>?_)));refine aj (nx (cj (cL _ s8 σ6 H8 (.ref D) [y] (.ref D) [v] (fun _ H9=>H9=upd H8 D (.lst (ys++[y]))) I8 rfl (.cons r8 .nil) ⟨D,ys,y,rfl,rfl,hD,hl,rfl⟩) fun _ s9 ⟨_,H9,I9,_,e9⟩=>?_));subst e9;exact wpAny_pure (wpAny_pure ⟨rfl,back I9 hm w8⟩)
theorem nM(hQ:Q { scope:=scope,locals:=s.heap.objs.size,globals:=globals,cells:=cellsFrom (s.heap.objs.size+1) scope.names cl,qual:=qual,func:=none,code:=outer.code,frame:=outer.frame,builtins:=outer.builtins }
   { s with heap:=pushCells (s.heap.push { cls:=.type "dict",data:=.dict #[] }) scope.names }):
  wpAny M A (newFunctionEnv scope globals cl [] qual none .none (some outer)) Q E s:=by
 simp only[newFunctionEnv,Option.isSome_some,mi];refine aj (wpAny_alloc ?_);refine aj (wpAny_layCells _ (fun name kind cells=>by cases hkc:kind==NameKind.cell <;> simp[hkc]) _ _ _ _ ?_);rw[show ({ s with heap:=s.heap.push { cls:=.type "dict",data:=.dict #[] } }:Shared).heap.objs.size=s.heap.objs.size+1 from hU ..];refine aj ?_;rw[vI];exact wpAny_pure (wpAny_pure hQ)
section
variable {X:Cx} {EN tg iter:Expr} {oq:List Expr} {scope:Scope} {pos:Pos} {wi:TI} {g:TG} {tt:TT} {te:TE} {NB:List Str} {src:List (Option Nat)}
def Mm(src:List (Option Nat))(wi:TI)(g:TG)(tt:TT)(te:TE):TE:=fun σ H Q=>wi σ H fun J H1=>∀D,H1 D=none->iG J g tt te D (fun H'=>Q (.ref D) H') (FO src σ) (upd H1 D (.lst []))
theorem r6{ae:List (Addr×Obj)}{σ:St}{H2:Hp}{s2:Shared}{J:It}{fp:List Addr}{it:Addr}{tn:Nat->Heap->Prop}{cl:List (Str×Addr)}{cK:Addr->Hp->Prop}{E':Value->Shared->Prop}{RR:Value->Addr->Result->Shared->Prop}{G:Hp->Prop}(S:eE NB src scope X)(hc:∀H,G H->X.calm=true\/J.VH X.A H)(c1:∀x c,cl.lookup x=some c->X.env.cells.lookup x=some c)(c2:∀x,(x,NameKind.free)∈scope.names->∃c,cl.lookup x=some c)(hg:∀cl C s₃ H₃ fp,PG (nK X NB scope cl C s₃ H₃ fp) tg g)(ht:∀cl C s₃ H₃ fp,Jf (nK X NB scope cl C s₃ H₃ fp) oq tt)(he:∀cl C s₃ H₃ fp,PE (nK X NB scope cl C s₃ H₃ fp) EN te)(I2:aE X ae σ H2 s2)(T:qh X.prog X.w X.K tg J fp it tn)(oo:tn 0 s2.heap)(f2:∀b∈fp,f_ X ae H2 b)(hw:∀D,H2 D=none->Aa G J g tt te D (cK D) (FO src σ) (upd H2 D (.lst [])))(hR:∀D C H' s',f_ X ae H' C->aE X ae σ H' s'->(∃m,s'.heap.Ns C m)->cK D H'->RR (.ref D) C (.ok .next) s'):
  wpAny (model X.prog X.w) X.A (newList []) (fun cn s₃=>wpAny (model X.prog X.w) X.A (newFunctionEnv scope X.env.globals cl [] X.env.qual none .none (some X.env)) (fun FQ s₄=>
   codeAny (model X.prog X.w) X.A (.compStart (.ListComp EN [⟨tg,iter,oq,0⟩] scope pos) 0 (.ref it) cn { FQ with scope:=relabel scope X.env }) (RR cn FQ.locals) s₄) E' s₃) E' s2:=by
 refine g8 (nM ?_);have I3:=I2.NP (ys:=[]) (its:=[]) (t':=s2.toks) .nil (cE _);have hD:H2 s2.heap.objs.size=none:=I2.fresh;have fo:∀b∈fp,b<s2.heap.objs.size:=fun b hb=>by obtain⟨o,e,_⟩:=T.obj _ _ oo b hb;exact aM e
 have up:∀ {b:Addr},b∈fp->upd H2 s2.heap.objs.size (.lst []) b=H2 b:=fun {b} hb=>al (aT (fo b hb));have f3:∀b∈fp,f_ X ae (upd H2 s2.heap.objs.size (.lst [])) b:=fun b hb=>⟨by rw[up hb];exact(f2 b hb).1,(f2 b hb).2⟩
 have hsz:(s2.heap.push { cls:=.type "list",data:=.seq ([]:List Value).toArray }).objs.size=s2.heap.objs.size+1:=by rw[hU]
 generalize WY:({ s2 with heap:=s2.heap.push { cls:=.type "list",data:=.seq ([]:List Value).toArray } }:Shared)=s3 at I3 |-;have R_:s3.heap=s2.heap.push { cls:=.type "list",data:=.seq ([]:List Value).toArray }:=by rw[<-WY]
 have Sa:∀b∈fp,b<s3.heap.objs.size:=fun b hb=>by rw[R_,hsz];exact dO (fo b hb)
 have FS:(s3.heap.push { cls:=.type "dict",data:=.dict #[] }).objs.size=s3.heap.objs.size+1:=hU ..;have rZ:∀x c,(cellsFrom (s3.heap.objs.size+1) scope.names cl).lookup x=some c->cl.lookup x=some c\/(s3.heap.objs.size<c/\(pushCells (s3.heap.push { cls:=.type "dict",data:=.dict #[] }) scope.names).IsCell c none):=fun x c e=>by
  rw[<-FS] at e;rcases lq _ _ _ _ _ e with z|⟨z1,z2⟩
  .exact .inl z
  .exact .inr ⟨by rw[FS] at z1;exact z1,z2⟩
 have FU:=(Heap.Ns.new s3.heap (.type "dict")).keeps (rD scope.names _);have keep:∀b o,s3.heap.get? b=some o->(pushCells (s3.heap.push { cls:=.type "dict",data:=.dict #[] }) scope.names).get? b=some o:=fun b o e=>rD _ _ b o (bp _ e);generalize hh1:pushCells (s3.heap.push { cls:=.type "dict",data:=.dict #[] }) scope.names=h₁ at rZ FU keep |-;have IB:aE (nK X NB scope (cellsFrom (s3.heap.objs.size+1) scope.names cl) s3.heap.objs.size s3 (upd H2 s2.heap.objs.size (.lst [])) fp) [] (FO src σ) (upd H2 s2.heap.objs.size (.lst [])) { s3 with heap:=h₁,toks:=s3.toks }:=
  BJ I3 S c1 c2 f3 Sa FU keep rZ
 have Sb:tn 0 h₁:=T.keep 0 s2.heap h₁ oo fun b hb o e=>keep b o (by rw[R_];exact bp _ e);have fB:∀b∈fp,f_ (nK X NB scope (cellsFrom (s3.heap.objs.size+1) scope.names cl) s3.heap.objs.size s3 (upd H2 s2.heap.objs.size (.lst [])) fp) [] (upd H2 s2.heap.objs.size (.lst [])) b:=fun b hb=>by
  refine⟨(f3 b hb).1,aT (Sa b hb),fun z=>?_,.inl hb,fun x c e=>(IB.ok.VA b hb).2 x c e,fun p hp=>absurd (show p∈([]:List (Addr×Obj)) from hp) (by simp)⟩;rcases a7.mp (I3.rO b z) with e|e
  .exact(f3 b hb).2.1 e
  .exact(f3 b hb).2.2.1 e
 have loop:codeAny (model X.prog X.w) X.A (.compLoop (.ListComp EN [⟨tg,iter,oq,0⟩] scope pos) 0 (.ref it) (.ref s2.heap.objs.size) (compEnvC scope (cellsFrom (s3.heap.objs.size+1) scope.names cl) s3.heap.objs.size X.env)) (RR (.ref s2.heap.objs.size) s3.heap.objs.size)
   { s3 with heap:=h₁,toks:=s3.toks }:=by
  refine Dr (B:=nK X NB scope (cellsFrom (s3.heap.objs.size+1) scope.names cl) s3.heap.objs.size s3 (upd H2 s2.heap.objs.size (.lst [])) fp) rfl hc T (hg _ _ _ _ _) (ht _ _ _ _ _) (he _ _ _ _ _) IB Sb fB (hw _ hD) fun σ' H' s' J' q=>?_;obtain⟨m,hm,_⟩:=J'.loc;exact hR _ _ H' s' (I3.tW (aW _) J'.free) (I3.Ml J' f3) ⟨m,hm⟩ q
 exact codeAny_compStart_list loop (T.self _ 0 _ _ _ Sb loop)
theorem d9(S:eE NB src scope X)(hc:X.calm=true)(hi:PI X tg iter wi)(hg:∀cl C s₃ H₃ fp,PG (nK X NB scope cl C s₃ H₃ fp) tg g)(ht:∀cl C s₃ H₃ fp,Jf (nK X NB scope cl C s₃ H₃ fp) oq tt)(he:∀cl C s₃ H₃ fp,PE (nK X NB scope cl C s₃ H₃ fp) EN te)(hs:∀x,foldedSetIterable iter X.env x=pure x:=by intro _;rfl):PE X (.ListComp EN [⟨tg,iter,oq,0⟩] scope pos) (Mm src wi g tt te):=by
 intro ae s σ H Q I h;obtain⟨cl,Ab,c1,c2⟩:=ii I.ok S;rw[eval_ListComp];refine vi (use:=none) (cl:=cl) rfl hs Ab S.kind S.names (cj (hi ae s σ H _ I h) fun v s1 h1=>cj h1 fun QN s2 h2=>?_);obtain⟨it,fp,tn,J,H2,e,I2,T,oo,f2,hw⟩:=h2;subst e;refine r6 (RR:=fun cn C=>compPost (model X.prog X.w) X.A X.xe none (EP X ae σ Q) cn C) S (G:=fun _=>True) (fun _ _=>.inl hc) c1 c2 hg ht he I2 T oo f2 (fun D hD=>(hw D hD).g) fun D C H' s' fC I' hm q=>?_;obtain⟨m,hm⟩:=hm;refine⟨m,hm,fun h' sb=>⟨.ref D,H',?_,rfl,q⟩⟩;obtain⟨g0,g1,_,g3,g4,g5⟩:=fC;exact I'.turned (t':=s'.toks) (fun b o hb e=>(sb.2 b hb).trans e) g0 g1 g3 g4 g5
theorem dg{i:Nat}{y:Str}{py FV:Pos}(S:eE NB src scope X)(hc:X.calm=true)(hi:PI X tg iter wi)(hg:∀cl C s₃ H₃ fp,PG (nK X NB scope cl C s₃ H₃ fp) tg g)(ht:∀cl C s₃ H₃ fp,Jf (nK X NB scope cl C s₃ H₃ fp) oq tt)(he:∀cl C s₃ H₃ fp,PE (nK X NB scope cl C s₃ H₃ fp) EN te)(hN:X.N.Nodup)(FW:X.N[i]?=some y)(hy:X.env.scope.names.lookup y=some .local)(WZ:swapsWith (.ListComp EN [⟨tg,iter,oq,0⟩] scope pos) (some (.Name y py)) FV.line X.env=pure true)(hs:∀x,foldedSetIterable iter X.env x=pure x:=by intro _;rfl):
  PS X (.Assign [.Name y py] (.ListComp EN [⟨tg,iter,oq,0⟩] scope pos) FV) (Jz (Mm src wi g tt te) (cq i)):=by
 intro ae s σ H D0 I h;obtain⟨cl,Ab,c1,c2⟩:=ii I.ok S;rw[exec_Assign_Name_used _ _ _ _ WZ];refine aj (iQ (aj ?_));show wpAny _ X.A (do let _ <- comprehension (.ListComp EN [⟨tg,iter,oq,0⟩] scope pos) scope X.env _ (newList []) false (eval iter X.env) (some (assign (.Name y py) X.env))) _ _ s;refine aj (gs (vi (use:=some (assign (.Name y py) X.env)) (Q:=fun _ s'=>SP X ae D0 .next s') (cl:=cl) rfl hs Ab S.kind S.names
  (cj (hi ae s σ H _ I h) fun v s1 h1=>cj h1 fun QN s2 h2=>?_)) (fun _ s' hq=>wpAny_pure (wpAny_pure hq)) fun _ _ e=>e)
 obtain⟨it,fp,tn,J,H2,e,I2,T,oo,f2,hw⟩:=h2;subst e;refine r6 (RR:=fun cn C=>compPost (model X.prog X.w) X.A X.xe (some (assign (.Name y py) X.env)) (fun _ s'=>SP X ae D0 .next s') cn C) S (G:=fun _=>True) (fun _ _=>.inl hc) c1 c2 hg ht he I2 T oo f2 (fun D hD=>(hw D hD).g) fun D C H' s' fC I' hm q=>?_;obtain⟨m,hm⟩:=hm;obtain⟨g0,g1,_,g3,g4,g5⟩:=fC;show wpAny _ X.A (assign (.Name y py) X.env (.ref D)) _ _ _;refine zD (o0 I' hN FW (.inl hy) (v:=.ref D) rfl (fun FA W0 sb=>?_) (.inr hy));obtain⟨a,sb,ha⟩:=sb;have mC:C≠a:=by
  rcases ha with z|z
  .rw[z];exact g1
  .exact fun z'=>g4 y a z z'.symm
 refine⟨m,hm.sameBut sb mC,fun h' W1=>⟨_,H',W0.turned (t':=FA.toks) (fun b o hb e=>(W1.2 b hb).trans e) g0 g1 g3 g4 g5,q⟩⟩
end
structure Sc(P:Program)(w:World)(outer:List Env)(H:Hp)(s:Shared)(B:Heap)(p:Addr)(C a0:Value)(H':Hp)(s':Shared):Prop where
 os:s'.os=s.os
 bare:AllBare s'.gens
 bU:jY P w H' B
 keep:∀b o,s.heap.get? b=some o->H b=none->b∉oZ outer->B.get? b=some o/\H' b=none
 frame:∀b o,s.heap.get? b=some o->H b=none->b∈oZ outer->(∃sl,s'.heap.get? b=some { o with slots:=sl })/\H' b=none
 there:∀b o,s.heap.get? b=some o->H b≠none->∃o',B.get? b=some o'
 mq:∀b xs,H b=some (.tup xs)->H' b=some (.tup xs)
 oX:∀b o u,H b=some (.mm o u)->H' b=some (.mm o u)
 oY:∀b ps,H b=some (.on ps)->∃more,H' b=some (.on (ps++more))
 fl:C_ B outer p C s'.heap
def iy(P:Program)(w:World):xf:=fun outer H s E e s'=>∃p C a0 B H',e=.ref p/\Sc P w outer H s B p C a0 H' s'/\E C none H'
section
variable {P:Program} {w:World} {K:PySem.W.Frag} {mg:Str->Option Value} {base:Heap} {N:List Str} {qual:Str} {scope:Scope} {f:Addr} {cd:Value} {A:Around} {outer:List Env} {s:Shared} {H:Hp} {E:XK}
abbrev QU(h:Heap)(l:List Env):Heap:=PySem.W.hideAll h (oZ l)
theorem JZ{l:List Env}{H1:Hp}{h:Heap}(ok:jY P w H1 h)(nf:∀b∈oZ l,H1 b=none):jY P w H1 (QU h l):=fun a o e=>by
 refine(ok a o e).oW (fun b u hb q=>vp _ q fun z=>?_) (fun _ q=>q) fun _ _ q=>q;have n:=nf b z;rcases hb with rfl|hb
 .rw[n] at e;cases e
 .rw[n] at hb;cases hb
theorem kK{ae:List (Addr×Obj)}{σ:St}{H1:Hp}{s1:Shared}{h':Heap}{e:Addr}{C:Value}{vs:List Value}(I:aE (jv (iy P w) P w K mg base N qual scope f cd A outer s H E) ae σ H1 s1)(hx:Heap.MadeExcOf s1.heap h' e C vs)(q:E C none H1):
  (jv (iy P w) P w K mg base N qual scope f cd A outer s H E).xe (.ref e) { s1 with heap:=h' }:=by
 have IZ:oZ (envOfC qual scope s.heap.objs.size f cd::outer)=s.heap.objs.size::oZ outer:=rfl;have W2:=I.stack;refine zL (B:=QU s1.heap (envOfC qual scope s.heap.objs.size f cd::outer)) (h:=s1.heap) (L:=s.heap.objs.size) I.ok.frames rfl (fun b o z=>PySem.W.of_hideAll _ z)
  (PySem.W.funFrames_hide W2 fun env he b hb=>l8.mpr ⟨env,he,hb⟩) hx fun h2 x1 x4=>?_
 have inB:∀b o,s1.heap.get? b=some o->b∉oZ outer->b<s.heap.objs.size->(QU s1.heap (envOfC qual scope s.heap.objs.size f cd::outer)).get? b=some o:=fun b o z hb df=>
  vp _ z fun m=>by
   rw[IZ] at m;rcases a7.mp m with z'|z'
   .exact absurd df (by rw[z'];exact hX _)
   .exact hb z'
 refine⟨e,C,.none,_,H1,rfl,⟨I.os,I.bare,JZ I.bU I.vW,fun b o z n hb=>⟨inB b o (I.base.keep b o z n hb (by intro m;exact absurd (show b∈([]:List Addr) from m) (by simp))) hb (aM z),I.base.free b o z n (by intro m;exact absurd (show b∈([]:List Addr) from m) (by simp))⟩,
  fun b o z n hb=>⟨?_,I.base.free b o z n (by intro m;exact absurd (show b∈([]:List Addr) from m) (by simp))⟩,fun b o z n=>?_,I.base.mq,I.base.oX,I.base.oY,x1⟩,q⟩
 .obtain⟨sl,z1⟩:=I.base.slot b o z n hb (by intro m;exact absurd (show b∈([]:List Addr) from m) (by simp));obtain⟨_,o',zN,nd⟩:=I.ok.nA.mem hb;have e':o'=o:=bi (zN.symm.trans z);subst e';obtain⟨sl2,z2⟩:=x4 b _ (hx.keeps _ _ z1) nd;exact⟨sl2,z2⟩
 .have nfr:b∉oZ (envOfC qual scope s.heap.objs.size f cd::outer):=fun m=>by
   rw[IZ] at m;rcases a7.mp m with z'|z'
   .exact absurd (aM z) (by rw[z'];exact hX _)
   .exact n (I.ok.Jw b z')
  obtain⟨o',z1⟩:=I.base.there b o z (by intro m;exact absurd (show b∈([]:List Addr) from m) (by simp));exact⟨o',vp _ z1 nfr⟩
theorem uD{E':XK}(hE:∀C d H',E' C d H'->E C d H'):iT (iy P w) (jv (iy P w) P w K mg base N qual scope f cd A outer s H E) E':=by
 intro ae σ H1 s1 e s' I h;obtain⟨p,C,a0,B,H',rfl,F,q⟩:=h;have IZ:oZ (envOfC qual scope s.heap.objs.size f cd::outer)=s.heap.objs.size::oZ outer:=rfl;have rN:∀b:Addr,b∉(jv (iy P w) P w K mg base N qual scope f cd A outer s H E).ex:=fun b m=>absurd (show b∈([]:List Addr) from m) (by simp);have nst:∀b o,s.heap.get? b=some o->b∉oZ outer->b∉oZ (jv (iy P w) P w K mg base N qual scope f cd A outer s H E).stack:=fun b o z hb m=>by
  have m':b∈s.heap.objs.size::oZ outer:=m;rcases a7.mp m' with z'|z'
  .exact absurd (aM z) (by rw[z'];exact hX _)
  .exact hb z'
 show wpAny _ _ (leaving (envOfC qual scope s.heap.objs.size f cd) (.ref p)) _ _ s';refine E9 (outer:=outer) (L:=s.heap.objs.size) I.ok.frames rfl F.fl fun h2 x1 x2=>?_;refine⟨p,C,a0,B,H',rfl,⟨F.os.trans I.os,F.bare,F.bU,fun b o z n hb=>?_,fun b o z n hb=>?_,fun b o z n=>?_,fun b xs z=>F.mq b xs (I.base.mq b xs z),fun b o u z=>F.oX b o u (I.base.oX b o u z),fun b ps z=>?_,x1⟩,hE _ _ _ q⟩
 .exact F.keep b o (I.base.keep b o z n hb (rN b)) (I.base.free b o z n (rN b)) (nst b o z hb)
 .obtain⟨sl,z1⟩:=I.base.slot b o z n hb (rN b);have jT:b∈oZ (jv (iy P w) P w K mg base N qual scope f cd A outer s H E).stack:=bL _ hb;obtain⟨⟨sl2,z2⟩,n2⟩:=F.frame b _ z1 (I.base.free b o z n (rN b)) jT;obtain⟨_,o',zN,nd⟩:=I.ok.nA.mem hb;have e':o'=o:=bi (zN.symm.trans z);subst e';obtain⟨sl3,z3⟩:=x2 b _ z2 nd;exact⟨⟨sl3,z3⟩,n2⟩
 .obtain⟨o',z1⟩:=I.base.there b o z (rN b);have Do:b∉oZ outer:=fun m=>n (I.ok.Jw b m);cases n1:H1 b with
  |none=>exact⟨o',(F.keep b o' z1 n1 (nst b o z Do)).1⟩
  |some u=>exact F.there b o' z1 (by rw[n1];intro z';cases z')
 .obtain⟨m1,z1⟩:=I.base.oY b ps z;obtain⟨m2,z2⟩:=F.oY b _ z1;exact⟨m1++m2,by rw[z2,Array.append_assoc]⟩
theorem NU:PassesOwn (model P w) (jv (iy P w) P w K mg base N qual scope f cd A outer s H E).A (jv (iy P w) P w K mg base N qual scope f cd A outer s H E).env (jv (iy P w) P w K mg base N qual scope f cd A outer s H E).xe:=by
 intro e s' h;exact PassesOwn.leaving (M:=model P w) (A:=A.deeper (envOfC qual scope s.heap.objs.size f cd)) (env:=envOfC qual scope s.heap.objs.size f cd) (Q₁:=fun e FA=>iy P w outer H s E e FA) (E₁:=fun e' FA=>iy P w outer H s E e' FA) e s' h
end
theorem kL{P:Program}{w:World}{X:Cx}:iT (iy P w) X E0:=fun _ _ _ _ _ _ _ h=>by
 obtain⟨_,_,_,_,_,_,_,q⟩:=h;exact q.elim
open PySem PySem.Spec PyProof.Rows PySem.W
abbrev bmV:List Value:=[.type "ValueError",.type "Exception",.type "BaseException",.type "object"]
structure ql(K:PySem.W.Frag)(C:Addr):Prop where
 ex:PySem.W.excIn K C bmV "ValueError.__new__"=true
 kp:PySem.W.keepIn K (.ref C)=true
 ga:PySem.W.findIn K (.ref C) "__getattribute__"=some (some (.builtin "BaseException.__getattribute__"))
 gt:PySem.W.findIn K (.ref C) "__getattr__"=some none
 cl:PySem.W.findIn K (.ref C) "__class__"=some (some (.builtin "object.__class__"))
 mo:PySem.W.mroIn K C (.type "object")=some true
 mb:PySem.W.mroIn K C (.type "BaseException")=some true
 ty:(PySem.W.clsIn K C).isSome=true
theorem FX{K:PySem.W.Frag}{h:Heap}{C:Addr}{bmB:List Value}{Mn:String}(X:K.In h)(q:PySem.W.excIn K C bmB Mn=true):
  ∃bm N nm qn bs hdct sn sub ab col dd k0 k1 k2 k3 k5 mN,h.get? C=some (excClassObj nm qn C N bs bm hdct sn sub ab col dd k0 k1 k2 k3 k5 Mn)/\h.Ns N mN/\mN "__init__"=none/\OwnTail h bmB bm:=by
 unfold PySem.W.excIn at q;split at q
 .rename_i dd cd sl ho;split at q
  .rename_i C' bm k0 k1 k2 k3 n k5 hm hs;simp only[fq,dL,vz] at q;obtain⟨⟨⟨⟨⟨rfl,rfl⟩,Se⟩,ht⟩,bU⟩,VM⟩:=q;obtain⟨nm,bs,mro,ns,qn,hd,sn,sub,ab,col,del⟩:=cd;dsimp only at hm Se bU VM;subst hm Se;have QV:sl=#[k0,k1,k2,k3,some (.builtin n),k5]:=by
    obtain⟨l⟩:=sl;simp only at hs;rw[hs]
   subst QV;exact⟨bm,ns,nm,qn,bs,hd,sn,sub,ab,col,dd,k0,k1,k2,k3,k5,_,X _ _ ho,.of_isNs (isNs_of_in X bU),nsMap_none_of_in X bU VM,tail_of_in X ht⟩
  .cases q
 .cases q
def W3(p:Addr)(C:Value)(h:Heap):Prop:=∃o,h.get? p=some o/\o.cls=C/\∃vs,o.data=.fields vs/\vs[2]?=some .none
abbrev W4(p:Addr)(C:Value):HO:=.ext (W3 p C)
theorem bX.get(x:bX P w H h a o):∃u,h.get? a=some u:=by
 cases o with
 |lst xs=>obtain⟨_,_,_,_,e⟩:=x;exact⟨_,e⟩
 |tup xs=>obtain⟨_,_,_,ob,e,_⟩:=x;exact⟨_,e⟩
 |dK kvs=>obtain⟨_,_,_,_,o,_,_,e,_⟩:=x;exact⟨_,e⟩
 |dT kvs=>obtain⟨_,_,_,_,o,_,_,e,_⟩:=x;exact⟨_,e⟩
 |set S n=>obtain⟨o,_,_,_,e,_⟩:=x;exact⟨_,e⟩
 |ins C dx fs=>obtain⟨_,_,_,e,_⟩:=x;exact⟨_,e⟩
 |own y=>exact x
 |xd fs=>obtain⟨_,⟨_,_,_,e,_⟩,_⟩:=x;exact⟨_,e⟩
 |Bi lo hi=>obtain⟨_,_,_,e⟩:=x;exact⟨_,e⟩
 |mm ob u=>obtain⟨e,_⟩:=x;exact⟨_,e⟩
 |on ps=>exact⟨_,(show h.get? a=some _ from x)⟩
 |met f y=>exact⟨_,(show h.get? a=some _ from x)⟩
 |ext φ=>exact x.2.1
theorem jY.r_(x:jY P w H h)(e:h.get? a=none):H a=none:=by
 cases q:H a with
 |none=>rfl
 |some u=>obtain⟨o,z⟩:=(x a u q).get;rw[e] at z;cases z
theorem aE.xy(I:aE X ae σ H s)(k:∀b u,s.heap.get? b=some u->h'.get? b=some u)(hp:s.heap.get? a=none)(new:bX X.prog X.w (upd H a o) h' a o):
  aE X ae σ (upd H a o) { s with heap:=h',toks:=t' }:=by
 have hn:=I.bU.r_ hp;have ne:∀b u,s.heap.get? b=some u->b≠a:=fun b u e z=>by rw[z,hp] at e;cases e
 refine I.un ⟨fun b u e _ _ _=>k b u e,fun b u e _ _ _=>⟨u.slots,k b u e⟩,fun b u e n _=>by rw[al (ne b u e)];exact n,fun b u e _=>⟨u,k b u e⟩,fun b xs e=>by rw[al (aq e hn)];exact e,fun b u v e=>by rw[al (aq e hn)];exact e,fun b ps e=>⟨#[],by rw[al (aq e hn),e];simp⟩⟩ fun b u e=>?_;by_cases hb:b=a
 .subst hb;rw[ag] at e;cases e;exact new
 .rw[al hb] at e;exact(I.bU b u e).oW (fun c v _ q=>k c v q) (fun c q=>by rw[al (aq q hn)];exact q) fun c xs q=>by rw[al (aq q hn)];exact q
section
variable {prog:Program} {w:World} {A:Around} {E:Value->Shared->Prop} {s:Shared} {K:PySem.W.Frag} {x C:Addr} {ox:Obj}
theorem BK(hx:h.get? x=some ox)(hc:ox.cls=.ref C):PySem.W.Looks M h (typeOf (.ref x)) (.ref C):=hc ▸ (PySem.W.Looks.ld hx).andThen .now
open Builtin Builtin.ObjectAttr Builtin.Getset_descriptor in
theorem Ac(X:K.In s.heap)(hx:s.heap.get? x=some ox)(hc:ox.cls=.ref C)(hm:PySem.W.mroIn K C (.type "object")=some true)(h:R (.ok (.ret (.ref C))) s):codeAny (model prog w) A (.call (.builtin "getset_descriptor.__get__") ⟨[.builtin "object.__class__",.ref x,tp],[]⟩) R s:=by
 obtain⟨hh,g,dr,t,os⟩:=s;have L0:=BK (M:=model prog w) hx hc;have L1:=looks_mroIn (M:=model prog w) X hm;refine vt KF.slot_gs.plain KF.entry_gs (KF.slot_gs.check _ _ _ _ _ _ _ _ KF.type_class (KF.args_gs _ _ _) ?_);unfold Builtin.«getset_descriptor.__get__» descrGet;rw[dga_obj];refine aj (wpAny_pure ?_);unfold descrGetter descrCheckInstance descrNameAndClass isInstance;simp only[KF.owner_class];repeat lk
 refine⟨zA _ (by decide +kernel),gh KF.entry_class ?_⟩;unfold Builtin.«object.__class__» shownTypeOf;repeat lk
 exact h
theorem Ds{g d t os}(T:ql K C)(X:K.In h)(hx:h.get? x=some ox)(hc:ox.cls=.ref C)(hq:Q (.done (.ret (.ref C))) ⟨h,g,d,t,os⟩):
  wpAny (model prog w) A (Builtin.«object.__getattribute__» ⟨[.ref x,.str "__class__" tk],[]⟩) Q E ⟨h,g,d,t,os⟩:=by
 have f5:=F.typeOf_bexc_args;have hT5:(⟨h,g,d,t,os⟩:Shared).TypeIs (.builtin "object.__class__") "getset_descriptor":=EX;have f5':=EX;have f6:=F.slot_gs_get.lookup;have f7:=F.slot_gs_set.lookup;have L1:=looks_findIn (M:=model prog w) X T.cl;repeat (any_goals (first|assumption|(with_reducible refine zC hx ?_;rw[hc])|with_reducible refine L1.at ?_|wp_step))
 refine Ac (s:=⟨h,g,d,t,os⟩) X hx hc T.mo ?_;repeat (any_goals (first|assumption|wp_step))
theorem Dt{g d t os}(T:ql K C)(X:K.In h)(hx:h.get? x=some ox)(hc:ox.cls=.ref C)(hq:Q () ⟨h,g,d,t,os⟩):
  wpAny M A (checkBuiltinCall "BaseException.__getattribute__" ⟨[.ref x,Sf],[]⟩) Q E ⟨h,g,d,t,os⟩:=by
 have hk:builtinKind "BaseException.__getattribute__"=some .slot:=by decide +kernel
 have NW:splitId "BaseException.__getattribute__"=some ("BaseException","__getattribute__"):=by decide +kernel
 have ha:=F.args_bexc_ga (.ref x) Sf;have L1:=looks_mroIn (M:=M) X T.mb;simp only[checkBuiltinCall,hk,NW];refine aj ?_
 .unfold isInstance;repeat (first|(with_reducible refine zC hx ?_;rw[hc])|with_reducible refine L1.at ?_|wp_step)
  exact hq
theorem NX{tk:Tok}{fill JG:Bool}{Q:Value->Shared->Prop}{h:Heap}{g d t os}(T:ql K C)(X:K.In h)(hx:h.get? x=some ox)(hc:ox.cls=.ref C)(hq:Q (.ref C) ⟨h,g,d,t,os⟩):
  wpAny (model prog w) A (getAttrBy (.ref x) (.str "__class__" tk) fill JG) Q E ⟨h,g,d,t,os⟩:=by
 have f3:=F.attr_ValueError.ga.bind (.ref x);have hx0:(JG&&onTheHeap (Value.builtin "BaseException.__getattribute__"))=false:=by cases JG <;> rfl
 have hx2:(Value.builtin "BaseException.__getattribute__"==Value.builtin "object.__getattribute__")=false:=by decide +kernel
 have hx1:(onTheHeap (Value.ref C)&&Value.builtin "BaseException.__getattribute__"==Value.builtin "object.__getattribute__")=false:=by rw[hx2];rfl
 have L1:=looks_findIn (M:=model prog w) X T.ga;have L2:=looks_findIn (M:=model prog w) X T.gt;repeat (any_goals (first|assumption|(with_reducible refine zC hx ?_;rw[hc])|with_reducible refine L1.at ?_|with_reducible refine L2.at ?_|wp_step))
 refine vt F.attr_ValueError.ga.plain F.entry_bexc_ga (Dt T X hx hc (Ds T X hx hc ?_));repeat (any_goals (first|assumption|wp_step))
theorem FY{Q:Option Value->Shared->Prop}{h:Heap}{g d t os}(T:ql K C)(X:K.In h)(hx:h.get? x=some ox)(hc:ox.cls=.ref C)(hq:Q (some (.ref C)) ⟨h,g,d,t+1,os⟩):
  wpAny (model prog w) A (getAttr? (.ref x) "__class__") Q E ⟨h,g,d,t,os⟩:=by
 unfold getAttr?;repeat (any_goals (first|assumption|with_reducible apply NX T X hx hc|wp_step))
theorem FZ(T:ql K C):PySem.W.KitX K (.ref x) (.ref C) (W3 x (.ref C)) where
 ty:=fun _ _ _ ⟨o,e,c,_⟩=>BK e c
 it:=fun _ _ X _=>by
  obtain⟨cdD,JK⟩:=yM.mp T.ty;unfold clsIn at JK;split at JK
  .rename_i c' d' cd' Wq ho;intro A' Q' E' s' k q;unfold isType loadHead;exact aj (wpAny_loadPart (k _ _ (X _ _ ho)) (wpAny_pure q))
  .cases JK
 ne:=fun h tp dd its n sl X W5=>by
  obtain⟨cdD,JK⟩:=yM.mp T.ty;refine jM.mpr fun q=>?_;have e:C=tp:=Value.ref.inj (dL.mp q);subst e;unfold clsIn at JK;split at JK
  .rename_i c' d' cd' Wq ho;have z:=(X _ _ ho).symm.trans W5;cases z
  .cases JK
 ca:=fun {_ _ _ _ _ s} X ⟨o,e,c,_⟩ k=>by
  obtain⟨h,g,d,t,os⟩:=s;exact FY T X e c k
end
section
variable {X:Cx}
inductive QW (K:PySem.W.Frag) (H:Hp):V->Value->Prop where
 |of {v:V} {t:Value} (h:pi K H v t):QW K H v t
 |exc {p C:Addr} (T:ql K C) (e:H p=some (W4 p (.ref C))):QW K H (.ref p) (.ref C)
def W6(K:PySem.W.Frag):List V->Hp->VK->Prop:=fun xs H Q=>∃x c cv t b,xs=[x,c]/\(c=.ty cv/\PySem.W.kitOne K t (.type cv)=some b)/\QW K H x t/\Q (.bl b) H
theorem ij:gb X (.builtin "isinstance") (W6 X.K):=by
 intro ae s σ H xs us Q I r h;obtain⟨x,c,cv,t,b,rfl,⟨rfl,e⟩,ty,q⟩:=h;obtain⟨u1,u2,rfl,r1,r2⟩:=r.two;obtain rfl:u2=Value.type cv:=r2;cases ty with
 |of ty=>exact Dl I r1 ty e fun tk=>⟨.bl b,H,I.tok tk,rfl,q⟩
 |@exc p C T ea=>
  obtain rfl:u1=Value.ref p:=r1;have p1:W3 p (.ref C) s.heap:=(I.bU p _ ea).1;exact jP (FZ T) I.pV p1 e (fun z=>nomatch z) fun tk=>⟨.bl b,H,I.tok tk,rfl,q⟩
end
section
variable {X:Cx} {x:Str} {C:Addr} {np qj pos:Pos} {e:Expr} {es:List Expr} {t:TA}
def NY(q:Hp->Prop)(t:TA):TS:=fun _ σ H=>t σ H fun vs H1=>vs.length<=sizeLine/\q H1
theorem kM{q:Hp->Prop}(hc:X.calm=true)(T:ql X.K C)(hg:Gl X x)(hm:X.mg x=some (.ref C))(ha:PA X (e::es) t)(hxe:∀ (ae:List (Addr×Obj)) (σ:St) (H1:Hp) (s1:Shared) (h':Heap) (p:Addr) (vs:List Value),aE X ae σ H1 s1->Heap.MadeExcOf s1.heap h' p (.ref C) vs->q H1->X.xe (.ref p) { s1 with heap:=h' })(Dm:(x==("__debug__":Str))=false:=by decide)(he:starEach (e::es) X.env=(false,eval e X.env)::starEach es X.env:=by rfl)(uo:(backTo qj (starEach (e::es) X.env)).any (·.1)=false:=by rfl):
  PS X (.Raise (some (.Call (.Name x np) (e::es) [] qj)) none pos) (NY q t):=by
 intro ae s σ H D I h;obtain⟨bm,N,nm,qn,bs,hdct,sn,sub,ab,col,dd,k0,k1,k2,k3,k5,mN,hC,hN,VM,TL⟩:=FX I.ok.mod.QK T.ex;refine wpAny_Raise_call_subT (C:=C) (nm:=nm) (q:=qn) (N:=N) (bs:=bs) (bm:=bm) (hdct:=hdct) (sn:=sn) (sub:=sub) (ab:=ab) (col:=col) (dd:=dd) (k0:=k0) (k1:=k1) (k2:=k2) (k3:=k3) (k5:=k5)
  EZ (mN:=mN) (TL.hasType EZ.hasBase) (I.ok.hd hc) uo VM (qE I hg hm ⟨rfl,?_⟩ Dm)
 have h1:=ha qj ae s σ H _ I h;rw[he] at h1 |-;exact Calls.evalArgs_plain (gs h1 (fun us s2 ⟨vs,H2,I2,r,hl,z⟩=>⟨rfl,(by show us.length<=sizeLine;rw[<-r.length];exact hl),I2.bk _ _ hC,hN.keeps I2.bk,TL.keeps I2.bk,fun h' p m=>hxe ae σ H2 s2 h' p us I2 m z⟩) fun _ _ y=>y)
end
section
variable {X:Cx} {CX:xf} {k:Nat} {f C:Addr} {fd:FuncData} {ps:List Str} {sp:Sp} {qH:List V} {ds:List Value} {E:St->XK} {x m:Str} {p pos qi:Pos} {e o:Expr} {es:List Expr} {ta:TE} {t:TA}
end
section
variable {X:Cx} {CX:xf} {k:Nat} {f:Addr} {fd:FuncData} {ps:List Str} {sp:Sp} {qH:List V} {ds:List Value} {E:XK} {x:Str} {p pos:Pos} {e:Expr} {es:List Expr} {t:TA}
end
section
variable {P:Program} {w:World} {K:PySem.W.Frag} {mg:Str->Option Value} {base:Heap}
theorem eN.Mo{x qual:Str}{st:Stmt}{f:Addr}{fd:FuncData}{N ps:List Str}{k:Nat}{sp:Sp}(F:eN K x qual st f fd)(S:aA N ps (am st))(len:∀vs H Q E,sp vs H Q E->vs.length=ps.length)(rX:∀ (dt:Value) (A:Around) (outer:List Env) (s:Shared) (H:Hp) (vs:List V) (Q:VK) (E:XK),bQ k (A.deeper (envOfC qual (am st) s.heap.objs.size f dt))->sp vs H Q E->
   ∃t,yA (jv (iy P w) P w K mg base N qual (am st) f dt A outer s H E) (cu st) t/\t { nx:=fun _ H'=>Q .bA H',rt:=Q } (start N vs) H):bj P w K mg base (iy P w) (k+1) f fd ps sp:=by
 obtain⟨oc,od,kV,m_,pm,an,dt,ct,xr,rfl,lk,tK⟩:=F.ex;exact FB lk tK S len fun A outer s H vs Q E hr EL=>rX dt A outer s H vs Q E hr EL
end
section
variable {X:Cx} {ae:List (Addr×Obj)} {σ:St} {H:Hp} {s:Shared}
end
section
variable {X:Cx} {CX:xf} {k:Nat} {f:Addr} {fd:FuncData} {ps:List Str} {sp:Sp} {qH:List V} {ds:List Value} {E:XK} {x:Str} {p pos:Pos} {e:Expr} {es:List Expr} {t:TA}
end
section
variable {P:Program} {w:World} {K:PySem.W.Frag} {mg:Str->Option Value} {base:Heap}
end
theorem J0{h:Heap}{a:Addr}{m m':Str->Option Value}(x:h.Ns a m)(y:h.Ns a m'):m=m':=by
 obtain⟨o,es,ep,e,d,_,q⟩:=x;obtain⟨o',es',QL,e',d',_,q'⟩:=y;rw[e] at e';cases e';rw[d] at d';cases d';funext z;rw[<-q z,q' z]
theorem aE.Sg{X:Cx}{ae:List (Addr×Obj)}{σ:St}{H:Hp}{s:Shared}{h':Heap}{m:Str->Option Value}{D:Addr}{o:HO}{t':Nat}(I:aE X ae σ H s)(F:Fr X.base X.env.locals s.heap m)(F':Fr X.base X.env.locals h' m)(N':News X.base X.env.locals h' (jp X.base s.heap X.env.locals))(hD:s.heap.get? D=none)(new:bX X.prog X.w (upd H D o) h' D o):aE X ae σ (upd H D o) { s with heap:=h',toks:=t' }:=by
 have hn:=I.bU.r_ hD;have ne:∀b u,s.heap.get? b=some u->b≠D:=fun b u e z=>by rw[z,hD] at e;cases e
 have keep:∀b u,b≠X.env.locals->s.heap.get? b=some u->h'.get? b=some u:=fun b u hb e=>by
  cases q:X.base.get? b with
  |some v=>
   have:=I.bk b v q;rw[e] at this;cases this;exact F'.keep b _ q
  |none=>exact(N' (b,u) (kB hb q e)).1
 refine I.step (g':=s.gens) (d':=s.drawn) (ch:=[]) (fun _ z=>absurd z (by simp)) (fun b u hb _ _ e _=>keep b u hb e) (fun b u hb _ _ e _=>⟨u.slots,keep b u hb e⟩) (fun b u _ e n=>by rw[al (ne b u e)];exact n) (fun b u _ e=>?_)
  (fun b xs e=>by rw[al (aq e hn)];exact e) (fun b u v e=>by rw[al (aq e hn)];exact e) (fun b ps e=>⟨#[],by rw[al (aq e hn),e];simp⟩) (fun m1 hm=>by rw[J0 hm F.ns];exact F'.ns) (fun b u e=>?_) I.bare
 .by_cases hb:b=X.env.locals
  .obtain⟨o',_,_,q,_⟩:=F'.ns;exact⟨o',by rw[hb];exact q⟩
  .exact⟨u,keep b u hb e⟩
 .by_cases hb:b=D
  .subst hb;rw[ag] at e;cases e;exact new
  .rw[al hb] at e;refine(I.bU b u e).oW (fun c v hc q=>keep c v ?_ q) (fun c q=>by rw[al (aq q hn)];exact q) fun c xs q=>by rw[al (aq q hn)];exact q
   rintro rfl;rcases hc with z|hc
   .have f:=I.free;rw[z,e] at f;cases f
   .rw[I.free] at hc;cases hc
theorem ub(I:aE X ae σ H s)(N:News X.base X.env.locals h' ((D,o)::jp X.base s.heap X.env.locals))(df:∀q∈jp X.base s.heap X.env.locals,q.1<D):s.heap.get? D=none:=by
 cases e:s.heap.get? D with
 |none=>rfl
 |some u=>
  obtain⟨_,n1,n2⟩:=N (D,o) bN;exact absurd (df (D,u) (kB n1 n2 e)) (hX _)
def F1(K:PySem.W.Frag)(H:Hp)(a:Addr)(y:Int×Int):Prop:=bz K H a [.int y.1,.int y.2]
section
variable {X:Cx}
theorem Ae(I:aE X ae σ H s)(h:F1 X.K H a y):∃o n t u,s.heap.get? a=some o/\o.cls=.type "tuple"/\o.data=.seq #[.int y.1 t,.int y.2 u] n:=by
 obtain⟨its,r,p,_⟩:=I.tuple h;obtain⟨u1,u2,rfl,r1,r2⟩:=r.two;obtain⟨t,rfl⟩:=r1;obtain⟨t',rfl⟩:=r2;obtain⟨o,e,c,n,d⟩:=p;exact⟨o,n,t,t',e,c,d⟩
end
def NZ(hs:Array Int)(i:Nat):Int:=(hs[i]?).getD 0
def fR(hs:Array Int)(t:SetTable)(h:Int):Option (Array Int×SetTable):=
 if t.gaveWay then none else
 match t.probe (NZ hs) h (t.probeStart h) with
 |some (.empty j none)=>
  let q:=t.put j
  let F2:=SetTable.insertAt hs q.2 h
  if q.1.fits F2.size&&decide (F2.size<=4096) then
   if q.1.tooFull then
    (match q.1.relaid F2 (SetTable.grown (hs.size+1)) with
    |some (t2,order)=>
     let tY:=order.filterMap (F2[·]?)
     if tY.size==F2.size&&t2.fits tY.size&&decide (SetTable.sizeAbove (SetTable.grown (hs.size+1))<=4096) then some (tY,t2) else none
    |none=>none)
   else some (F2,q.1)
  else none
 |_=>none
def v8(led:Bool):List Int->Option (Array Int×SetTable):=fun l=>l.foldlM (fun q h=>fR q.1 q.2 h) (#[],SetTable.fresh 0 0 led)
def kN(h:Heap)(S:Addr)(hs:Array Int)(t:SetTable):Prop:=∃o es ep,h.get? S=some o/\o.cls=.type "set"/\(o.dict=none/\o.slots=#[])/\o.data=.set es ep t/\es.map (·.1)=hs/\t.fits es.size=true
section
variable {prog:Program} {w:World} {A:Around} {E:Value->Shared->Prop} {s:Shared} {S:Addr}
theorem N0(es:Array (Int×Value)):(fun i=>(es[i]?.map (·.1)).getD 0)=NZ (es.map (·.1)):=by
 funext i;unfold NZ;rw[Array.getElem?_map]
theorem nP(es:Array (Int×Value))(p:Nat)(x:Int×Value):(SetTable.insertAt es p x).map (·.1)=SetTable.insertAt (es.map (·.1)) p x.1:=by
 unfold SetTable.insertAt;simp
theorem pz(es:Array (Int×Value))(order:Array Nat):(order.filterMap (es[·]?)).map (·.1)=order.filterMap ((es.map (·.1))[·]?):=by
 apply Array.ext';rw[vC,q0,q0,List.map_filterMap];congr 1;funext i;rw[Array.getElem?_map]
theorem Af(hS:kN s.heap S hs t)(hg:t.gaveWay=false)(hp:t.probe (NZ hs) h (t.probeStart h)=some (.empty j none))(q:Q (.free j false) s):
  wpAny (model prog w) A (setSearch S x h true) Q E s:=by
 obtain⟨o,es,ep,ho,hc,hdi,hd,hm,hf⟩:=hS;unfold setSearch setSearchFrom;refine aj (jj ho hd hf ?_);dsimp only;rw[hg,ap bo];have Mp:t.probe (fun i=>(es[i]?.map (·.1)).getD 0) h (t.probeStart h)=some (.empty j none):=by rw[N0,hm];exact hp
 refine aj (wpAny_pure ?_);erw[Mp];exact wpAny_pure q
theorem Du(ho:s.heap.get? a=some o)(hc:o.cls=.type "tuple")(hd:o.data=.seq #[.int x t,.int y u] n)(q:Q true s):
  wpAny (model prog w) A (hashByValue 8 (.ref a)) Q E s:=by
 have hT:s.TypeIs (.ref a) "tuple":=⟨_,ho,hc⟩
 unfold hashByValue;refine aj (vJ hT PySem.F.slot_tuple_hash.lookup ?_);refine aj (kj ho hd ?_);refine aj ?_;show wpAny _ _ (forIn #[Value.int x t,Value.int y u] _ _) _ _ s;rw[<-Array.forIn_toList];refine wpAny_forIn_list _ (fun bV r s'=>r.1=none/\s'=s/\∀v∈bV,∃z k,v=Value.int z k) _ ?_ ?_ _ _ ⟨rfl,rfl,fun v hv=>?_⟩
 .rintro v bV r s' ⟨hr,rfl,xv⟩;obtain⟨z,k,rfl⟩:=xv v bN;refine aj (wpAny_pure ?_);exact wpAny_pure ⟨rfl,rfl,fun u' BL=>xv u' (bL _ BL)⟩
 .rintro⟨r1,r2⟩ s' ⟨hr,rfl,_⟩;have EO:r1=none:=hr;subst EO;exact wpAny_pure q
 .rcases a7.mp hv with z|z
  .exact⟨_,_,z⟩
  .rcases a7.mp z with z|z
   .exact⟨_,_,z⟩
   .cases z
theorem BM(hS:kN s.heap S hs t)(hf:t'.fits es'.size=true)(hz:es'.size<=4096)(q:∀h',Heap.SameBut S s.heap h'->kN h' S (es'.map (·.1)) t'->Q () { s with heap:=h' }):wpAny (model prog w) A (storeSet S es' t') Q E s:=by
 obtain⟨o,es,ep,ho,hc,hdi,hd,hm,_⟩:=hS;refine zB ho hd (q _ (vy s.heap S (Obj.putSet es' t')) ?_) (aZ hz (by decide));have g:=oE (Obj.putSet es' t') ho (by rw[putSet_of es' t' hd];rfl);rw[putSet_of es' t' hd] at g;exact⟨_,es',ep+1,g,hc,hdi,rfl,rfl,hf⟩
theorem J1(hu:A.units<cLine)(hS:kN s.heap S hs t)(ho:s.heap.get? a=some o)(hc:o.cls=.type "tuple")(hd:o.data=.seq #[.int x tx,.int y ty] n)(mC:a≠S)(iw:fR hs t (tupleKeyHash (intKind prog w) [x,y])=some (hs',t'))(q:∀h' tk,Heap.SameBut S s.heap h'->kN h' S hs' t'->Q true { s with heap:=h',toks:=tk }):wpAny (model prog w) A (setAdd S (.ref a)) Q E s:=by
 have hk:IsTupleKey (intKind prog w) s.heap [x,y] a:=⟨o,_,n,ho,hc,hd,.cons (intKind_is _ _ _ _) (.cons (intKind_is _ _ _ _) .nil)⟩
 unfold setAdd;refine f9 (aj (wpAny_pyHash_tuple hu hk ?_));generalize WH:s.toks+([x,y].length+1)=tk;generalize hh:tupleKeyHash (intKind prog w) [x,y]=h at iw |-;have Sh:=hS;obtain⟨ob,es,ep,hb,W7,hbd,IY,hm,hf⟩:=hS;unfold setAddHashed setAddHashedIn;refine f9 (aj (jj (s:={ s with toks:=tk }) hb IY hf ?_));dsimp only;have QX:byScan (.ref a) es=false:=by unfold byScan;rfl
 rw[QX,ap bo];unfold fR at iw;cases hg:t.gaveWay with
 |true=>rw[hg,ai rfl] at iw;cases iw
 |false=>
  rw[hg,ap bo] at iw;split at iw
  .rename_i j hp;dsimp only at iw;split at iw
   .rename_i VN;rw[fq,ji] at VN;refine aj (Af (s:={ s with toks:=tk }) Sh hg hp ?_);dsimp only;refine aj (jj (s:={ s with toks:=tk }) hb IY hf ?_);dsimp only;have byv:∀ {kk:Bool->Sem Bool},wpAny (model prog w) A (kk true) Q E { s with toks:=tk }->wpAny (model prog w) A (if (t.put j).1.plain=true then hashByValue 8 (.ref a) >>= kk else pure true >>= kk) Q E { s with toks:=tk }:=fun {kk} hP=>by
     split
     .exact aj (Du (s:={ s with toks:=tk }) ho hc hd hP)
     .exact aj (wpAny_pure hP)
    refine byv ?_;simp only[mi];have hsz:(SetTable.insertAt es (t.put j).2 (h,Value.ref a)).size=(SetTable.insertAt hs (t.put j).2 h).size:=by
     rw[<-hm,<-nP es (t.put j).2 (h,Value.ref a),iP]
    refine aj (BM (s:={ s with toks:=tk }) Sh (by rw[hsz];exact VN.1) (by rw[hsz];exact VN.2) fun h1 ot S1=>?_);rw[nP,hm] at S1;split at iw
    .rename_i W8;rw[show (!false&&(t.put j).1.tooFull)=true by rw[W8];rfl,ai rfl];split at iw
     .rename_i t2 order hr;split at iw
      .rename_i hq;rw[fq,fq,ji,dL] at hq;obtain⟨⟨Mq,VO⟩,hq3⟩:=hq;cases iw;have hes:es.size=hs.size:=by rw[<-hm,iP]
       refine aj ?_;unfold setRelay;obtain⟨o1,iU,ep1,g1,g2,g3,g4,g5,g6⟩:=id S1;refine aj (jj (s:={ s with heap:=h1,toks:=tk }) g1 g4 g6 ?_);dsimp only;rw[hes];rw[ap (by (have h4:(4096:Nat)<=sizeLine:=by decide);lia)];refine aj ?_;rw[g5,hr];have pA:(order.filterMap (iU[·]?)).size=iU.size:=by
        have e1:=congrArg Array.size (pz iU order);rw[iP,g5] at e1;rw[e1,Mq,<-g5,iP]
       refine fz (show _=(pure (order.filterMap (iU[·]?),t'):Sem (Array (Int×Value)×SetTable)) from ?_) ?_
       .show (do
         let es':=order.filterMap (iU[·]?)
         if es'.size != iU.size then unsupported "internal:set-table-lost-an-element"
         pure (es',t'):Sem (Array (Int×Value)×SetTable))=_
        simp[pA]
       dsimp only;have Si:iU.size<=4096:=by
        have e1:=congrArg Array.size g5;rw[iP] at e1;rw[e1];exact VN.2
       have hfm:(order.filterMap (iU[·]?)).size=(order.filterMap ((SetTable.insertAt hs (t.put j).2 h)[·]?)).size:=by
        have e1:=congrArg Array.size (pz iU order);rw[iP,g5] at e1;exact e1
       refine BM (s:={ s with heap:=h1,toks:=tk }) S1 (by rw[hfm];exact VO) (by rw[pA];exact Si) fun h2 ou S2=>?_;rw[pz,g5] at S2;exact wpAny_pure (q h2 tk (ot.trans ou) S2)
      .cases iw
     .cases iw
    .rename_i W8;cases iw;have W9:(t.put j).1.tooFull=false:=by simpa using W8
     rw[show (!false&&(t.put j).1.tooFull)=false by rw[W9];rfl,ap bo];exact wpAny_pure (q h1 tk ot S1)
   .cases iw
  .cases iw
end
section
variable {prog:Program} {w:World} {A:Around} {E:Value->Shared->Prop} {s:Shared} {S Ia l:Addr} {R:Result->Shared->Prop}
def jw(h:Heap)(vs:List Value)(ys:List (Int×Int)):Prop:=vs.length=ys.length/\∀i v,vs[i]?=some v->∃a o n t u,v=.ref a/\h.get? a=some o/\o.cls=.type "tuple"/\o.data=.seq #[.int (ys.getD i (0,0)).1 t,.int (ys.getD i (0,0)).2 u] n
theorem jw.keeps(p:jw h vs ys)(k:∀b o,(∃xs n,o.data=.seq xs n)->h.get? b=some o->h'.get? b=some o):jw h' vs ys:=
 ⟨p.1,fun i v e=>let ⟨a,o,n,t,u,e1,e2,c,d⟩:=p.2 i v e;⟨a,o,n,t,u,e1,k a o ⟨_,_,d⟩ e2,c,d⟩⟩
def eY(prog:Program)(w:World)(y:Int×Int):Int:=tupleKeyHash (intKind prog w) [y.1,y.2]
theorem F3(hh:A.handled=none)(hu:A.units+1<cLine)(W_:l≠S)(Xa:l≠Ia)(Dv:S≠Ia):
  ∀ (k i:Nat) (s:Shared) (hs:Array Int) (t:SetTable),vs.length-i=k->i<=vs.length->s.heap.IsListIter Ia l i->s.heap.IsList l vs.toArray->jw s.heap vs ys->kN s.heap S hs t->
   ((ys.drop i).map (eY prog w)).foldlM (fun q h=>fR q.1 q.2 h) (hs,t)=some (hsN,tN)->
   (∀h' tk,(∀b o,b≠S->b≠Ia->s.heap.get? b=some o->h'.get? b=some o)->kN h' S hsN tN->R (.ok (.ret .none)) { s with heap:=h',toks:=tk })->
   codeAny (model prog w) A (.builtin "set.update.loop" ⟨[.ref S,.ref Ia],[]⟩) R s:=by
 intro k;induction k with
 |zero=>
  intro i s hs t hk hi jS hl hp hS hf hR;have e:i=vs.length:=by lia
  refine gh vb ?_;rw[jh uk _];show wpAny _ A.in1 (pyNext (.ref Ia) >>= _) _ _ s;refine aj (y6 (show A.in1.handled=none from hh) jS hl (by simp;lia) fun h' eb=>?_);show wpAny _ A.in1 (ret Value.none) _ _ _;have hd:ys.drop i=[]:=by rw[List.drop_eq_nil_iff];have:=hp.1;lia
  rw[hd] at hf;cases hf;obtain⟨o,es,ep,q1,q2⟩:=hS;exact wpAny_pure (hR h' s.toks (fun b o hb J2 e=>eb b o J2 e) ⟨o,es,ep,eb S o Dv q1,q2⟩)
 |succ k ih=>
  intro i s hs t hk hi jS hl hp hS hf hR;have df:i<vs.length:=by lia
  refine gh vb ?_;rw[jh uk _];show wpAny _ A.in1 (pyNext (.ref Ia) >>= _) _ _ s;have hv:vs[i]?=some vs[i]:=cJ df;refine aj (yZ jS hl (x:=vs[i]) (by simpa using hv) fun h1 N2 ot=>?_);obtain⟨a,o,n,tx,ty,ea,eo,ec,ed⟩:=hp.2 i _ hv;rw[ea];have neI:∀b ob,(∃xs n,ob.data=.seq xs n)->s.heap.get? b=some ob->b≠Ia:=fun b ob ⟨xs,m,z⟩ e z'=>by
   obtain⟨oi,e1,_,d1⟩:=jS;rw[z',e1] at e;cases e;rw[d1] at z;cases z
  have Mr:jw h1 vs ys:=hp.keeps fun b ob hb e=>(ot.2 b (neI b ob hb e)).trans e;have VP:kN h1 S hs t:=by
   obtain⟨oS,es,ep,q1,q2⟩:=hS;exact⟨oS,es,ep,(ot.2 S Dv).trans q1,q2⟩
  have J3:h1.IsList l vs.toArray:=by
   obtain⟨ol,q1,q2⟩:=hl;exact⟨ol,(ot.2 l Xa).trans q1,q2⟩
  have eo1:h1.get? a=some o:=(ot.2 a (neI a o ⟨_,_,ed⟩ eo)).trans eo;have neS:∀b ob,(∃xs n,ob.data=.seq xs n)->h1.get? b=some ob->b≠S:=fun b ob ⟨xs,m,z⟩ e z'=>by
   obtain⟨oS,es,ep,q1,_,_,q4,_⟩:=VP;rw[z',q1] at e;cases e;rw[q4] at z;cases z
  have Ag:i<ys.length:=by have:=hp.1;lia
  have Xb:ys.drop i=ys[i]::ys.drop (i+1):=oB Ag;have Xc:ys.getD i (0,0)=ys[i]:=by rw[cg,cJ Ag];rfl
  rw[Xb,eD,List.foldlM_cons] at hf;cases iw:fR hs t (eY prog w ys[i]) with
  |none=>rw[iw] at hf;cases hf
  |some q=>
   obtain⟨tY,t2⟩:=q;rw[iw] at hf;have hf2:((ys.drop (i+1)).map (eY prog w)).foldlM (fun q h=>fR q.1 q.2 h) (tY,t2)=some (hsN,tN):=hf;show wpAny _ A.in1 (holding [Value.ref a] (setAdd S (.ref a)) >>= _) _ _ _;refine aj (f9 (J1 (s:={ s with heap:=h1 }) (by show A.units+1<cLine;exact hu) VP eo1 ec ed (neS a o ⟨_,_,ed⟩ eo1) (hs':=tY) (t':=t2) (by rw[Xc];exact iw) fun h2 tk ou S2=>?_));refine wpAny_pure ⟨rK uk _,?_⟩;refine ih (i+1) { s with heap:=h2,toks:=tk } tY t2 (by lia) df ?_ ?_ (Mr.keeps fun b ob hb e=>(ou.2 b (neS b ob hb e)).trans e) S2 hf2 fun h3 Xd k3 S3=>?_
   .obtain⟨oi,q1,q2⟩:=N2;exact⟨oi,(ou.2 Ia (bE Dv)).trans q1,q2⟩
   .obtain⟨ol,q1,q2⟩:=J3;exact⟨ol,(ou.2 l W_).trans q1,q2⟩
   .exact hR h3 Xd (fun b ob hb J2 e=>k3 b ob hb J2 ((ou.2 b hb).trans ((ot.2 b J2).trans e))) S3
theorem F4{vs:List Value}{ys:List (Int×Int)}{hsN:Bool->Array Int}{tN:Bool->SetTable}{Q:Value->Shared->Prop}(hh:A.handled=none)(hu:A.units+8<cLine)(hl:s.heap.IsList l vs.toArray)(hp:jw s.heap vs ys)(Dw:∀led,v8 led (ys.map (eY prog w))=some (hsN led,tN led))(h:∀ (led:Bool) (h':Heap) (tk:Nat),kN h' s.heap.objs.size (hsN led) (tN led)->(∀b o,b<s.heap.objs.size->s.heap.get? b=some o->h'.get? b=some o)->Q (.ref s.heap.objs.size) { s with heap:=h',toks:=tk }):
  wpAny (model prog w) A (call (.type "set") [.ref l]) Q E s:=by
 obtain⟨c,tl,Xe⟩:=gK.mro;have c1:=gK.made;have c2:=gK.sub;refine rL (vL ?_);show wpAny _ _ (callAny (.type "set") _) _ _ _;refine wpAny_pure ⟨zA _ (by decide +kernel),gh PySem.F.entry_type_call ?_⟩;rw[Around.under_plain (weight_type_call_type "set" [.ref l] []) rfl];have c3:=gK.notType;have c4:=gK.canCreate;have c5:=PySem.F.typeCall_set_1 (.ref l);repeat (any_goals (first|assumption|wp_step))
 refine kn (code_set_new_1 (.ref l) (E:=E) (Q₁:=fun obj s₁=>∃led:Bool,obj=.ref s.heap.objs.size/\s₁={ s with heap:=s.heap.push { cls:=.type "set",dict:=none,data:=.set #[] 0 (.fresh 0 0 led) } }) fun led=>⟨led,rfl,rfl⟩) fun r s₁ hr=>?_;cases r with
 |error e=>exact hr
 |ok fl=>
  cases fl with
  |next=>exact hr.elim
  |brk=>exact hr.elim
  |cont=>exact hr.elim
  |ret obj=>
   obtain⟨led,rfl,rfl⟩:=hr;generalize N3:s.heap.push { cls:=.type "set",dict:=none,data:=.set #[] 0 (.fresh 0 0 led) }=hS;have hsz:hS.objs.size=s.heap.objs.size+1:=by rw[<-N3,hU]
   have gS:hS.get? s.heap.objs.size=some { cls:=.type "set",dict:=none,data:=.set #[] 0 (.fresh 0 0 led) }:=by rw[<-N3];exact bR _ rfl
   have up:∀b o,s.heap.get? b=some o->hS.get? b=some o:=fun b o e=>by rw[<-N3];exact bp _ e
   have hT:Shared.TypeIs { s with heap:=hS } (.ref s.heap.objs.size) "set":=⟨_,gS,rfl⟩
   have c6:=gK.init.lookup;have c7:=gK.init.bind (.ref s.heap.objs.size);repeat (any_goals (first|assumption|wp_step))
   refine kn (vt (R:=wants (fun r s₂=>r=.none/\∃h' tk,s₂={ s with heap:=h',toks:=tk }/\kN h' s.heap.objs.size (hsN led) (tN led)/\
     (∀b o,b<s.heap.objs.size->s.heap.get? b=some o->h'.get? b=some o)) E) gK.init.plain PySem.F.entry_set_init (check_set_init_1 hT ?_)) fun r₂ s₂ F5=>?_
   .obtain⟨ol,F6,Ab,nl,N4⟩:=hl;obtain⟨Xf,Sj,Sk,N5⟩:=ol;simp only at Ab N4;subst Ab;subst N4;have N6:=up _ _ F6;have c8:=PySem.F.sub_list_set;have c9:=EY;have c10:(Value.type "list"==Value.type "dict")=false:=by decide
    have J3:hS.IsList l vs.toArray:=⟨_,N6,rfl,nl,rfl⟩
    unfold Builtin.«set.__init__» noKeywords Builtin.Frozenset.updateFrom;generalize Xg:pyIter=PI
    wp_walk
    subst Xg;refine vD J3 ?_;refine aj (vN ?_);have df:l<s.heap.objs.size:=aM F6;refine F3 (l:=l) (vs:=vs) (ys:=ys) (hsN:=hsN led) (tN:=tN led) (by simp[hh]) (by simp;lia) (aT df) (by rw[hsz];exact aT (dO df)) (by rw[hsz];exact aT (j5 _))
     (vs.length-0) 0 _ #[] (.fresh 0 0 led) rfl (cE _) ⟨_,bR _ rfl,rfl,rfl⟩ (J3.push _) (hp.keeps fun b o _ e=>bp _ (up b o e)) ⟨_,#[],0,bp _ gS,rfl,⟨rfl,rfl⟩,rfl,by simp,rfl⟩ (Dw led) fun h' tk k S'=>?_
    show wpAny _ _ _ _ _ _;refine wpAny_pure ?_;show wpAny _ _ (ret Value.none) _ _ _;refine wpAny_pure ⟨rfl,h',tk,rfl,S',fun b o hb e=>?_⟩;exact k b o (aT hb) (by rw[hsz];exact aT (dO hb)) (bp _ (up b o e))
   .cases r₂ with
    |error e=>exact F5
    |ok Xh=>
     cases Xh with
     |next=>exact F5.elim
     |brk=>exact F5.elim
     |cont=>exact F5.elim
     |ret r=>
      obtain⟨rfl,h',tk,rfl,S',k⟩:=F5;repeat (any_goals (first|assumption|wp_step))
      exact h led h' tk S' k
end
open PySem
def F7(l:List Nat):Nat:=l.foldl (fun a x=>a ||| (1 <<< x)) 0
theorem Dx(l:List Nat)(a j:Nat):(l.foldl (fun a x=>a ||| (1 <<< x)) a).testBit j=(a.testBit j||l.contains j):=by
 induction l generalizing a with
 |nil=>simp
 |cons x xs ih=>
  rw[f8,ih,Nat.testBit_or,List.contains_cons];have:(1 <<< x).testBit j=(j==x):=by
   rw[Nat.one_shiftLeft,Nat.testBit_two_pow];by_cases h:x=j
   .simp[h]
   .have h':¬ j=x:=fun e=>h e.symm;simp[h,h']
  rw[this,Bool.or_assoc]
theorem pW(h:F7 l=2 ^ n-1)(hj:j<n):j∈l:=by
 have e:=Dx l 0 j;have h':l.foldl (fun a x=>a ||| (1 <<< x)) 0=2 ^ n-1:=h;rw[h',Nat.testBit_two_pow_sub_one] at e;simp[hj] at e;exact e
def F8(M:Nat):Nat->Nat->Nat
 |0,i=>i
 |n+1,i=>F8 M n ((i*5+1) % M)
theorem qI(M a:Nat):∀b i,F8 M (b+a) i=F8 M a (F8 M b i)
 |0,i=>by rw[Nat.zero_add];rfl
 |b+1,i=>by
  rw[show b+1+a=(b+a)+1 by lia];show F8 M (b+a) _=F8 M a (F8 M b _);exact qI M a b _
def N8(M:Nat):Nat->Nat->List Nat
 |0,_=>[]
 |n+1,i=>i::N8 M n ((i*5+1) % M)
theorem se:∀ {n i},j∈N8 M n i->∃k,k<n/\F8 M k i=j
 |0,_,h=>by cases h
 |n+1,i,h=>by
  rcases a7.mp h with z|z
  .exact⟨0,by lia,z.symm⟩
  .obtain⟨k,a,b⟩:=se z;exact⟨k+1,by lia,b⟩
structure yB(M:Nat):Prop where
 all:F7 (N8 M M 0)=2 ^ M-1
 back:F8 M M 0=0
theorem Sl:yB 8:=⟨by decide +kernel,by decide +kernel⟩
theorem xz:yB 32:=⟨by decide +kernel,by decide +kernel⟩
theorem F9:yB 128:=⟨by decide +kernel,by decide +kernel⟩
theorem F_:yB 512:=⟨by decide +kernel,by decide +kernel⟩
theorem yB.cover(R:yB M)(hi:i<M)(hj:j<M):∃n,n<M/\F8 M n i=j:=by
 obtain⟨a,ha,ea⟩:=se (pW R.all hi);obtain⟨b,hb,eb⟩:=se (pW R.all hj);by_cases h:a<=b
 .refine⟨b-a,by lia,?_⟩;rw[<-ea,<-qI,show a+(b-a)=b by lia,eb]
 .refine⟨M+b-a,by lia,?_⟩;rw[<-ea,<-qI,show a+(M+b-a)=M+b by lia,qI,R.back,eb]
def gO(mask:Nat):Nat->Nat×Nat->Nat×Nat
 |0,q=>q
 |n+1,q=>gO mask n (SetTable.leap mask q.1 q.2)
theorem uE(m a:Nat):∀b q,gO m (b+a) q=gO m a (gO m b q)
 |0,q=>by rw[Nat.zero_add];rfl
 |b+1,q=>by
  rw[show b+1+a=(b+a)+1 by lia];exact uE m a b _
theorem xA:∀ {n:Nat} {q:Nat×Nat},q.1<m+1->(gO m n q).1<m+1
 |0,_,h=>h
 |n+1,q,h=>xA (n:=n) (jn _ (vQ _))
theorem BQ:∀ {n:Nat} {q:Nat×Nat},(gO m n q).2=q.2 / 32 ^ n
 |0,_=>by simp[gO]
 |n+1,q=>by
  show (gO m n _).2=_;rw[BQ];show q.2 / 32 / 32 ^ n=_;rw[lY,Nat.pow_succ,vR]
theorem uF:∀ {n i:Nat},gO m n (i,0)=(F8 (m+1) n i,0)
 |0,_=>rfl
 |n+1,i=>by
  show gO m n (SetTable.leap m i 0)=_;unfold SetTable.leap;simp only[Nat.zero_div,Nat.add_zero];exact uF
theorem pX(R:yB (m+1))(hi:i<m+1)(hp:p<2 ^ 64)(hj:j<m+1):∃n,n<m+14/\(gO m n (i,p)).1=j:=by
 have h1:=xA (m:=m) (n:=13) (q:=(i,p)) hi;have h2:(gO m 13 (i,p)).2=0:=by
  rw[BQ];exact zn (bK hp (by decide))
 obtain⟨n,hn,e⟩:=R.cover h1 hj;refine⟨13+n,by lia,?_⟩;rw[uE];have:gO m 13 (i,p)=((gO m 13 (i,p)).1,0):=eK rfl h2;rw[this,uF];exact e
theorem BR(h:Int):SetTable.bits h<2 ^ 64:=by
 unfold SetTable.bits;have a:=oM h (show (2 ^ 64:Int)≠0 by decide);have b:=oG h (show (0:Int)<2 ^ 64 by decide);lia
theorem Sm{M:Nat}{l:List Nat}(h:l.length<M):∃j,j<M/\j∉l:=by
 have key:∀ (a b:List Nat),a.Nodup->(∀x∈a,x∈b)->a.length<=b.length:=by
  intro a;induction a with
  |nil=>intro b _ _;exact cE _
  |cons x xs ih=>
   intro b hn hs;obtain⟨h1,h2⟩:=cM.mp hn;have hx:x∈b:=hs x bN;have:=ih (b.erase x) h2 fun y hy=>(q_ (fun (e:y=x)=>h1 (e ▸ hy))).mpr (hs y (bL _ hy));rw[qV hx] at this;have:0<b.length:=vk hx;rw[cD];lia
 apply vf;intro Do;have:=key (List.range M) l oI fun x hx=>vf fun d7=>Do ⟨x,cU.mp hx,d7⟩;rw[fm] at this;lia
def Ah(mask i p:Nat):SetTable.Probe:={ j:=i,more:=SetTable.runEnd mask i-i,i:=i,perturb:=p,dummy:=none }
theorem N9(mask i:Nat):SetTable.runEnd mask i-i<=9:=by unfold SetTable.runEnd;split <;> lia
theorem qJ{t:SetTable}(hd:t.dummies=#[])(j:Nat):t.slot j=.empty\/∃i,t.slot j=.live i/\t.place[i]?=some j:=by
 unfold SetTable.slot;dsimp only;split
 .rename_i h;exact .inr ⟨_,rfl,by simpa using h⟩
 .left;rw[hd];rfl
theorem Ai{t:SetTable}(hd:t.dummies=#[]){j:Nat}(h:j∉t.place.toList):t.slot j=.empty:=by
 rcases qJ hd j with e|⟨i,_,e2⟩
 .exact e
 .exact absurd (by rw[<-nq] at e2;exact cB e2) h
section
variable {t:SetTable} {hashAt:Nat->Int} {h:Int}
theorem Ga(hd:t.dummies=#[])(hh:∀i,i<t.place.size->hashAt i≠h)(i p:Nat):∀ (r:Nat) (j dh:Nat),
  (∃j',SetTable.probe.go t hashAt h (dh+r+1) { j:=j,more:=r,i:=i,perturb:=p,dummy:=none }=some (.empty j' none))\/
  SetTable.probe.go t hashAt h (dh+r+1) { j:=j,more:=r,i:=i,perturb:=p,dummy:=none }=SetTable.probe.go t hashAt h dh (Ah t.mask (SetTable.leap t.mask i p).1 (SetTable.leap t.mask i p).2)
 |0,j,dh=>by
  rcases qJ hd j with e|⟨k,e,e2⟩
  .exact .inl ⟨j,by unfold SetTable.probe.go;rw[e]⟩
  .right;have hk:k<t.place.size:=(oA.mp e2).1;conv=>lhs;unfold SetTable.probe.go
   rw[e];simp only[dL,hh k hk,gv];rfl
 |r+1,j,dh=>by
  rcases qJ hd j with e|⟨k,e,e2⟩
  .exact .inl ⟨j,by rw[show dh+(r+1)+1=(dh+r+1)+1 by lia];unfold SetTable.probe.go;rw[e]⟩
  .have hk:k<t.place.size:=(oA.mp e2).1;have st:SetTable.probe.go t hashAt h (dh+(r+1)+1) { j:=j,more:=r+1,i:=i,perturb:=p,dummy:=none }=SetTable.probe.go t hashAt h (dh+r+1) { j:=j+1,more:=r,i:=i,perturb:=p,dummy:=none }:=by
    rw[show dh+(r+1)+1=(dh+r+1)+1 by lia];conv=>lhs;unfold SetTable.probe.go
    rw[e];simp only[dL,hh k hk,gv];rfl
   rw[st];exact Ga hd hh i p r (j+1) dh
theorem BU(hd:t.dummies=#[])(hh:∀i,i<t.place.size->hashAt i≠h):∀ (m:Nat) (i p dh:Nat),10*(m+1)<=dh->t.slot (gO t.mask m (i,p)).1=.empty->
  ∃j',SetTable.probe.go t hashAt h dh (Ah t.mask i p)=some (.empty j' none)
 |0,i,p,dh,hf,e=>by
  obtain⟨f,rfl⟩:∃f,dh=f+1:=⟨dh-1,by lia⟩
  refine⟨i,?_⟩;have e':t.slot i=.empty:=e;unfold SetTable.probe.go Ah;dsimp only;rw[e']
 |m+1,i,p,dh,hf,e=>by
  have hr:=N9 t.mask i;obtain⟨f,J4⟩:∃f,dh=f+(SetTable.runEnd t.mask i-i)+1:=⟨dh-(SetTable.runEnd t.mask i-i)-1,by lia⟩
  rcases Ga (hashAt:=hashAt) (h:=h) hd hh i p (SetTable.runEnd t.mask i-i) i f with z|z
  .rw[J4];exact z
  .rw[J4];show ∃j',SetTable.probe.go t hashAt h _ { j:=i,more:=_,i:=i,perturb:=p,dummy:=none }=_;rw[z];exact BU hd hh m _ _ f (by lia) e
theorem sf(R:yB (t.mask+1))(hd:t.dummies=#[])(hs:t.place.size<=t.mask)(hh:∀i,i<t.place.size->hashAt i≠h):∃j,t.probe hashAt h (t.probeStart h)=some (.empty j none):=by
 obtain⟨j,hj,hn⟩:=Sm (M:=t.mask+1) (l:=t.place.toList) (by simpa using Nat.lt_succ_of_le hs);obtain⟨m,hm,e⟩:=pX R (jn (SetTable.bits h) (vQ t.mask)) (BR h) hj;refine BU hd hh m _ _ _ ?_ (by rw[e];exact Ai hd hn);unfold SetTable.turns;lia
end
theorem Aj{α β:Type}{f:α->Option β}:∀ {l:List α},(∀q∈l,(f q).isSome=true)->(l.filterMap f).length=l.length
 |[],_=>rfl
 |q::l,h=>by
  have hq:=h q bN;cases e:f q with
  |none=>rw[e] at hq;cases hq
  |some b=>rw[E8 e,cD,cD,Aj fun x hx=>h x (bL _ hx)]
theorem uG:∀ (m dh i p:Nat),m<dh->owner.getD (gO mask m (i,p)).1 (some 0)=none->∃j,SetTable.layClean.free mask owner dh i p=some j/\owner.getD j (some 0)=none
 |m,0,_,_,h,_=>by lia
 |m,dh+1,i,p,h,e=>by
  unfold SetTable.layClean.free;cases hf:(List.range (SetTable.runEnd mask i+1-i)).find? fun k=>(owner.getD (i+k) (some 0)).isNone with
  |some k=>
   refine⟨i+k,rfl,?_⟩;have:=vG hf;simpa using this
  |none=>
   cases m with
   |zero=>
    have h0:(0:Nat)∈List.range (SetTable.runEnd mask i+1-i):=cU.mpr (by unfold SetTable.runEnd;split <;> lia);have:=rf.mp hf 0 h0;have e':owner.getD i (some 0)=none:=e;rw[Nat.add_zero,e'] at this;exact absurd rfl this
   |succ m=>
    exact uG m dh _ _ (by lia) e
structure si(M:Nat)(owner:Array (Option Nat))(k:Nat):Prop where
 size:owner.size=M
 cnt:owner.toList.countP Option.isSome=k
 lt:∀x,some x∈owner.toList->x<k
theorem Ak{l:List (Option Nat)}{j:Nat}{x:Nat}(hj:l[j]?=some none):(l.set j (some x)).countP Option.isSome=l.countP Option.isSome+1:=by
 induction l generalizing j with
 |nil=>cases hj
 |cons a l ih=>
  cases j with
  |zero=>
   obtain rfl:a=none:=by simpa using hj
   simp
  |succ j=>
   rw[List.set_cons_succ,zu,zu,ih (by simpa using hj)];lia
theorem si.one{mask:Nat}{owner:Array (Option Nat)}{k:Nat}(L:si (mask+1) owner k)(R:yB (mask+1))(hk:k<mask+1)(h:Int):
  ∃j,SetTable.layClean.free mask owner (SetTable.turns mask) (SetTable.bits h % (mask+1)) (SetTable.bits h)=some j/\si (mask+1) (owner.setIfInBounds j (some k)) (k+1):=by
 have Do:∃j,j<mask+1/\owner.toList[j]?=some none:=by
  apply vf;intro Do;have xv:∀x∈owner.toList,x.isSome=true:=by
   intro x hx;obtain⟨j,hj,e⟩:=oC.mp hx;cases x with
   |some _=>rfl
   |none=>
    refine absurd ⟨j,?_,?_⟩ Do
    .rw[<-L.size];simpa using hj
    .rw[cJ hj,e]
  have:=List.countP_eq_length.mpr xv;rw[L.cnt,eA,L.size] at this;lia
 obtain⟨j0,hj0,e0⟩:=Do;obtain⟨m,hm,em⟩:=pX R (jn (SetTable.bits h) (vQ mask)) (BR h) hj0;obtain⟨j,ej,en⟩:=uG (mask:=mask) (owner:=owner) m (SetTable.turns mask) (SetTable.bits h % (mask+1)) (SetTable.bits h) (by unfold SetTable.turns;lia)
  (by rw[em,iB,<-nq,e0];rfl)
 refine⟨j,ej,?_⟩;have hjn:owner.toList[j]?=some none:=by
  rw[iB,<-nq] at en;cases hq:owner.toList[j]? with
  |none=>rw[hq] at en;cases en
  |some v=>rw[hq] at en;rw[show v=none from en]
 have So:(owner.setIfInBounds j (some k)).toList=owner.toList.set j (some k):=by simp
 refine⟨by simp[L.size],by rw[So,Ak hjn,L.cnt],fun x hx=>?_⟩;rw[So] at hx;rcases List.mem_or_eq_of_mem_set hx with z|z
 .exact dO (L.lt x z)
 .cases z;exact j5 _
theorem v_(R:yB (mask+1)):∀ (l:List Int) (owner:Array (Option Nat)) (k:Nat),si (mask+1) owner k->k+l.length<=mask->
  ∃Gb,l.foldl (fun cn h=>do
   let (owner,k) <- cn
   let j <- SetTable.layClean.free mask owner (SetTable.turns mask) (SetTable.bits h % (mask+1)) (SetTable.bits h)
   pure (owner.setIfInBounds j (some k),k+1)) (some (owner,k))=some (Gb,k+l.length)/\si (mask+1) Gb (k+l.length)
 |[],owner,k,L,_=>⟨owner,rfl,L⟩
 |h::l,owner,k,L,hl=>by
  rw[cD] at hl;obtain⟨j,ej,L'⟩:=L.one R (by lia) h;obtain⟨o',e,L2⟩:=v_ R l _ _ L' (by lia);refine⟨o',?_,by rw[cD,show k+(l.length+1)=k+1+l.length by lia];exact L2⟩;rw[f8];have:(do
   let (owner,k) <- some (owner,k)
   let j <- SetTable.layClean.free mask owner (SetTable.turns mask) (SetTable.bits h % (mask+1)) (SetTable.bits h)
   pure (owner.setIfInBounds j (some k),k+1):Option (Array (Option Nat)×Nat))=some (owner.setIfInBounds j (some k),k+1):=by
   show (SetTable.layClean.free mask owner (SetTable.turns mask) (SetTable.bits h % (mask+1)) (SetTable.bits h)).bind _=_;rw[ej];rfl
  rw[this,e,cD,show k+(l.length+1)=k+1+l.length by lia]
theorem pY(R:yB (mask+1))(hs:Array Int)(h:hs.size<=mask):∃owner,SetTable.layClean mask hs=some owner/\si (mask+1) owner hs.size:=by
 have L0:si (mask+1) (Array.replicate (mask+1) none) 0:=⟨by simp,by simp[List.countP_replicate],fun x hx=>by simp at hx⟩
 obtain⟨o,e,L⟩:=v_ R hs.toList _ 0 L0 (by simpa using h);refine⟨o,?_,by simpa using L⟩;unfold SetTable.layClean;rw[<-Array.foldl_toList];have e':=congrArg (Option.map (·.1)) e;exact e'
theorem sj(L:si M owner n):
  ((List.range M).filterMap fun j=>(owner.getD j none).map (j,·)).length=n/\∀q∈(List.range M).filterMap (fun j=>(owner.getD j none).map (j,·)),q.2<n:=by
 constructor
 .rw[<-L.cnt];have e:owner.toList=(List.range M).map fun j=>owner.getD j none:=by
   apply List.ext_getElem
   .simp[L.size]
   .intro i h1 h2;simp only[List.getElem_map,List.getElem_range,Array.getElem_toList];rw[iB,iX (by simpa using h1)];rfl
  conv=>rhs;rw[e]
  rw[List.countP_map];generalize List.range M=l;induction l with
  |nil=>rfl
  |cons a l ih=>
   rw[zu,<-ih];cases hq:owner.getD a none with
   |none=>rw[List.filterMap_cons_none (by rw[hq];rfl),show (Option.isSome ∘ fun j=>owner.getD j none) a=false by show (owner.getD a none).isSome=false;rw[hq];rfl];simp
   |some x=>rw[E8 (b:=(a,x)) (by rw[hq];rfl),show (Option.isSome ∘ fun j=>owner.getD j none) a=true by show (owner.getD a none).isSome=true;rw[hq];rfl];simp
 .intro q hq;obtain⟨j,_,e⟩:=l8.mp hq;cases hx:owner.getD j none with
  |none=>rw[hx] at e;cases e
  |some x=>
   rw[hx] at e;cases e;refine L.lt x ?_;rw[iB,<-nq] at hx;cases hy:owner.toList[j]? with
   |none=>rw[hy] at hx;cases hx
   |some v=>rw[hy] at hx;obtain rfl:v=some x:=hx;exact cB hy
structure xB(hs:Array Int)(t:SetTable):Prop where
 dm:t.dummies=#[]
 sz:t.place.size=hs.size
 ms:(t.mask=7/\hs.size<=4)\/(t.mask=31/\hs.size<=18)\/(t.mask=127/\hs.size<=76)\/(t.mask=511/\hs.size<=306)
theorem xB.rnd(T:xB hs t):yB (t.mask+1):=by
 rcases T.ms with ⟨e,_⟩|⟨e,_⟩|⟨e,_⟩|⟨e,_⟩ <;> rw[e]
 .exact Sl
 .exact xz
 .exact F9
 .exact F_
theorem eF(xs:Array α)(p:Nat)(x:α):(SetTable.insertAt xs p x).size=xs.size+1:=by
 unfold SetTable.insertAt;simp;lia
theorem nQ(h:y∈(SetTable.insertAt xs p x).toList):y=x\/y∈xs.toList:=by
 unfold SetTable.insertAt at h;rw[eQ,j_,yY,yY] at h;rcases cR.mp h with z|z
 .rcases cR.mp z with z|z
  .right;rw[List.extract_eq_drop_take] at z;exact vn (l6 z)
  .left;simpa using z
 .right;rw[List.extract_eq_drop_take] at z;exact vn (l6 z)
theorem Al{hs:Array Int}{t:SetTable}{h:Int}(T:xB hs t)(hn:h∉hs.toList)(hl:hs.size<300):∃hs' t',fR hs t h=some (hs',t')/\xB hs' t'/\hs'.size=hs.size+1/\∀x∈hs'.toList,x=h\/x∈hs.toList:=by
 have Si:t.place.size<=t.mask:=by rw[T.sz];rcases T.ms with ⟨e,z⟩|⟨e,z⟩|⟨e,z⟩|⟨e,z⟩ <;> lia
 have hh:∀i,i<t.place.size->NZ hs i≠h:=by
  intro i hi e;rw[T.sz] at hi;unfold NZ at e;rw[iX hi] at e;exact hn (by rw[<-e];simp)
 obtain⟨j,hp⟩:=sf (hashAt:=NZ hs) (h:=h) T.rnd T.dm Si hh;have hg:t.gaveWay=false:=by
  unfold SetTable.gaveWay;rcases T.ms with ⟨e,_⟩|⟨e,_⟩|⟨e,_⟩|⟨e,_⟩ <;> rw[e] <;> rfl
 have q1:(t.put j).1.place=SetTable.insertAt t.place (SetTable.below t.place j) j:=rfl;have q2:(t.put j).1.dummies=#[]:=by
  show (if SetTable.has t.dummies j=true then _ else t.dummies)=_;rw[T.dm];rfl
 have q3:(t.put j).1.mask=t.mask:=rfl;have s1:(SetTable.insertAt hs (t.put j).2 h).size=hs.size+1:=eF _ _ _;have s2:(t.put j).1.place.size=hs.size+1:=by rw[q1,eF,T.sz]
 have fl:(t.put j).1.fill=hs.size+1:=by unfold SetTable.fill;rw[s2,q2];rfl
 have N_:(t.put j).1.fits (SetTable.insertAt hs (t.put j).2 h).size=true:=by
  unfold SetTable.fits;rw[s1,s2,fl,q3];simp;rcases T.ms with ⟨e,z⟩|⟨e,z⟩|⟨e,z⟩|⟨e,z⟩ <;> lia
 unfold fR;rw[hg,ap bo,hp];dsimp only;rw[ai (by rw[N_,s1];simp;lia)];by_cases hf:(t.put j).1.tooFull=true
 .rw[ai hf];have J4:=hf;unfold SetTable.tooFull at J4;rw[fl,q3] at J4;have hf2:(hs.size+1)*5>=t.mask*3:=by simpa using J4
  have gr:SetTable.grown (hs.size+1)=(hs.size+1)*4:=by unfold SetTable.grown;rw[ap (by lia)]
  obtain⟨m2,VQ,Sq,R2⟩:∃m2,SetTable.sizeAbove (SetTable.grown (hs.size+1))=m2+1/\((m2=31/\hs.size+1<=18)\/(m2=127/\hs.size+1<=76)\/(m2=511/\hs.size+1<=306))/\yB (m2+1):=by
   rw[gr];rcases T.ms with ⟨e,z⟩|⟨e,z⟩|⟨e,z⟩|⟨e,z⟩
   .have:hs.size=4:=by lia
    exact⟨31,by rw[this];rfl,.inl ⟨rfl,by lia⟩,xz⟩
   .have:hs.size=18:=by lia
    exact⟨127,by rw[this];rfl,.inr (.inl ⟨rfl,by lia⟩),F9⟩
   .have:hs.size=76:=by lia
    exact⟨511,by rw[this];rfl,.inr (.inr ⟨rfl,by lia⟩),F_⟩
   .lia
  have Xi:(SetTable.insertAt hs (t.put j).2 h).size<=m2:=by rw[s1];rcases Sq with ⟨e,z⟩|⟨e,z⟩|⟨e,z⟩ <;> lia
  obtain⟨owner,eo,L⟩:=pY R2 (SetTable.insertAt hs (t.put j).2 h) Xi;obtain⟨EQ,Ms⟩:=sj L;rw[s1] at EQ Ms;generalize Gc:(List.range (m2+1)).filterMap (fun j=>(owner.getD j none).map (j,·))=live at EQ Ms;have er:(t.put j).1.relaid (SetTable.insertAt hs (t.put j).2 h) (SetTable.grown (hs.size+1))=some ({ mask:=m2,place:=(live.map (·.1)).toArray,dummies:=#[],finger:=(t.put j).1.finger,led:=(t.put j).1.led,moves:=(t.put j).1.movedTo m2,plain:=(t.put j).1.plain },(live.map (·.2)).toArray):=by
   unfold SetTable.relaid SetTable.laid;rw[VQ];simp only[zc];rw[eo];show some _=some _;rw[<-Gc]
  rw[er];dsimp only;have pA:((live.map (·.2)).toArray.filterMap ((SetTable.insertAt hs (t.put j).2 h)[·]?)).size=hs.size+1:=by
   rw[<-eA,q0];show ((live.map (·.2)).filterMap _).length=_;rw[<-EQ,zd];refine Aj fun q hq=>?_;show ((SetTable.insertAt hs (t.put j).2 h)[q.2]?).isSome=true;rw[iX (by rw[s1];exact Ms q hq)];rfl
  have emf:∀x,({ mask:=m2,place:=(live.map (·.1)).toArray,dummies:=#[],finger:=(t.put j).1.finger,led:=(t.put j).1.led,moves:=(t.put j).1.movedTo m2,plain:=(t.put j).1.plain }:SetTable).fits x=(decide (hs.size+1=x)&&decide (hs.size+1<=m2)):=by
   intro x;unfold SetTable.fits SetTable.fill;simp[EQ];rw[jR];simp
  rw[ai (by
   rw[pA,s1,emf,VQ];have:hs.size+1<=m2:=by rw[<-s1];exact Xi
   simp[this];rcases Sq with ⟨e,z⟩|⟨e,z⟩|⟨e,z⟩ <;> lia)]
  refine⟨_,_,rfl,⟨rfl,?_,?_⟩,pA,fun x hx=>?_⟩
  .rw[pA];simp[EQ]
  .rw[pA];exact .inr Sq
  .rw[q0] at hx;obtain⟨k,_,ek⟩:=l8.mp hx;refine nQ (p:=(t.put j).2) ?_;rw[<-nq] at ek;exact cB ek
 .rw[ap hf];refine⟨_,_,rfl,⟨q2,by rw[s2,s1],?_⟩,s1,fun x hx=>nQ hx⟩;have J4:¬ (hs.size+1)*5>=t.mask*3:=by
   intro z;refine hf ?_;unfold SetTable.tooFull;rw[fl,q3];simpa using z
  rw[s1,q3];rcases T.ms with ⟨e,z⟩|⟨e,z⟩|⟨e,z⟩|⟨e,z⟩ <;> lia
theorem pZ:∀ (l:List Int) (hs:Array Int) (t:SetTable),xB hs t->(∀x∈l,x∉hs.toList)->l.Nodup->hs.size+l.length<=300->∃hs' t',l.foldlM (fun q h=>fR q.1 q.2 h) (hs,t)=some (hs',t')/\hs'.size=hs.size+l.length
 |[],hs,t,_,_,_,_=>⟨hs,t,rfl,rfl⟩
 |h::l,hs,t,T,hn,nd,hl=>by
  rw[cD] at hl;obtain⟨n1,n2⟩:=cM.mp nd;obtain⟨F2,t1,e1,T1,z1,m1⟩:=Al T (hn h bN) (by lia);obtain⟨tY,t2,e2,z2⟩:=pZ l F2 t1 T1 (fun x hx hy=>by
   rcases m1 x hy with e|e
   .exact n1 (e ▸ hx)
   .exact hn x (bL _ hx) e) n2 (by lia)
  refine⟨tY,t2,?_,by rw[z2,z1,cD];lia⟩;rw[List.foldlM_cons];show (fR hs t h).bind _=_;rw[e1];exact e2
theorem Dy(led:Bool)(nd:l.Nodup)(hl:l.length<=300):∃hs t,v8 led l=some (hs,t)/\hs.size=l.length:=by
 obtain⟨hs,t,e,z⟩:=pZ l #[] (SetTable.fresh 0 0 led) ⟨rfl,rfl,.inl ⟨rfl,by decide⟩⟩ (fun x _ h=>by simp at h) nd (by simpa using hl);exact⟨hs,t,e,by simpa using z⟩
def BV:List Nat->Nat->Bool
 |[],_=>true
 |x::xs,cn=>bif Nat.testBit cn x then false else BV xs (cn ||| (1 <<< x))
theorem xC:∀ (l:List Nat) (cn:Nat),BV l cn=true->l.Nodup/\∀x∈l,cn.testBit x=false
 |[],_,_=>⟨ft,fun x h=>(nomatch h)⟩
 |x::xs,cn,h=>by
  unfold BV at h;cases hb:cn.testBit x with
  |true=>rw[hb] at h;cases h
  |false=>
   rw[hb] at h;obtain⟨nd,hx⟩:=xC xs _ h;have hor:∀y∈xs,cn.testBit y=false/\y≠x:=by
    intro y hy;have:=hx y hy;rw[Nat.testBit_or,Nat.one_shiftLeft,Nat.testBit_two_pow] at this;rw[Bool.or_eq_false_iff] at this;exact⟨this.1,fun e=>by have:=this.2;simp[e] at this⟩
   refine⟨cM.mpr ⟨fun hm=>(hor x hm).2 rfl,nd⟩,fun y hy=>?_⟩;rcases a7.mp hy with z|z
   .rw[z];exact hb
   .exact(hor y z).1
def sk:List (Int×Int):=(List.range 32).flatMap fun a=>(List.range 32).map fun b=>(Int.ofNat a,Int.ofNat b)
def Mt(h:Int):Nat:=(h % 6554).toNat
theorem Dz(P:Program)(w:World):BV (sk.map fun y=>Mt (eY P w y)) 0=true:=by kernel_rfl
theorem BW(h1:0<=y.1/\y.1<32)(h2:0<=y.2/\y.2<32):y∈sk:=by
 unfold sk;refine zq.mpr ⟨y.1.toNat,cU.mpr (by lia),aQ.mpr ⟨y.2.toNat,cU.mpr (by lia),eK ?_ ?_⟩⟩
 .show ((y.1.toNat:Nat):Int)=y.1;lia
 .show ((y.2.toNat:Nat):Int)=y.2;lia
theorem lP:∀ {l:List α},(l.map f).Nodup->∀x∈l,∀y∈l,f x=f y->x=y
 |[],_,_,h,_,_,_=>by cases h
 |a::l,h,x,hx,y,hy,e=>by
  rw[eD] at h;obtain⟨h1,h2⟩:=cM.mp h;rcases a7.mp hx with z|z <;> rcases a7.mp hy with z'|z'
  .rw[z,z']
  .exact absurd (aQ.mpr ⟨y,z',by rw[<-e,z]⟩) h1
  .exact absurd (aQ.mpr ⟨x,z,by rw[e,z']⟩) h1
  .exact lP h2 x z y z' e
theorem wb(hx:(0<=x.1/\x.1<32)/\(0<=x.2/\x.2<32))(hy:(0<=y.1/\y.1<32)/\(0<=y.2/\y.2<32))(e:eY P w x=eY P w y):x=y:=
 lP (xC _ _ (Dz P w)).1 x (BW hx.1 hx.2) y (BW hy.1 hy.2) (congrArg Mt e)
theorem pB:∀ {l:List α},l.Nodup->(∀x∈l,∀y∈l,f x=f y->x=y)->(l.map f).Nodup
 |[],_,_=>ft
 |a::l,h,hf=>by
  obtain⟨h1,h2⟩:=cM.mp h;rw[eD];refine cM.mpr ⟨fun z=>?_,pB h2 fun x hx y hy=>hf x (bL _ hx) y (bL _ hy)⟩;obtain⟨y,hy,e⟩:=aQ.mp z;have:=hf y (bL _ hy) a bN e;exact h1 (this ▸ hy)
theorem xD{P:Program}{w:World}(led:Bool){ys:List (Int×Int)}(nd:ys.Nodup)(hr:∀y∈ys,(0<=y.1/\y.1<32)/\(0<=y.2/\y.2<32))(hl:ys.length<=300):
  ∃hs t,v8 led (ys.map (eY P w))=some (hs,t)/\hs.size=ys.length:=by
 obtain⟨hs,t,e,z⟩:=Dy led (pB nd fun x hx y hy e=>wb (P:=P) (w:=w) (hr x hx) (hr y hy) e) (by rw[aV];exact hl);exact⟨hs,t,e,by rw[z,aV]⟩
theorem BY:∀ {as:List Addr} {its:List Value},aP (as.map V.ref) its->its=as.map Value.ref
 |[],_,r=>by cases r;rfl
 |a::as,_,r=>by
  cases r with
  |cons r rr=>
   obtain rfl:=(show _=Value.ref a from r)
   rw[BY rr];rfl
def J5(D:Addr)(n:Nat):HO:=.ext fun h=>∃hs t,kN h D hs t/\hs.size=n
section
variable {X:Cx}
def Sr(K:PySem.W.Frag):List V->Hp->VK->Prop:=fun xs H Q=>∃ (l:Addr) (as:List Addr) (ys:List (Int×Int)),xs=[.ref l]/\bh K H l (as.map V.ref)/\as.length=ys.length/\
 (∀i,i<ys.length->F1 K H (as.getD i 0) (ys.getD i (0,0)))/\ys.Nodup/\(∀y∈ys,(0<=y.1/\y.1<32)/\(0<=y.2/\y.2<32))/\ys.length<=300/\∀D,H D=none->Q (.ref D) (upd H D (J5 D ys.length))
theorem DA(hc:X.calm=true)(hu:X.A.units+8<cLine):gb X (.type "set") (Sr X.K):=by
 intro ae s σ H xs us Q I r h;obtain⟨l,as,ys,rfl,hl,cG,hp,nd,rg,h3,q⟩:=h;obtain⟨u1,rfl,r1⟩:=r.one;obtain rfl:u1=Value.ref l:=r1;obtain⟨its,rv,pl,hz⟩:=I.list hl;have e:=BY rv;subst e;have hpi:jw s.heap (as.map Value.ref) ys:=⟨by rw[aV,cG],fun i v hv=>by
  rw[bv] at hv;cases ea:as[i]? with
  |none=>rw[ea] at hv;cases hv
  |some a=>
   rw[ea] at hv;obtain rfl:Value.ref a=v:=bi hv;have hi:i<as.length:=(cQ.mp ea).1;obtain⟨o,n,t,u,e1,c,d⟩:=Ae I (hp i (by lia));have eg:as.getD i 0=a:=by rw[cg,ea];rfl
   rw[eg] at e1;exact⟨a,o,n,t,u,rfl,e1,c,d⟩⟩
 have Dw:∀led,∃q:Array Int×SetTable,v8 led (ys.map (eY X.prog X.w))=some q/\q.1.size=ys.length:=fun led=>
  let ⟨hs,t,e,z⟩:=xD (P:=X.prog) (w:=X.w) led nd rg h3;⟨(hs,t),e,z⟩
 refine F4 (I.ok.hd hc) hu pl.isList hpi (hsN:=fun led=>(Dw led).choose.1) (tN:=fun led=>(Dw led).choose.2) (fun led=>(Dw led).choose_spec.1) fun led h' tk S' k=>?_;refine⟨.ref s.heap.objs.size,_,I.xy (t':=tk) (o:=J5 s.heap.objs.size ys.length) (fun b u e=>k b u (aM e) e) (re (aW _)) ⟨⟨_,_,S',(Dw led).choose_spec.2⟩,?_,fun h1 h2 ⟨hs,t,⟨o,es,ep,q1,q2⟩,z⟩ kk=>⟨hs,t,⟨o,es,ep,kk o q1,q2⟩,z⟩⟩,rfl,q _ I.fresh⟩;obtain⟨o,_,_,q1,_⟩:=S';exact⟨o,q1⟩
theorem xE:gb X (.builtin "len") (fun xs H Q=>∃D n,xs=[.ref D]/\H D=some (J5 D n)/\n<=4096/\Q (.int n) H):=by
 intro ae s σ H xs us Q I r h;obtain⟨D,n,rfl,e,hn,q⟩:=h;obtain⟨u1,rfl,r1⟩:=r.one;obtain rfl:u1=Value.ref D:=r1;obtain⟨⟨hs,t,⟨o,es,ep,q1,q2,q3,q4,q5,q6⟩,z⟩,_⟩:=(show bX X.prog X.w H s.heap D (J5 D n) from I.bU D _ e)
 have hsz:es.size=n:=by rw[<-z,<-q5,iP]
 exact call_len_set q1 ⟨q2,q3.1,q3.2⟩ q4 q6 (by rw[hsz];lia) ⟨.int n,H,I.tok _,⟨_,by rw[hsz]⟩,q⟩
theorem p7:gb X (.type "range") (fun xs H Q=>∃n,xs=[.int n]/\∀p,H p=none->Q (.ref p) (upd H p (.Bi 0 n))):=by
 intro ae s σ H xs us Q I r h;obtain⟨n,rfl,q⟩:=h;obtain⟨u1,rfl,t,rfl⟩:=r.one;refine call_range_1 ⟨.ref s.heap.objs.size,_,I.laid (o:=.Bi 0 n) (fun b u e=>bp _ e) (aW _) ⟨_,_,_,bR _ rfl⟩,rfl,q _ I.fresh⟩
theorem Am(hc:X.calm=true):gb X (.type "list") (fun xs H Q=>∃ (p:Addr) (n:Nat),xs=[.ref p]/\H p=some (.Bi 0 n)/\n<=1000/\∀l,H l=none->Q (.ref l) (upd H l (.lst ((List.range n).map fun (i:Nat)=>V.int i)))):=by
 intro ae s σ H xs us Q I r h;obtain⟨p,n,rfl,e,hn,q⟩:=h;obtain⟨u1,rfl,r1⟩:=r.one;obtain rfl:u1=Value.ref p:=r1;obtain⟨t,u,v,hp⟩:=(show bX X.prog X.w H s.heap p (.Bi 0 n) from I.bU p _ e)
 refine call_list_range (n:=n) (I.ok.hd hc) (show IsRange s.heap p 0 n 1 t u v from hp) (small_one (by lia) (by lia) (by lia) (by lia)) (by rw[rangeSize_one];split <;> lia) (by lia) fun h' tk cn c k g it=>?_;obtain⟨i1,i2⟩:=it;refine⟨.ref s.heap.objs.size,_,I.xy (t':=tk) (o:=.lst ((List.range n).map fun (i:Nat)=>V.int i)) (fun b u e=>k b u e) (re (aW _)) ⟨?_,cn.toList,c,?_,by simpa using g⟩,rfl,q _ I.fresh⟩
 .rw[aV,fm];exact aZ hn (by decide)
 .have go:∀ (m:Nat) (l:List Value),l.length=m->(∀ (j:Nat) v,l[j]?=some v->∃t,v=Value.int (0+(j:Int)*1) t)->aP ((List.range m).map fun (i:Nat)=>V.int i) l:=by
   intro m;induction m with
   |zero=>intro l hl _;cases l with
    |nil=>exact .nil
    |cons _ _=>cases hl
   |succ m ih=>
    intro l hl hv;have mC:l≠[]:=by intro z;rw[z] at hl;cases hl
    have el:l=l.dropLast++[l.getLast mC]:=(List.dropLast_concat_getLast mC).symm;rw[kh,dR,el];have N4:l.dropLast.length=m:=by rw[List.length_dropLast,hl];rfl
    refine aP.append (ih _ N4 fun j v hj=>hv j v ?_) (.cons ?_ .nil)
    .rw[el];have QY:j<l.dropLast.length:=(cQ.mp hj).1;rw[pT QY];exact hj
    .obtain⟨t,ht⟩:=hv m (l.getLast mC) (by
      rw[List.getLast_eq_getElem,cJ (by lia:m<l.length)];simp[hl])
     exact⟨t,by rw[ht];simp⟩
  exact go n cn.toList (by simpa using i1) fun j v hj=>i2 j v (by simpa using hj)
end
def iH(e:V->V->Bool):List V->List V->Bool
 |[],[]=>true
 |x::xs,y::ys=>e x y&&iH e xs ys
 |_,_=>false
theorem iI:∀ {xs ys:List V},xs.length=ys.length->iH e xs ys=(List.range xs.length).all fun i=>e (xs.getD i .bA) (ys.getD i .bA)
 |[],[],_=>rfl
 |x::xs,y::ys,h=>by
  have h':xs.length=ys.length:=by simpa using h
  rw[iH,iI h',cD,vj,vM,List.all_map];rfl
 |[],_::_,h=>by simp at h
 |_::_,[],h=>by simp at h
theorem pC:∀ {xs ys:List V},xs.length≠ys.length->iH e xs ys=false
 |[],[],h=>absurd rfl h
 |x::xs,y::ys,h=>by
  have h':xs.length≠ys.length:=fun z=>h (by simp[z]);rw[iH,pC h',Bool.and_false]
 |[],_::_,_=>rfl
 |_::_,[],_=>rfl
section
variable {X:Cx}
def Ss(X:Cx)(H:Hp)(e:V->V->Bool)(x y:V):Prop:=∀ (ae:List (Addr×Obj)) (s:Shared) (σ:St) (A:Around) (u v:Value),aE X ae σ H s->A.units+1<cLine->bn x u->bn y v->SeqAt.EqAt A s u v (e x y)
def Su(X:Cx)(Jd:Bool)(e:V->V->Bool):R2:=fun x y H Q=>∃p q xs ys,x=.ref p/\y=.ref q/\bh X.K H p xs/\bh X.K H q ys/\(∀i,i<xs.length->i<ys.length->Ss X H e (xs.getD i .bA) (ys.getD i .bA))/\Q (.bl (if Jd then !iH e xs ys else iH e xs ys)) H
theorem xF(I:aE X ae σ H s)(hu:A.units+1<cLine)(rx:aP xs us)(ry:aP ys vs)(he:∀i,i<xs.length->i<ys.length->Ss X H e (xs.getD i .bA) (ys.getD i .bA)):∀j (h1:j<us.toArray.size) (h2:j<vs.toArray.size),SeqAt.EqAt A s us.toArray[j] vs.toArray[j] (e (xs.getD j .bA) (ys.getD j .bA)):=by
 intro j h1 h2;have j1:j<xs.length:=by rw[rx.length];simpa using h1
 have j2:j<ys.length:=by rw[ry.length];simpa using h2
 have e1:xs[j]?=some (xs.getD j .bA):=by rw[cg,cJ j1];rfl
 have e2:ys[j]?=some (ys.getD j .bA):=by rw[cg,cJ j2];rfl
 obtain⟨u,sq,ru⟩:=rx.get e1;obtain⟨v,Oa,rv⟩:=ry.get e2;have eu:us.toArray[j]=u:=by
  have:us[j]?=some us.toArray[j]:=by simp at h1 |-
  rw[sq] at this;exact(bi this).symm
 have ev:vs.toArray[j]=v:=by
  have:vs[j]?=some vs.toArray[j]:=by simp at h2 |-
  rw[Oa] at this;exact(bi this).symm
 rw[eu,ev];exact he j j1 j2 ae s σ A u v I hu ru rv
theorem Ob{e:V->V->Bool}(hu:X.A.units+2<cLine):lH X (compareOp .NotEq) (Su X true e):=by
 intro ae s σ H x y v u Q I rx ry h;obtain⟨p,q,xs,ys,rfl,rfl,hp,hq,he,k⟩:=h;obtain rfl:v=Value.ref p:=rx;obtain rfl:u=Value.ref q:=ry;obtain⟨us,r1,p1,_⟩:=I.list hp;obtain⟨vs,r2,p2,_⟩:=I.list hq;by_cases hl:xs.length=ys.length
 .refine SeqAt.RcNeAt.lists (e:=fun i=>e (xs.getD i .bA) (ys.getD i .bA)) p1.isList p2.isList (by simp only[cC];rw[<-r1.length,<-r2.length];exact hl) (by lia) (xF I (by show X.A.units+1+1<cLine;lia) r1 r2 he) _ _ _ _ ⟨.bl _,H,I,rfl,?_⟩;rw[show us.toArray.size=xs.length by rw[cC,r1.length],<-iI hl];exact k
 .refine SeqAt.RcNeAt.lists_lengths p1.isList p2.isList (by simp only[cC];rw[<-r1.length,<-r2.length];simpa using hl) (by lia) _ _ _ _ ⟨.bl _,H,I,rfl,?_⟩;have k':=k;rw[pC hl] at k';exact k'
theorem Oc(hu:X.A.units+2<cLine):lH X (compareOp .Eq) (Su X false e):=by
 intro ae s σ H x y v u Q I rx ry h;obtain⟨p,q,xs,ys,rfl,rfl,hp,hq,he,k⟩:=h;obtain rfl:v=Value.ref p:=rx;obtain rfl:u=Value.ref q:=ry;obtain⟨us,r1,p1,_⟩:=I.list hp;obtain⟨vs,r2,p2,_⟩:=I.list hq;by_cases hl:xs.length=ys.length
 .refine SeqAt.eq_listAt (e:=fun i=>e (xs.getD i .bA) (ys.getD i .bA)) p1.isList p2.isList (by simp only[cC];rw[<-r1.length,<-r2.length];exact hl) (by lia) (xF I (by show X.A.units+1+1<cLine;lia) r1 r2 he) ⟨.bl _,H,I,rfl,?_⟩;rw[show us.toArray.size=xs.length by rw[cC,r1.length],<-iI hl];exact k
 .refine SeqAt.eq_list_lengthsAt p1.isList p2.isList (by simp only[cC];rw[<-r1.length,<-r2.length];simpa using hl) (by lia) ⟨.bl _,H,I,rfl,?_⟩;have k':=k;rw[pC hl] at k';exact k'
theorem DB(hc:X.calm=true):gb X (.builtin "any") (fun xs H Q=>∃ (p:Addr) (bs:List Bool),xs=[.ref p]/\bh X.K H p (bs.map V.bl)/\Q (.bl (bs.any id)) H):=by
 intro ae s σ H xs us Q I r h;obtain⟨p,bs,rfl,hp,q⟩:=h;obtain⟨u1,rfl,r1⟩:=r.one;obtain rfl:u1=Value.ref p:=r1;obtain⟨its,rv,pl,hz⟩:=I.list hp;have Od:its=bs.map Value.bool:=by
  have go:∀ (bs:List Bool) (its:List Value),aP (bs.map V.bl) its->its=bs.map Value.bool:=by
   intro bs;induction bs with
   |nil=>intro its r;cases r;rfl
   |cons b bs ih=>
    intro its r;cases r with
    |cons r rr=>
     obtain rfl:=(show _=Value.bool b from r)
     rw[ih _ rr];rfl
  exact go bs its rv
 subst Od;obtain⟨ob,hob,_⟩:=id pl.isList;have df:p<s.heap.objs.size:=aM hob;refine call_any_walk (vD pl.isList ⟨s.heap.objs.size,_,_,_,_,_,fun i=>bs.getD i false,rfl,Walks.list (show X.A.in1.handled=none from I.ok.hd hc) _ p (aT df) _,⟨⟨_,bR _ rfl,rfl,rfl⟩,pl.isList.push _⟩,fun i v s1 Q' E' hv hq=>?_,fun h' tk k=>?_⟩)
 .have NE:(bs.map Value.bool)[i]?=some v:=by simpa using hv
  rw[bv] at NE;cases eb:bs[i]? with
  |none=>rw[eb] at NE;cases NE
  |some b=>
   rw[eb] at NE;obtain rfl:Value.bool b=v:=bi NE;have:bs.getD i false=b:=by rw[cg,eb];rfl
   have NG:Q' b s1:=by rw[<-this];exact hq
   exact wpAny_pure NG
 .have keep:∀b o,s.heap.get? b=some o->h'.get? b=some o:=fun b o e=>k b o (by simpa using aT (aM e)) (bp _ e);refine⟨.bl (bs.any id),H,I.kept (t':=tk) keep,?_,q⟩;show Value.bool _=Value.bool _;congr 1;have go:∀ (bs:List Bool),((List.range bs.length).any fun i=>bs.getD i false)=bs.any id:=by
   intro bs;induction bs with
   |nil=>rfl
   |cons b bs ih=>
    rw[cD,vj,kl,List.any_map,kl,<-ih];rfl
  rw[<-go bs];simp
end
def uH(c:Addr)(qual:Str):HO:=.ext fun h=>h.CodeRec (.ref c) qual
theorem Ge(x:h.CodeRec (.ref c) qual):bX P w H h c (uH c qual):=by
 refine⟨x,?_,?_⟩
 .obtain⟨c',o,vs,t,e,ho,_⟩:=x;cases e;exact⟨o,ho⟩
 .rintro h1 h2 ⟨c',o,vs,t,e,ho,r⟩ k;cases e;exact⟨c,o,vs,t,rfl,k o ho,r⟩
def Mu(f:Addr)(qual:Str)(params:Arguments)(body:Expr)(scope:Scope)(cells:List (Str×Addr))(c:Addr)(h:Heap):Prop:=
 ∃ (kO:List (Str×Addr)) (pm BZ:Value),(∀x a,kO.lookup x=some a->cells.lookup x=some a)/\(∀x,(x,NameKind.free)∈scope.names->∃a,kO.lookup x=some a)/\
  h.get? f=some (PySem.W.kla_obj "<lambda>" qual params body scope kO pm c BZ)
def An(f:Addr)(qual:Str)(params:Arguments)(body:Expr)(scope:Scope)(cells:List (Str×Addr))(c:Addr):HO:=.ext (Mu f qual params body scope cells c)
theorem B0(x:Mu f qual params body scope cells c h):
  bX P w H h f (An f qual params body scope cells c):=by
 refine⟨x,?_,?_⟩
 .obtain⟨_,_,_,_,_,e⟩:=x;exact⟨_,e⟩
 .rintro h1 h2 ⟨kO,pm,BZ,a,b,e⟩ k;exact⟨kO,pm,BZ,a,b,k _ e⟩
def nR(lp:Pos)(qual:Str)(P:Addr)(H:Hp):Prop:=H P=some (.on #[])\/∃c,H P=some (.on #[rawInt lp.line,rawInt lp.col,.ref c])/\H c=some (uH c qual)
structure J6(X:Cx)(c P:Addr):Prop where
 code:X.env.code=.ref c
 hd:PySem.W.CodeHd X.base c P
 bm:∃bm o,X.mg "__builtins__"=some (.ref bm)/\bm≠builtinsNs/\bm≠mainGlobals/\X.base.get? bm=some o/\o.cls=.type "module"/\o.dict=some builtinsNs/\o.data=.plain
def Xj(lp:Pos)(qual:Str)(P:Addr)(params:Arguments)(body:Expr)(scope:Scope)(cells:List (Str×Addr)):TE:=fun _ H Q=>nR lp qual P H/\
 ∀ (f c:Addr) (H2:Hp),nR lp qual P H2->(∀b o,H b=some o->b≠P->H2 b=some o)->H2 c=some (uH c qual)->H2 f=some (An f qual params body scope cells c)->Q (.ref f) H2
theorem xG{lp:Pos}{c:Addr}:TriplesOk (#[rawInt lp.line,rawInt lp.col,.ref c]:Array Value).toList:=trivial
theorem DC:codeAmong lp (#[rawInt lp.line,rawInt lp.col,.ref c]:Array Value).toList=some (.ref c):=by
 show (if ((lp.line:Int)==(lp.line:Int)&&(lp.col:Int)==(lp.col:Int))=true then some (Value.ref c) else _)=_;simp
section
variable {X:Cx} {c P:Addr} {params:Arguments} {body:Expr} {scope:Scope} {lp:Pos} {NB:List Str} {src:List (Option Nat)}
theorem J6.at(C:J6 X c P)(I:aE X ae σ H s)(hP:H P=some (.on ps)):s.heap.BuiltinsAt X.mg P:=by
 obtain⟨bm,o,b1,b2,b3,b4,b5,b6,b7⟩:=C.bm;refine⟨bm,o,b1,b2,b3,fun z=>?_,I.bk _ _ b4,b5,b6,b7⟩;have:=(I.bs _ _ b4).2;rw[z,hP] at this;cases this
theorem aE.Mv(I:aE X ae σ H s):s.heap.Ns mainGlobals X.mg:=I.mod.glob.keeps I.bk
theorem Oe(C:J6 X c P)(S:eE NB src scope X)(Xk:defaultsOf params X.env=([],[]):=by rfl):PE X (.Lambda params body scope lp) (Xj lp (X.env.qual++"<lambda>") P params body scope X.env.cells):=by
 intro ae s σ H Q I h;obtain⟨tab,h⟩:=h;obtain⟨kO,ecl,c1,c2⟩:=ii I.ok S;refine PySem.W.kla_eval Xk ?_;have hsz:∀b o,s.heap.get? b=some o->b<s.heap.objs.size:=fun b o e=>aM e;rcases tab with hP|⟨c',hP,Nq⟩
 .-- the first time
  have Sv:s.heap.get? P=some (PySem.W.tabObj #[]):=I.bU P _ hP;have hPL:X.env.locals≠P:=fun z=>by have f:=I.free;rw[z,hP] at f;cases f
  have hPg:mainGlobals≠P:=fun z=>by
   obtain⟨o,es,ep,e,d,_⟩:=I.mod.glob;have:=(I.bs _ _ e).2;rw[z,hP] at this;cases this
  refine PySem.W.kla_makeFunction (mg:=X.mg) ecl I.ok.glob I.Mv C.code (C.hd.keeps I.bk) Sv (by trivial) rfl hPg (C.at I hP) fun c' BZ h' tk hx J7 df Xl htb=>?_;have J8:∀b o,b≠P->s.heap.get? b=some o->(h'.push (PySem.W.kla_obj "<lambda>" (X.env.qual++"<lambda>") params body scope kO ((X.mg "__name__").getD .none) c' BZ)).get? b=some o:=fun b o hb e=>bp _ (hx b o hb e);have hcP:c'≠P:=gj (bK (hsz _ _ Sv) J7);have hfP:h'.objs.size≠P:=gj (bK (hsz _ _ Sv) (aZ J7 (jl df)));have hfc:h'.objs.size≠c':=gj df;have nf:H h'.objs.size=none:=I.bU.fresh (by lia);have nc:H c'=none:=I.bU.fresh J7
  let H2:Hp:=upd (upd (upd H P (.on #[rawInt lp.line,rawInt lp.col,.ref c'])) c' (uH c' (X.env.qual++"<lambda>"))) h'.objs.size (An h'.objs.size (X.env.qual++"<lambda>") params body scope X.env.cells c')
  have eP:H2 P=some (.on #[rawInt lp.line,rawInt lp.col,.ref c']):=by
   show upd _ _ _ _=_;rw[al hfP.symm,al hcP.symm,ag]
  have ec:H2 c'=some (uH c' (X.env.qual++"<lambda>")):=by
   show upd _ _ _ _=_;rw[al hfc.symm,ag]
  have ef:H2 h'.objs.size=some (An h'.objs.size (X.env.qual++"<lambda>") params body scope X.env.cells c'):=ag;have eo:∀b,b≠P->b≠c'->b≠h'.objs.size->H2 b=H b:=fun b h1 h2 h3=>by
   show upd _ _ _ _=_;rw[al h3,al h2,al h1]
  have ml:∀b o,H b=some o->b≠P->H2 b=some o:=fun b o e hb=>by
   rw[eo b hb (aq e nc) (aq e nf)];exact e
  have I2:aE X ae σ H2 { s with heap:=h'.push (PySem.W.kla_obj "<lambda>" (X.env.qual++"<lambda>") params body scope kO ((X.mg "__name__").getD .none) c' BZ),toks:=tk }:=by
   refine I.step (g':=s.gens) (d':=s.drawn) (ch:=[]) (fun _ z=>absurd z (by simp)) (fun b o _ _ _ e n=>J8 b o (fun z=>by rw[z,hP] at n;cases n) e) (fun b o _ _ _ e n=>⟨o.slots,J8 b o (fun z=>by rw[z,hP] at n;cases n) e⟩)
    (fun b o _ e n=>?_) (fun b o _ e=>?_) (fun b xs e=>ml b _ e fun z=>by rw[z,hP] at e;cases e) (fun b o u e=>ml b _ e fun z=>by rw[z,hP] at e;cases e) (fun b ps e=>?_) (fun m hm=>?_) (fun b o e=>?_) I.bare
   .rw[eo b (fun z=>by rw[z,hP] at n;cases n) (aT (bK (hsz b o e) J7)) (aT (bK (hsz b o e) (aZ J7 (jl df))))];exact n
   .by_cases hb:b=P
    .exact⟨_,by rw[hb];exact bp _ htb⟩
    .exact⟨o,J8 b o hb e⟩
   .by_cases hb:b=P
    .rw[hb] at e |-;rw[hP] at e;cases e;exact⟨#[rawInt lp.line,rawInt lp.col,.ref c'],by rw[eP];simp⟩
    .exact⟨#[],by rw[ml b _ e hb];simp⟩
   .exact(hm.extBut hx hPL).push _
   .by_cases hbf:b=h'.objs.size
    .subst hbf;rw[ef] at e;cases e;exact B0 ⟨kO,_,BZ,c1,c2,bR _ rfl⟩
    .by_cases W7:b=c'
     .subst W7;rw[ec] at e;cases e;refine Ge ?_;obtain⟨c₂,oc,vs,t,e2,VD,r⟩:=Xl;exact⟨c₂,oc,vs,t,e2,bp _ VD,r⟩
     .by_cases Xm:b=P
      .subst Xm;rw[eP] at e;cases e;exact bp _ htb
      .rw[eo b Xm W7 hbf] at e;refine(I.bU b o e).oW (fun d u hd q=>J8 d u ?_ q) (fun d q=>ml d _ q fun z=>by rw[z,hP] at q;cases q) fun d xs q=>ml d _ q fun z=>by rw[z,hP] at q;cases q
       rintro rfl;rcases hd with z|z
       .exact Xm z.symm
       .rw[hP] at z;cases z
  exact⟨.ref h'.objs.size,H2,I2,rfl,h _ c' H2 (.inr ⟨c',eP,ec⟩) ml ec ef⟩
 .-- again
  have Sv:s.heap.get? P=some (PySem.W.tabObj #[rawInt lp.line,rawInt lp.col,.ref c']):=I.bU P _ hP;refine PySem.W.kla_makeFunctionHit (mg:=X.mg) ecl I.ok.glob I.Mv C.code (C.hd.keeps I.bk) Sv xG DC (C.at I hP) fun BZ h' tk hk J7=>?_;have nf:H h'.objs.size=none:=I.bU.fresh J7
  let H2:Hp:=upd H h'.objs.size (An h'.objs.size (X.env.qual++"<lambda>") params body scope X.env.cells c')
  have ef:H2 h'.objs.size=some (An h'.objs.size (X.env.qual++"<lambda>") params body scope X.env.cells c'):=ag;have ml:∀b o,H b=some o->H2 b=some o:=fun b o e=>by
   show upd _ _ _ _=_;rw[al (aq e nf)];exact e
  have J8:∀b o,s.heap.get? b=some o->(h'.push (PySem.W.kla_obj "<lambda>" (X.env.qual++"<lambda>") params body scope kO ((X.mg "__name__").getD .none) c' BZ)).get? b=some o:=fun b o e=>bp _ (hk b o e);have I2:aE X ae σ H2 { s with heap:=h'.push (PySem.W.kla_obj "<lambda>" (X.env.qual++"<lambda>") params body scope kO ((X.mg "__name__").getD .none) c' BZ),toks:=tk }:=by
   refine I.step (g':=s.gens) (d':=s.drawn) (ch:=[]) (fun _ z=>absurd z (by simp)) (fun b o _ _ _ e n=>J8 b o e) (fun b o _ _ _ e n=>⟨o.slots,J8 b o e⟩)
    (fun b o _ e n=>?_) (fun b o _ e=>⟨o,J8 b o e⟩) (fun b xs e=>ml b _ e) (fun b o u e=>ml b _ e) (fun b ps e=>⟨#[],by rw[ml b _ e];simp⟩) (fun m hm=>(hm.keeps hk).push _) (I.bU.laid J8 J7 (B0 ⟨kO,_,BZ,c1,c2,bR _ rfl⟩)) I.bare
   .show upd _ _ _ _=_;rw[al (aT (bK (hsz b o e) J7))];exact n
  exact⟨.ref h'.objs.size,H2,I2,rfl,h _ c' H2 (.inr ⟨c',ml _ _ hP,ml _ _ Nq⟩) (fun b o e _=>ml b o e) (ml _ _ Nq) ef⟩
end
def Gg(X:Cx)(id:String)(ks:List Str)(r:St->List V->List V->Hp->VK->Prop):Prop:=
 ∀ (ae:List (Addr×Obj)) (s:Shared) (σ:St) (H:Hp) (vs zs:List V) (us ws:List Value) (Q:VK),aE X ae σ H s->aP vs us->aP zs ws->r σ vs zs H Q->
  wpAny (model X.prog X.w) X.A (call (.builtin id) us (ks.zip ws)) (EP X ae σ Q) X.xe s
def Xn(r:St->List V->List V->Hp->VK->Prop)(t tk:TA):TE:=fun σ H Q=>t σ H fun vs H1=>tk σ H1 fun zs H2=>r σ vs zs H2 Q
section
variable {X:Cx} {x:Str} {p pos:Pos} {e:Expr} {es:List Expr} {Fz:List Keyword} {t tk:TA} {id:String} {ks:List Str} {r:St->List V->List V->Hp->VK->Prop}
theorem DD(hc:Gg X id ks r)(hg:Gl X x)(hm:X.mg x=none)(hv:bootBuiltins x=some (.builtin id))(ha:PA X (e::es) t)(hkw:PK X Fz tk)(hn:x≠"__name__":=by decide)(Dm:(x==("__debug__":Str))=false:=by decide)(hks:(backToKw pos (keywordEach Fz X.env)).filterMap (·.1)=ks:=by rfl)(he:backTo pos (starEach (e::es) X.env)=(false,eval e X.env)::backTo pos (starEach es X.env):=by rfl)(z_:(backTo pos (starEach (e::es) X.env)).any (·.1)=false:=by rfl)(xv:(backToKw pos (keywordEach Fz X.env)).all (·.1.isSome)=true:=by rfl)(Do:(backToKw pos (keywordEach Fz X.env)).any (·.1.isNone)=false:=by rfl):PE X (.Call (.Name x p) (e::es) Fz pos) (Xn r t tk):=by
 intro ae s σ H Q I h;refine rn (jq I hg hm hv ?_ hn Dm);refine PyProof.Rows.callWith_kw (cj (ha pos ae s σ H _ I h) fun us s1 ⟨vs,H1,I1,r1,q1⟩=>?_) he z_ xv Do;refine cj (hkw pos ae s1 σ H1 _ I1 q1) fun ws s2 ⟨zs,H2,I2,rz,q2⟩=>?_;rw[hks];exact hc ae s2 σ H2 vs zs us ws Q I2 r1 rz q2
end
def Of(za zb:Int)(ns out:List Int):Prop:=∃ps:List (Int×Int),ps.Perm (ns.map fun z=>((z-za) % zb,z))/\out=ps.map (·.2)/\ps.Pairwise fun p q=>p.1<=q.1
def Og(X:Cx)(qual:Str)(params:Arguments)(body:Expr)(scope:Scope)(ia ib:Nat):St->List V->List V->Hp->VK->Prop:=fun σ vs zs H Q=>
 ∃ (l f c:Addr) (ns:List Int) (za zb:Int),vs=[.ref l]/\zs=[.ref f]/\bh X.K H l (ns.map V.int)/\ns.length<64/\H f=some (An f qual params body scope X.env.cells c)/\H c=some (uH c qual)/\
  σ[ia]?=some (some (.int za))/\σ[ib]?=some (some (.int zb))/\0<zb/\∀ (r:Addr) (out:List Int),H r=none->Of za zb ns out->Q (.ref r) (upd H r (.lst (out.map V.int)))
theorem uI:∀ {ns:List Int} {vs:List Value},aP (ns.map V.int) vs->IntsAre vs ns
 |[],_,.nil=>.nil
 |_::_,_,.cons ⟨t,e⟩ r=>by subst e;exact .cons _ t (uI r)
structure Sw(X:Cx)(qual:Str)(params:Arguments)(body:Expr)(scope:Scope)(y a b:Str)(ia ib:Nat):Prop where
 bd:∃p1 p2 p3 p4 p5,body=.BinOp (.BinOp (.Name y p1) .Sub (.Name a p2) p3) .Mod (.Name b p4) p5
 bind:∀kO pm c BZ v,bindArgs (PySem.W.kla_fn "<lambda>" qual params body scope kO pm (.ref c) BZ) ⟨[v],[]⟩=pure [(y,v)]
 na:X.N[ia]?=some a
 nb:X.N[ib]?=some b
 ca:X.env.scope.names.lookup a=some .cell
 cb:X.env.scope.names.lookup b=some .cell
 ly:scope.names.lookup y=some .local
 fa:scope.names.lookup a=some .free
 fb:scope.names.lookup b=some .free
 ma:(a,NameKind.free)∈scope.names
 mb:(b,NameKind.free)∈scope.names
 Oh:∀z∈scope.names,z.2≠.cell
 kind:scope.kind=.function
 co:scope.isCoroutine=false
 gen:scope.isGenerator=false
 dy:(y==("__debug__":Str))=false
 da:(a==("__debug__":Str))=false/\(a==("__classdict__":Str))=false
 db:(b==("__debug__":Str))=false/\(b==("__classdict__":Str))=false
theorem Ao(S:Sw X qual params body scope y a b ia ib)(hr:bQ k X.A):
  Gg X "sorted" ["key"] (Og X qual params body scope ia ib):=by
 intro ae s σ H vs zs us ws Q I r rz h;obtain⟨l,f,c,ns,za,zb,rfl,rfl,hl,VR,hf,hc,sa,sb,hb0,q⟩:=h;obtain⟨u1,rfl,r1⟩:=r.one;obtain rfl:u1=Value.ref l:=r1;obtain⟨w1,rfl,rw1⟩:=rz.one;obtain rfl:w1=Value.ref f:=rw1;obtain⟨its,rv,pl,hz⟩:=I.list hl;have hI:=uI rv;obtain⟨m,F⟩:=I.fr;obtain⟨p1,p2,p3,p4,p5,rfl⟩:=S.bd;obtain⟨kO,pm,BZ,c1,c2,R7⟩:=(I.bU f _ hf).1;have hcr:s.heap.CodeRec (.ref c) qual:=(I.bU c _ hc).1;obtain⟨m',VC,hlk⟩:=I.loc;have Sx:∃ca ta,kO.lookup a=some ca/\s.heap.IsCell ca (some (.int za ta)):=by
  obtain⟨u,⟨ta,rfl⟩,lk⟩:=hlk ia a (.int za) S.na sa (.inr (.inl S.ca));obtain⟨ca,e1⟩:=c2 a S.ma;rcases lk with ⟨z,_⟩|⟨_,ca',e2,e3⟩
  .have z':X.env.scope.names.lookup a=some .local:=z;rw[S.ca] at z';cases z'
  .have e4:=c1 a ca e1;rw[e2] at e4;cases e4;exact⟨ca,ta,e1,e3⟩
 have Sy:∃cb tb,kO.lookup b=some cb/\s.heap.IsCell cb (some (.int zb tb)):=by
  obtain⟨u,⟨tb,rfl⟩,lk⟩:=hlk ib b (.int zb) S.nb sb (.inr (.inl S.cb));obtain⟨cb,e1⟩:=c2 b S.mb;rcases lk with ⟨z,_⟩|⟨_,cb',e2,e3⟩
  .have z':X.env.scope.names.lookup b=some .local:=z;rw[S.cb] at z';cases z'
  .have e4:=c1 b cb e1;rw[e2] at e4;cases e4;exact⟨cb,tb,e1,e3⟩
 obtain⟨ca,ta,ea,ha⟩:=Sx;obtain⟨cb,tb,eb,hb⟩:=Sy;have VS:∀b' (o:Obj),s.heap.get? b'=some o->(∀es ep,o.data≠.dict es ep)->b'≠X.env.locals:=fun b' o e d z=>by
  obtain⟨o',es,ep,e',d',_⟩:=F.ns;rw[z,e'] at e;cases e;exact d _ _ d'
 have len:(ns.map fun z=>(z-za) % zb).length=its.length:=by rw[aV,hI.length]
 refine ksk_sorted (b:=false) (f:=.ref f) (kz:=ns.map fun z=>(z-za) % zb) F Fb pl.isList len (by rw[hI.length];exact VR) (ksk_s1 _ _) (fun x=>ksk_l1 _ _) (fun x=>ksk_t1 _ _) ?_ ?_
 .-- one key
  intro i v k hv hk h tk own F' N';have at_:∀b' u,b'≠X.env.locals->s.heap.get? b'=some u->h.get? b'=some u:=fun b' u mC e=>by
   cases z:X.base.get? b' with
   |some o=>
    have:=I.bk b' o z;rw[e] at this;cases this;exact F'.keep b' _ z
   |none=>exact(N' (b',u) (ny _ (kB mC z e))).1
  have Xo:=at_ f _ (VS f _ R7 (by intro es ep z;cases z)) R7;have Xp:h.CodeRec (.ref c) qual:=by
   obtain⟨c0,o,vs0,t0,e0,ho,hd,hv0⟩:=hcr;refine⟨c0,o,vs0,t0,e0,at_ _ _ (VS _ _ ho (by rw[hd];intro es ep z;cases z)) ho,hd,hv0⟩
  have JW:h.IsCell ca (some (.int za ta)):=by
   obtain⟨o,ho,hd⟩:=ha;exact⟨o,at_ _ _ (VS _ _ ho (by rw[hd];intro es ep z;cases z)) ho,hd⟩
  have jT:h.IsCell cb (some (.int zb tb)):=by
   obtain⟨o,ho,hd⟩:=hb;exact⟨o,at_ _ _ (VS _ _ ho (by rw[hd];intro es ep z;cases z)) ho,hd⟩
  obtain⟨z,tz,rfl,rfl⟩:∃z tz,v=.int z tz/\k=(z-za) % zb:=by
   obtain⟨n,t,e⟩:=hI.all v (cB hv);refine⟨n,t,e,?_⟩;rw[bv] at hk;have hn:=hI.nums;have e1:(its.map numOf)[i]?=some n:=by rw[bv,hv,e];rfl
   rw[hn] at e1;rw[e1] at hk;exact(bi hk).symm
  have Sz:X.A.in1.in1.depth<recursionLimit:=by
   have:=hr.dp;show X.A.depth<_;lia
  refine rL (PySem.W.kla_callFunE Sz Xo rfl S.co S.gen rfl Xp ?_);rw[S.bind];refine wpAny_pure (wpAny_newFunctionEnv S.Oh (fun x hx=>by rw[cI.mp hx];exact S.ly) (fun h₁ Ap VT=>⟨((I.ok.mod.nolimit).keeps F'.keep).fresh _ VT,?_⟩) S.kind);have SA:∀b o,h.get? b=some o->h₁.get? b=some o:=fun b o e=>VT.extBut b o (aT (aM e)) (bp _ e);have ha₁:=JW.keeps SA;have hb₁:=jT.keeps SA;refine PySem.W.kla_codeExpr ?_;refine wpAny_BinOp (wpAny_BinOp ?_);refine oR (ze S.kind S.ly Ap (v:=.int z tz) (by simp) ?_) S.dy;refine oR (zj S.kind S.fa ea ha₁ ?_ S.da.2) S.da.1;refine sub_int ?_;refine oR (zj S.kind S.fb eb hb₁ ?_ S.db.2) S.db.1;refine mod_int' (by lia) ?_;rw[yI _ (by lia)];refine KskEnd.intro (news':=jp X.base s.heap X.env.locals++own) ⟨F'.ns.keeps SA,fun b o e=>SA b o (F'.keep b o e),F'.above⟩ (fun p hp=>⟨SA _ _ (N' p hp).1,(N' p hp).2⟩) fun p hp=>hp
 .-- the list
  intro D h' tk out cc F' N' df Xq;have hD:=ub I N' df;obtain⟨ps,hp,ho,hs⟩:=Xq;have t_:∀p∈ps,∃n t,p.2=.int n t:=fun p Mp=>by
   have:=hp.mem_iff.mp Mp;exact hI.all _ (rA this).2
  have hz':((ns.map fun z=>(z-za) % zb).zip its).map (fun p=>(p.1,numOf p.2))=ns.map fun z=>((z-za) % zb,z):=by
   have hn:=hI.nums;rw[<-hn];have go:∀ (l:List Value),((((l.map numOf).map fun z=>(z-za) % zb).zip l).map fun p=>(p.1,numOf p.2))=(l.map numOf).map fun z=>((z-za) % zb,z):=by
    intro l;induction l with
    |nil=>rfl
    |cons x l ih=>simp only[eD,List.zip_cons_cons,ih]
   exact go its
  have FL:aP ((ps.map fun p=>(p.1,numOf p.2)).map (fun p=>V.int p.2)) (ps.map Prod.snd):=by
   have go:∀ (l:List (Int×Value)),(∀p∈l,∃n t,p.2=.int n t)->aP ((l.map fun p=>(p.1,numOf p.2)).map (fun p=>V.int p.2)) (l.map Prod.snd):=by
    intro l;induction l with
    |nil=>intro _;exact .nil
    |cons x l ih=>
     intro hx;refine .cons ?_ (ih fun p hp=>hx p (bL _ hp));obtain⟨n,t,e⟩:=hx x bN;show ∃t,x.2=Value.int (numOf x.2) t;rw[e];exact⟨t,rfl⟩
   exact go ps t_
  have DE:Of za zb ns ((ps.map fun p=>(p.1,numOf p.2)).map (·.2)):=by
   refine⟨ps.map fun p=>(p.1,numOf p.2),?_,rfl,?_⟩
   .rw[<-hz'];exact hp.map _
   .refine jL.mpr (hs.imp fun {p q} z=>?_);simpa using z
  have hDo:h'.get? D=some (seqObj "list" out cc):=(N' _ bN).1;have I2:aE X ae σ (upd H D (.lst (((ps.map fun p=>(p.1,numOf p.2)).map (·.2)).map V.int))) { s with heap:=h',toks:=tk }:=by
   refine I.Sg F F' (fun p hp=>N' p (bL _ hp)) hD ⟨?_,ps.map Prod.snd,cc,?_,?_⟩
   .have h1:=hp.length_eq;rw[List.length_zip,len,Nat.min_self] at h1;simp only[aV];rw[h1,hI.length];exact aZ (jl VR) (by decide)
   .have ev:=FL;simp only[fu] at ev |-;exact ev
   .rw[hDo,<-ho]
  exact⟨.ref D,_,I2,rfl,q D _ (I.bU.r_ hD) DE⟩
def wc(mg:Str->Option Value)(base:Heap):Prop:=∃bm o,mg "__builtins__"=some (.ref bm)/\bm≠builtinsNs/\bm≠mainGlobals/\base.get? bm=some o/\o.cls=.type "module"/\o.dict=some builtinsNs/\o.data=.plain
def B1(ts:List Addr)(H:Hp):Prop:=(∀P∈ts,H P=some (.on #[]))/\∀b,H b=none\/(b∈ts/\H b=some (.on #[]))\/∃o xs,H b=some (.mm o (.lst xs))
theorem DG{P:Program}{w:World}{K:PySem.W.Frag}{mg mb:Str->Option Value}{CX:xf}{k:Nat}{fa a:Addr}{fd:FuncData}{x:Str}{sp:Sp}{s₁:Shared}{vs:List Value}{ns:List Int}{ts:List Addr}(KX:K.In s₁.heap)(Ap:s₁.heap.Ns mainGlobals mg)(hb:s₁.heap.Ns builtinsNs mb)(hbb:∀x:Str,x≠"__name__"->mb x=bootBuiltins x)(Xr:s₁.heap.NoLimit)(hg:s₁.gens=#[])(hbm:wc mg s₁.heap)(SB:∀P∈ts,s₁.heap.get? P=some (PySem.W.tabObj #[]))(tK:∀P∈ts,∃c,PySem.W.codeHdIn K c P=true)(Xs:∀P∈ts,K.lookup P=none)(ha:s₁.heap.get? a=some { cls:=.type "list",data:=.seq vs.toArray })(hi:IntsAre vs ns)(hl:ns.length<=sizeLine)(hr:bQ k callerA)(F:∀base:Heap,K.In base->base.Ns mainGlobals mg->wc mg base->bj P w K mg base CX k fa fd [x] sp)(SC:∀ (s:Shared) (u:Value),BindsTo s fd ⟨[u],[]⟩ [(x,u)])(EL:∀H:Hp,B1 ts H->bh K H a (ns.map V.int)->sp [.ref a] H (fun v _=>v=.bl true) fun _ _ _=>False)(Xt:∀H e s',CX [] H s₁ (fun _ _ _=>False) e s'->False):
  codeAny (model P w) callerA (.call (.ref fa) ⟨[.ref a],[]⟩) (fun r s'=>r=.ok (.ret (.bool true))/\OldK s₁.heap s'.heap/\s'.os=s₁.os/\AllBare s'.gens) s₁:=by
 have rv:=pj hi;have Xu:=hi.length;have VU:a∉ts:=fun z=>by
  have:=SB a z;rw[ha] at this;cases this
 have SD:∀H:Hp,B1 ts H->bh K H a (ns.map V.int)->jY P w H s₁.heap->(∀b,H b≠none->b=a\/b∈ts)->(H a≠none->K.lookup a=none)->
   codeAny (model P w) callerA (.call (.ref fa) ⟨[.ref a],[]⟩) (fun r s'=>r=.ok (.ret (.bool true))/\OldK s₁.heap s'.heap/\s'.os=s₁.os/\AllBare s'.gens) s₁:=by
  intro H hO hS bU hA hK;have wd:∀ {b:Addr} {o:Obj},s₁.heap.get? b=some o->H b=none->(tV s₁.heap H).get? b=some o:=fun e n=>Fa e n;have QT:∀ {b:Addr} {o:Obj},s₁.heap.get? b=some o->(∀v n,o.data≠.seq v n)->(∀v,o.data≠.fields v)->H b=none:=fun {b o} e d1 d2=>by
   cases q:H b with
   |none=>rfl
   |some u=>
    rcases hA b (by rw[q];simp) with e'|e'
    .subst e';rw[ha] at e;cases e;exact absurd rfl (d1 _ _)
    .rw[SB b e'] at e;cases e;exact absurd rfl (d2 _)
  have VV:∀ {b:Addr} {m:Str->Option Value},s₁.heap.Ns b m->(tV s₁.heap H).Ns b m:=fun {b m} ⟨o,es,ep,e,d,r⟩=>⟨o,es,ep,wd e (QT e (by rw[d];intro v n z;cases z) (by rw[d];intro v z;cases z)),d,r⟩
  have hKb:K.In (tV s₁.heap H):=fun b o e=>wd (KX b o e) (by
   cases q:H b with
   |none=>rfl
   |some u=>
    rcases hA b (by rw[q];simp) with e'|e'
    .subst e';rw[hK (by rw[q];simp)] at e;cases e
    .rw[Xs b e'] at e;cases e)
  have hB:wc mg (tV s₁.heap H):=by
   obtain⟨bm,o,b1,b2,b3,b4,b5,b6,b7⟩:=hbm;exact⟨bm,o,b1,b2,b3,wd b4 (QT b4 (by rw[b7];intro v n z;cases z) (by rw[b7];intro v z;cases z)),b5,b6,b7⟩
  have hM:Mod K mg (tV s₁.heap H):=⟨hKb,VV Ap,⟨mb,VV hb,hbb⟩,let ⟨mc,h1,h2⟩:=Xr;⟨mc,VV h1,h2⟩⟩
  have e0:zY P w K mg (tV s₁.heap H) callerA [] s₁ H:=⟨rfl,hM,fun b o e=>Ju e,rH (Dc _ _),trivial,fun b hb=>absurd (show b∈([]:List Addr) from hb) (by simp),bU,.of_eq hg⟩
  refine kn ((F _ hKb (VV Ap) hB).run callerA [] s₁ H ⟨[.ref a],[]⟩ [.ref a] [.ref a] _ _ hr e0 (SC s₁ (.ref a)) (.cons rfl .nil) (EL H hO hS)) fun r s' h=>?_;cases r with
  |error e=>exact(Xt H e s' h).elim
  |ok fl=>
   cases fl with
   |next=>exact False.elim h
   |brk=>exact False.elim h
   |cont=>exact False.elim h
   |ret u=>
    obtain⟨v,H',os,bare,un,SE,r',q⟩:=h;have q':v=.bl true:=q;subst q';obtain rfl:u=Value.bool true:=r';refine⟨rfl,⟨fun b o e=>?_,fun b o e=>un.there b o e (by simp)⟩,os,bare⟩;cases q:H b with
    |none=>exact .inl (un.keep b o e q (by intro z;exact absurd (show b∈([]:List Addr) from z) (by simp)) (by simp))
    |some u=>
     rcases hO.2 b with z|⟨zt,z⟩|⟨ob,xs,z⟩
     .rw[q] at z;cases z
     .obtain⟨more,z2⟩:=un.oY b _ z;have e1:=SB b zt;rw[e] at e1;cases e1;have e2:s'.heap.get? b=some { cls:=.none,data:=.fields (#[]++more) }:=SE b _ z2;obtain⟨c,hc⟩:=tK b zt;obtain⟨oc,vsc,_,_,_,_,_,_,_,g1,g2,g3,g4,_⟩:=PySem.W.codeHd_of_K KX hc;exact .inr (.inl ⟨⟨c,oc,vsc,g1,g2,g3,g4⟩,rfl,#[],more,rfl,e2⟩)
     .have z2:=un.oX b ob _ z;obtain⟨e1,_⟩:=bU b _ z;obtain⟨e2,_⟩:=SE b _ z2;rw[e] at e1;cases e1;exact .inl e2
 have aa0:∀ (H:Hp),(∀P∈ts,H P=some (.on #[]))->True:=fun _ _=>trivial
 classical
 cases hk:K.lookup a with
 |some o=>
  have e:=KX a o hk;rw[ha] at e;cases e;refine SD (fun b=>if b∈ts then some (.on #[]) else none) ⟨fun P hP=>ai hP,fun b=>?_⟩ (.inr ⟨_,vs.toArray,_,hk,rfl,rfl,rfl,by rw[cC,Xu];exact hl,by simpa using rv⟩) (fun b u z=>?_) (fun b z=>?_) fun z=>absurd (ap VU) z
  .by_cases hb:b∈ts
   .exact .inr (.inl ⟨hb,ai hb⟩)
   .exact .inl (ap hb)
  .by_cases hb:b∈ts
   .have z':=(ai hb).symm.trans z;cases z';exact SB b hb
   .have z':=(ap hb).symm.trans z;cases z'
  .by_cases hb:b∈ts
   .exact .inr hb
   .exact absurd (ap hb) z
 |none=>
  refine SD (fun b=>if b=a then some (.mm { cls:=.type "list",data:=.seq vs.toArray } (.lst (ns.map V.int))) else if b∈ts then some (.on #[]) else none) ⟨fun P hP=>?_,fun b=>?_⟩ (.inl (.inr ⟨{ cls:=.type "list",data:=.seq vs.toArray },ai rfl⟩)) (fun b u z=>?_) (fun b z=>?_) fun _=>hk
  .have:P≠a:=fun z=>VU (z ▸ hP);show (if P=a then _ else if P∈ts then _ else _)=_;rw[ap this,ai hP]
  .by_cases hb:b=a
   .exact .inr (.inr ⟨_,_,ai hb⟩)
   .by_cases ht:b∈ts
    .exact .inr (.inl ⟨ht,by show (if b=a then _ else if b∈ts then _ else _)=_;rw[ap hb,ai ht]⟩)
    .exact .inl (by show (if b=a then _ else if b∈ts then _ else _)=_;rw[ap hb,ap ht])
  .by_cases hb:b=a
   .have z':=(ai hb).symm.trans z;cases z';subst hb;exact⟨ha,by rw[aV];exact hl,vs,_,rv,ha⟩
   .have z1:(if b∈ts then some (HO.on #[]) else none)=some u:=(ap hb).symm.trans z;by_cases ht:b∈ts
    .rw[ai ht] at z1;cases z1;exact SB b ht
    .rw[ap ht] at z1;cases z1
  .by_cases hb:b=a
   .exact .inl hb
   .by_cases ht:b∈ts
    .exact .inr ht
    .exact absurd (by show (if b=a then _ else if b∈ts then _ else _)=_;rw[ap hb,ap ht]) z
theorem Gh{l:PySem.W.OpenLaw}{n k:Nat}{q:Program}{uB:List Str}{XP:(Str->Option Value)->Heap->Prop}{YP:World->Heap->Prop}{d:DefRec}{K:Params->PySem.W.Frag}{CX:World->xf}{sp:World->Sp}{x:Str}{ts:List Addr}(hn:l.most=some n)(QS:n<=sizeLine)(R5:d.params.defaults=[])(hr:bQ k callerA)(hY:∀ (w:World) (h:Heap),YP w h->(K w.params).In h)(hT:∀ (w:World) (h:Heap),YP w h->∀P∈ts,h.get? P=some (PySem.W.tabObj #[]))(tK:∀ (w:World),∀P∈ts,∃c,PySem.W.codeHdIn (K w.params) c P=true)(Xs:∀ (w:World),∀P∈ts,(K w.params).lookup P=none)(F:∀ (w:World) (mg:Str->Option Value) (fa:Addr) (h:Heap),(K w.params).In h->h.Ns mainGlobals mg->mg d.name=some (.ref fa)->
   ∃fd:FuncData,(∀ (s:Shared) (u:Value),BindsTo s fd ⟨[u],[]⟩ [(x,u)])/\
    ∀base:Heap,(K w.params).In base->base.Ns mainGlobals mg->wc mg base->bj l.prog w (K w.params) mg base (CX w) k fa fd [x] (sp w))(EL:∀ (w:World) (H:Hp) (a:Addr) (ns:List Int),ns.length<=n->B1 ts H->bh (K w.params) H a (ns.map V.int)->sp w [.ref a] H (fun v _=>v=.bl true) fun _ _ _=>False)(Xt:∀ (w:World) (H:Hp) (s:Shared) (e:Value) (s':Shared),CX w [] H s (fun _ _ _=>False) e s'->False):
  PySem.W.WalkO q uB XP YP l.row.toRowW d [] (fun f vs=>PySem.call f vs):=by
 refine Att.xw hn R5 fun w s₀ s₁ mg mb fa o pm cd m_ a vs ns G Y ho hd aa3 R6 NS FM cG hg=>?_;have KX:=hY w _ Y;obtain⟨fd,hb,hF⟩:=F w mg fa _ KX G.T.g R6;have hB:wc mg s₁.heap:=by
  obtain⟨bm,ob,b1,b2,b3,b4,b5,b6⟩:=G.T.bmain;refine⟨bm,ob,b1,b2,fun z=>?_,b3,b4,b5,b6⟩;obtain⟨o',es,ep,e,Rt,_⟩:=G.T.g;rw[z,e] at b3;cases b3;rw[Rt] at b6;cases b6
 exact DG KX G.T.g G.T.b G.T.builtins G.T.nolimit hg hB (hT w _ Y) (tK w) (Xs w) NS FM (aZ cG QS) hr hF hb (fun H hO hS=>EL w H a ns cG hO hS) fun H e s'=>Xt w H s₁ e s'
structure Aq(K:PySem.W.Frag)(x qual:Str)(st:Stmt)(f:Addr)(fd:FuncData)(c:Addr):Prop where
 ex:∃ (oc:Value) (od:Option Addr) (kV m_ pm:Value) (an:Option Addr) (ct:Value) (xr:Array (Option Value)),
  fd=PySem.W.fnOf x qual (cZ st) (cu st) (am st) .none kV m_ pm an (.ref c) ct/\K.lookup f=some ⟨oc,od,.func fd,xr⟩/\PySem.W.codeIn K (.ref c) qual=true
 kp:PySem.W.keepIn K (.ref f)=true
theorem Aq.fun{K:PySem.W.Frag}{x qual:Str}{st:Stmt}{f:Addr}{fd:FuncData}{c:Addr}(F:Aq K x qual st f fd c):eN K x qual st f fd:=by
 obtain⟨oc,od,kV,m_,pm,an,ct,xr,e,lk,tK⟩:=F.ex;exact⟨⟨oc,od,kV,m_,pm,an,_,ct,xr,e,lk,tK⟩,F.kp⟩
section
variable {P:Program} {w:World} {K:PySem.W.Frag} {mg:Str->Option Value} {base:Heap}
theorem Aq.ok{x qual:Str}{st:Stmt}{f:Addr}{fd:FuncData}{c:Addr}{N ps:List Str}{k:Nat}{sp:Sp}(F:Aq K x qual st f fd c)(S:aA N ps (am st))(len:∀vs H Q E,sp vs H Q E->vs.length=ps.length)(rX:∀ (A:Around) (outer:List Env) (s:Shared) (H:Hp) (vs:List V) (Q:VK) (E:XK),bQ k (A.deeper (envOfC qual (am st) s.heap.objs.size f (.ref c)))->sp vs H Q E->
   ∃t,yA (jv ba P w K mg base N qual (am st) f (.ref c) A outer s H E).Mi (cu st) t/\t { nx:=fun _ H'=>Q .bA H',rt:=Q } (start N vs) H):bj P w K mg base ba (k+1) f fd ps sp:=by
 obtain⟨oc,od,kV,m_,pm,an,ct,xr,rfl,lk,tK⟩:=F.ex;refine FB lk tK S len fun A outer s H vs Q E hr EL=>?_;obtain⟨t,h,q⟩:=rX A outer s H vs Q E hr EL;exact⟨t,h.Mi,q⟩
theorem J9{x qual:Str}{st:Stmt}{f c:Addr}{oc:Value}{od an:Option Addr}{xr:Array (Option Value)}{kV m_ pm ct:Value}(l:K.lookup f=some ⟨oc,od,.func (PySem.W.fnOf x qual (cZ st) (cu st) (am st) .none kV m_ pm an (.ref c) ct),xr⟩)(tK:PySem.W.codeIn K (.ref c) qual=true)(kp:PySem.W.keepIn K (.ref f)=true):Aq K x qual st f (PySem.W.fnOf x qual (cZ st) (cu st) (am st) .none kV m_ pm an (.ref c) ct) c:=⟨⟨oc,od,kV,m_,pm,an,ct,xr,rfl,l,tK⟩,kp⟩
theorem J_(kb:K.In base)(hb:wc mg base)(hc:PySem.W.codeHdIn K c P'=true):
  J6 (jv CX P w K mg base N qual scope f (.ref c) A outer s H E).Mi c P':=⟨rfl,PySem.W.codeHd_of_K kb hc,hb⟩
end
def qK(sc Xv:Scope)(y:Str×NameKind):Bool:=match y.2 with
 |.cell=>(match sc.names.lookup y.1 with|some .cell=>true|_=>false)
 |.local=>(match sc.names.lookup y.1 with|some .local=>true|_=>false)
 |.free=>(match Xv.names.lookup y.1 with|some .cell=>true|some .free=>true|_=>false)
 |_=>true
def Gi(NB:List Str)(src:List (Option Nat))(sc:Scope)(N:List Str)(i:Nat):Bool:=match NB[i]?,src[i]? with
 |some x,some (some j)=>(N[j]?==some x)&&(match sc.names.lookup x with|some .free=>true|_=>false)
 |_,_=>true
def B3(sc:Scope):Bool:=match sc.kind with|.function=>true|_=>false
def Gj(NB:List Str)(src:List (Option Nat))(sc Xv:Scope)(N:List Str):Bool:=
 B3 sc&&decide NB.Nodup&&(src.length==NB.length)&&(sc.names.all (qK sc Xv))&&(List.range NB.length).all (Gi NB src sc N)
theorem cw(h:Gj NB src sc X.env.scope X.N=true):eE NB src sc X:=by
 unfold Gj at h;simp only[fq,ji,dL,jO] at h;obtain⟨⟨⟨⟨h1,h2⟩,h3⟩,h4⟩,h5⟩:=h;refine⟨?_,h2,h3,fun y hy z=>?_,fun y hy z=>?_,fun y hy z=>?_,fun i x j e1 e2=>?_⟩
 .unfold B3 at h1;split at h1
  .assumption
  .cases h1
 .have:=h4 y hy;obtain⟨n,k⟩:=y;obtain rfl:k=.cell:=z;dsimp only[qK] at this |-;split at this
  .assumption
  .cases this
 .have:=h4 y hy;obtain⟨n,k⟩:=y;obtain rfl:k=.local:=z;dsimp only[qK] at this |-;split at this
  .assumption
  .cases this
 .have:=h4 y hy;obtain⟨n,k⟩:=y;obtain rfl:k=.free:=z;dsimp only[qK] at this |-;split at this
  .exact .inl (by assumption)
  .exact .inr (by assumption)
  .cases this
 .have hi:i<NB.length:=(cQ.mp e1).1;have:=h5 i (cU.mpr hi);unfold Gi at this;rw[e1,e2] at this;simp only[fq,dL] at this;refine⟨this.1,?_⟩;have t2:=this.2;split at t2
  .assumption
  .cases t2
theorem gX{K:PySem.W.Frag}{a D:Addr}{xs:List V}{g:TG}{tt:TT}{te:TE}{cK:Hp->Prop}{σB:St}{H0:Hp}(Pv:Nat->List V->St->Hp->Prop)(h0:Pv 0 [] σB H0)(hl:∀i ys σ H,i<=xs.length->Pv i ys σ H->bh K H a xs)(hs:∀i x ys σ H (Kt:V->St->Hp->Prop) (Kf:St->Hp->Prop),xs[i]?=some x->Pv i ys σ H->
   (∀v σ2 H4,H4 D=some (.lst ys)->ys.length<sizeLine->Pv (i+1) (ys++[v]) σ2 (upd H4 D (.lst (ys++[v])))->Kt v σ2 H4)->(∀σ2 H3,Pv (i+1) ys σ2 H3->Kf σ2 H3)->
   g x σ H fun σ2 H2=>tt σ2 H2 fun b H3=>if b=true then te σ2 H3 fun v H4=>Kt v σ2 H4 else Kf σ2 H3)(hd:∀ys σ H,Pv xs.length ys σ H->cK H):iG (Fh K a) g tt te D cK σB H0:=by
 refine⟨fun i m σ H=>m=xs.length-i/\i<=xs.length/\∃ys,Pv i ys σ H,⟨xs.length,by simp,cE _,[],h0⟩,?_⟩;rintro i m σ H ⟨rfl,hi,ys,p⟩;have q:=hl i ys σ H hi p;by_cases df:i<xs.length
 .refine .inr ⟨⟨xs,xs[i],q,by simp[df]⟩,?_⟩;rintro x H' ⟨rfl,y⟩;exact hs i x ys σ _ (fun v σ2 H4=>∃ys,H4 D=some (.lst ys)/\ys.length<sizeLine/\∃m',m'<xs.length-i/\m'=xs.length-(i+1)/\i+1<=xs.length/\∃pD,Pv (i+1) pD σ2 (upd H4 D (.lst (ys++[v]))))
   (fun σ2 H3=>∃m',m'<xs.length-i/\m'=xs.length-(i+1)/\i+1<=xs.length/\∃pD,Pv (i+1) pD σ2 H3) (y xs q) p
   (fun v σ2 H4 z1 z2 z3=>⟨ys,z1,z2,_,by lia,rfl,df,_,z3⟩) (fun σ2 H3 z=>⟨_,by lia,rfl,df,_,z⟩)
 .have e:i=xs.length:=by lia
  subst e;exact .inl ⟨⟨xs,q,aW _⟩,hd ys σ H p⟩
theorem ik{lo:Int}{n:Nat}{D:Addr}{g:TG}{tt:TT}{te:TE}{cK:Hp->Prop}{σB:St}{H0:Hp}(Pv:Nat->List V->St->Hp->Prop)(h0:Pv 0 [] σB H0)(hs:∀i ys σ H (Kt:V->St->Hp->Prop) (Kf:St->Hp->Prop),i<n->Pv i ys σ H->
   (∀v σ2 H4,H4 D=some (.lst ys)->ys.length<sizeLine->Pv (i+1) (ys++[v]) σ2 (upd H4 D (.lst (ys++[v])))->Kt v σ2 H4)->(∀σ2 H3,Pv (i+1) ys σ2 H3->Kf σ2 H3)->
   g (.int (lo+i)) σ H fun σ2 H2=>tt σ2 H2 fun b H3=>if b=true then te σ2 H3 fun v H4=>Kt v σ2 H4 else Kf σ2 H3)(hd:∀ys σ H,Pv n ys σ H->cK H):iG (JD lo n) g tt te D cK σB H0:=by
 refine⟨fun i m σ H=>m=n-i/\i<=n/\∃ys,Pv i ys σ H,⟨n,by simp,cE _,[],h0⟩,?_⟩;rintro i m σ H ⟨rfl,hi,ys,p⟩;by_cases df:i<n
 .refine .inr ⟨df,?_⟩;rintro x H' ⟨rfl,rfl⟩;exact hs i ys σ _ (fun v σ2 H4=>∃ys,H4 D=some (.lst ys)/\ys.length<sizeLine/\∃m',m'<n-i/\m'=n-(i+1)/\i+1<=n/\∃pD,Pv (i+1) pD σ2 (upd H4 D (.lst (ys++[v]))))
   (fun σ2 H3=>∃m',m'<n-i/\m'=n-(i+1)/\i+1<=n/\∃pD,Pv (i+1) pD σ2 H3) df p
   (fun v σ2 H4 z1 z2 z3=>⟨ys,z1,z2,_,by lia,rfl,df,_,z3⟩) (fun σ2 H3 z=>⟨_,by lia,rfl,df,_,z⟩)
 .have e:i=n:=by lia
  subst e;exact .inl ⟨aW _,hd ys σ H p⟩
section
variable {κ:Type} [DecidableEq κ]
def iz(kvs:List (κ×V))(k:κ):Option V:=(kvs.find? fun kv=>decide (kv.1=k)).map (·.2)
def gf(kvs:List (κ×V))(k:κ)(v:V):List (κ×V):=
 if (kvs.any fun kv=>decide (kv.1=k))=true then kvs.map (fun kv=>if kv.1=k then (kv.1,v) else kv) else kvs++[(k,v)]
theorem nU{p:κ×V}{r:List (κ×V)}{k:κ}(e:p.1=k):iz (p::r) k=some p.2:=by simp[iz,jk,e]
theorem nV{p:κ×V}{r:List (κ×V)}{k:κ}(e:¬ p.1=k):iz (p::r) k=iz r k:=by simp[iz,jk,e]
theorem nW(k:κ):∀kvs:List (κ×V),(kvs.any fun kv=>decide (kv.1=k))=(iz kvs k).isSome
 |[]=>rfl
 |p::r=>by
  rw[kl];by_cases e:p.1=k
  .simp only[nU e,decide_eq_true e,Bool.true_or,Option.isSome_some]
  .rw[nV e,dP e,Bool.false_or];exact nW k r
theorem kP(kvs:List (κ×V))(k:κ)(v:V):(gf kvs k v).length<=kvs.length+1:=by
 unfold gf;split
 .rw[aV];lia
 .rw[dF,cD,List.length_nil];lia
theorem Gk{kvs:List (κ×V)}{k:κ}(v:V)(h:iz kvs k=none):gf kvs k v=kvs++[(k,v)]:=by
 unfold gf;rw[nW,h];exact ap (by decide)
theorem lG.pE(r:lG o u):o.isSome=u.isSome:=by
 cases o with
 |none=>cases u with
  |none=>rfl
  |some _=>exact(show False from r).elim
 |some _=>cases u with
  |none=>exact(show False from r).elim
  |some _=>rfl
theorem KV.val{kvs:List (κ×V)}{vs:List (κ×Value)}(r:KV kvs vs)(k:κ):lG (iz kvs k) (valueAt vs k):=by
 unfold KV at r;induction r with
 |nil=>exact True.intro
 |@cons p q ps qs h t ih=>
  obtain⟨h1,h2⟩:=h;by_cases e:p.1=k
  .have e':q.1=k:=h1.symm.trans e;have b:valueAt (q::qs) k=some q.2:=by simp[valueAt,jk,e']
   rw[nU e,b];exact h2
  .have e':¬ q.1=k:=fun z=>e (h1.trans z);have b:valueAt (q::qs) k=valueAt qs k:=by simp[valueAt,jk,e']
   rw[nV e,b];exact ih
theorem KV.any{kvs:List (κ×V)}{vs:List (κ×Value)}(r:KV kvs vs)(k:κ):(kvs.any fun kv=>decide (kv.1=k))=vs.any fun kv=>decide (kv.1=k):=by
 unfold KV at r;induction r with
 |nil=>rfl
 |cons h t ih=>rw[kl,kl,ih,h.1]
theorem KV.Oi{kvs:List (κ×V)}{vs:List (κ×Value)}(r:KV kvs vs)(k:κ){y:V}{u:Value}(ry:bn y u):
  KV (kvs.map fun kv=>if kv.1=k then (kv.1,y) else kv) (vs.map fun kv=>if kv.1=k then (kv.1,u) else kv):=by
 unfold KV at r |-;induction r with
 |nil=>exact .nil
 |@cons p q ps qs h t ih=>
  rw[eD,eD];refine .cons ?_ ih;obtain⟨h1,h2⟩:=h;by_cases e:p.1=k
  .rw[ai e,ai (h1.symm.trans e)];exact⟨h1,ry⟩
  .rw[ap e,ap (fun z=>e (h1.trans z))];exact⟨h1,h2⟩
theorem KV.put{kvs:List (κ×V)}{vs:List (κ×Value)}(r:KV kvs vs)(k:κ){y:V}{u:Value}(ry:bn y u):KV (gf kvs k y) (stored vs k u):=by
 unfold gf stored;rw[r.any k];by_cases e:(vs.any fun kv=>decide (kv.1=k))=true
 .rw[ai e,ai e];exact r.Oi k ry
 .rw[ap e,ap e];exact Paired.snoc r ⟨rfl,ry⟩
theorem KV.keys{kvs:List (κ×V)}{vs:List (κ×Value)}(r:KV kvs vs):kvs.map (·.1)=vs.map (·.1):=by
 unfold KV at r;induction r with
 |nil=>rfl
 |cons h t ih=>rw[eD,eD,ih,h.1]
theorem KV.length{kvs:List (κ×V)}{vs:List (κ×Value)}(r:KV kvs vs):kvs.length=vs.length:=Paired.length r
end
theorem xH(r:bn (kV k) u):(cX P w).is k u=true:=by
 cases k with
 |inl i=>obtain⟨t,e⟩:=(show ∃t,u=Value.int i t from r);subst e;exact xi P w i t
 |inr x=>obtain⟨t,e⟩:=(show ∃t,u=Value.str x t from r);subst e;exact xj P w x t
theorem uJ:∀ {ks:List dI} {us:List Value},aP (ks.map kV) us->ItemsAre (cX P w) ks us
 |[],_,r=>by rw[List.map_nil] at r;cases r;exact .nil
 |k::ks,_,r=>by
  rw[eD] at r;cases r with
  |cons h t=>exact .cons (xH h) (uJ t)
abbrev KT(H:Hp):List (List dI×V)->List (List dI×Addr×Value)->Prop:=Paired fun p q=>p.1=q.1/\H q.2.1=some (.tup (p.1.map kV))/\bn p.2 q.2.2
theorem KT.val{H:Hp}{kvs:List (List dI×V)}{xs:List (List dI×Addr×Value)}(r:KT H kvs xs)(k:List dI):lG (iz kvs k) ((atKey xs k).map (·.2)):=by
 induction r with
 |nil=>exact True.intro
 |@cons p q ps qs h t ih=>
  obtain⟨h1,_,h2⟩:=h;by_cases e:p.1=k
  .have e':q.1=k:=h1.symm.trans e;have b:atKey (q::qs) k=some q.2:=by simp[atKey,jk,e']
   rw[nU e,b];exact h2
  .have e':¬ q.1=k:=fun z=>e (h1.trans z);have b:atKey (q::qs) k=atKey qs k:=by simp[atKey,jk,e']
   rw[nV e,b];exact ih
theorem KT.Oi(r:KT H kvs xs)(k:List dI)(ry:bn y u):
  KT H (kvs.map fun kv=>if kv.1=k then (kv.1,y) else kv) (xs.map (putAt k u)):=by
 induction r with
 |nil=>exact .nil
 |@cons p q ps qs h t ih=>
  rw[eD,eD];refine .cons ?_ ih;obtain⟨h1,h2,h3⟩:=h;unfold putAt;by_cases e:p.1=k
  .rw[ai e,ai (h1.symm.trans e)];exact⟨h1,h2,ry⟩
  .rw[ap e,ap (fun z=>e (h1.trans z))];exact⟨h1,h2,h3⟩
theorem KT.put(r:KT H kvs xs)(k:List dI)(hb:H b=some (.tup (k.map kV)))(ry:bn y u):
  KT H (gf kvs k y) (storedH xs k b u):=by
 have e:(kvs.any fun kv=>decide (kv.1=k))=(atKey xs k).isSome:=by
  rw[nW,(r.val k).pE,Option.isSome_map]
 unfold gf storedH;rw[e];by_cases q:(atKey xs k).isSome=true
 .rw[ai q,ai q];exact r.Oi k ry
 .rw[ap q,ap q];exact Paired.snoc r ⟨rfl,hb,ry⟩
theorem KT.keeps(r:KT H kvs xs)(ht:∀b ys,H b=some (.tup ys)->H' b=some (.tup ys)):KT H' kvs xs:=
 Paired.No r fun _ _ z=>⟨z.1,ht _ _ z.2.1,z.2.2⟩
section
variable {P:Program} {w:World} {H:Hp} {h:Heap} {a:Addr}
theorem Mw(ok:jY P w H h)(e:Rd H a u):bX P w H h a u:=e.ok ok
theorem B4(ok:jY P w H h)(e:Rd H a (.dK kvs)):kvs.length<=sizeLine/\(a==sysModules)=false/\∃vs,KV kvs vs/\h.DictOf (cX P w) a vs:=
 show bX P w H h a (.dK kvs) from Mw ok e
theorem Gm{kvs:List (dI×V)}(ok:jY P w H h)(e:H a=some (.dK kvs)):kvs.length<=sizeLine/\(a==sysModules)=false/\∃vs,KV kvs vs/\h.DictOf (cX P w) a vs:=B4 ok (.inl e)
theorem mD(ok:jY P w H h)(e:H a=some (.tup (ks.map kV))):(tupleKind (cX P w)).is h ks a:=by
 obtain⟨_,its,r,o,h1,h2,n,h3,_⟩:=(show bX P w H h a (.tup (ks.map kV)) from ok a _ e)
 exact⟨o,its.toArray,n,h1,h2,h3,by simpa using uJ r⟩
theorem B5(ok:jY P w H h)(e:Rd H a (.dT kvs)):kvs.length<=sizeLine/\(a==sysModules)=false/\
  ∃xs,KT H kvs xs/\h.DictOfH (tupleKind (cX P w)) a xs:=by
 obtain⟨z,y,xs,r,o,es,ep,h1,h2,h3,h4,h5⟩:=(show bX P w H h a (.dT kvs) from Mw ok e)
 refine⟨z,y,xs,r,o,es,ep,h1,h2,h3,h4,fun x hx=>?_,h5⟩;have all:∀ {l:List (List dI×V)} {m:List (List dI×Addr×Value)},KT H l m->∀x∈m,(tupleKind (cX P w)).is h x.1 x.2.1:=by
  intro l m q;induction q with
  |nil=>intro x hx;exact nomatch hx
  |@cons p q ps qs hq t ih=>
   intro x hx;rcases a7.mp hx with e|hx
   .subst e;exact mD ok (by rw[<-hq.1];exact hq.2.1)
   .exact ih x hx
 exact all r x hx
theorem SF{kvs:List (List dI×V)}(ok:jY P w H h)(e:H a=some (.dT kvs)):kvs.length<=sizeLine/\(a==sysModules)=false/\
  ∃xs,KT H kvs xs/\h.DictOfH (tupleKind (cX P w)) a xs:=B5 ok (.inl e)
end
def qm(H:Hp)(a:Addr)(y:V)(r:Option V):Prop:=
 (∃kvs k,Rd H a (.dK kvs)/\y=kV k/\r=iz kvs k)\/∃kvs k b,Rd H a (.dT kvs)/\y=.ref b/\H b=some (.tup (k.map kV))/\r=iz kvs k
def Ar(H:Hp)(a:Addr)(y v:V)(H':Hp):Prop:=
 (∃kvs k,H a=some (.dK kvs)/\y=kV k/\kvs.length<sizeLine/\H'=upd H a (.dK (gf kvs k v)))\/
 ∃kvs k b,H a=some (.dT kvs)/\y=.ref b/\H b=some (.tup (k.map kV))/\kvs.length<sizeLine/\H'=upd H a (.dT (gf kvs k v))
theorem qm.k{H:Hp}{a:Addr}{kvs:List (dI×V)}{k:dI}(e:H a=some (.dK kvs)):qm H a (kV k) (iz kvs k):=.inl ⟨kvs,k,.inl e,rfl,rfl⟩
theorem Ar.k{H:Hp}{a:Addr}{kvs:List (dI×V)}{k:dI}{v:V}(e:H a=some (.dK kvs))(hl:kvs.length<sizeLine):Ar H a (kV k) v (upd H a (.dK (gf kvs k v))):=.inl ⟨kvs,k,e,rfl,hl,rfl⟩
section
variable {X:Cx} {ae:List (Addr×Obj)} {σ:St} {H:Hp} {s:Shared} {a:Addr} {y v:V} {u r:Value} {o:Option V} {A:Around} {E:Value->Shared->Prop}
theorem aE.big(I:aE X ae σ H s):sysModules<s.heap.objs.size:=by
 have h:mainGlobals<s.heap.objs.size:=(I.mod.glob.keeps I.bk).lt;exact vS (by decide) h
theorem DH{Q:Value->Shared->Prop}(hu:A.units+1<cLine)(I:aE X ae σ H s)(g:qm H a y (some v))(ry:bn y u)(h:∀w' s',aE X ae σ H s'->bn v w'->Q w' s'):
  wpAny (model X.prog X.w) A (getItem (.ref a) u) Q E s:=by
 rcases g with ⟨kvs,k,e,ey,l⟩|⟨kvs,k,b,e,ey,eb,l⟩
 .subst ey;obtain⟨z,hd,vs,xg,dd⟩:=B4 I.bU e;obtain⟨w',hw,Df⟩:=lG.some_of (v:=v) (o:=valueAt vs k) (by rw[l];exact xg.val k);exact wpAny_getItem_of (xH ry) dd.mapOf hw (h w' _ (I.tok _) Df)
 .subst ey;cases (show u=Value.ref b from ry);obtain⟨z,hd,xs,xg,dd⟩:=B5 I.bU e;obtain⟨w',hw,Df⟩:=lG.some_of (v:=v) (o:=(atKey xs k).map (·.2)) (by rw[l];exact xg.val k);obtain⟨p,hp,Xw⟩:=qY.mp hw;refine wpAny_getItem_heap (zw hu) (mD I.bU eb) dd hp ?_;rw[Xw];exact h w' _ (I.tok _) Df
theorem Ka{Q:Value->Shared->Prop}(hu:A.units+1<cLine)(I:aE X ae σ H s)(g:qm H a y o)(ry:bn y u)(h:∀s',aE X ae σ H s'->Q (.bool (!o.isSome)) s'):
  wpAny (model X.prog X.w) A (compareOp .NotIn u (.ref a)) Q E s:=by
 rcases g with ⟨kvs,k,e,ey,l⟩|⟨kvs,k,b,e,ey,eb,l⟩
 .subst ey;obtain⟨z,hd,vs,xg,dd⟩:=B4 I.bU e;refine wpAny_notIn_of (xH ry) hd dd.mapOf ?_;rw[<-(xg.val k).pE,<-l];exact h _ (I.tok _)
 .subst ey;cases (show u=Value.ref b from ry);obtain⟨z,hd,xs,xg,dd⟩:=B5 I.bU e;refine wpAny_notIn_heap (zw hu) (mD I.bU eb) hd dd ?_;have q:=(xg.val k).pE;rw[Option.isSome_map] at q;rw[<-q,<-l];exact h _ (I.tok _)
theorem we{h':Heap}{t':Nat}{ob:HO}(I:aE X ae σ H s)(mu:Rn (H a))(hs:Heap.SameBut a s.heap h')(he:∃q,h'.get? a=some q)(new:bX X.prog X.w (upd H a ob) h' a ob):
  aE X ae σ (upd H a ob) { s with heap:=h',toks:=t' }:=
 I.write (x:=a) (e:=a) mu (.inl rfl) (fun b q hb z=>(hs.2 b hb).trans z) he new
theorem Gn{P:Program}{w:World}{H':Hp}{h':Heap}{kvs:List (dI×V)}{vs:List (dI×Value)}(z:kvs.length<=sizeLine)(hd:(a==sysModules)=false)(xg:KV kvs vs)(dd:h'.DictOf (cX P w) a vs):
  bX P w H' h' a (.dK kvs):=⟨z,hd,vs,xg,dd⟩
theorem DI{H':Hp}{Q:Unit->Shared->Prop}(hu:A.units+1<cLine)(I:aE X ae σ H s)(g:Ar H a y v H')(ry:bn y u)(rv:bn v r)(h:∀s',aE X ae σ H' s'->Q () s'):
  wpAny (model X.prog X.w) A (setItem (.ref a) u r) Q E s:=by
 rcases g with ⟨kvs,k,e,ey,l,eH⟩|⟨kvs,k,b,e,ey,eb,l,eH⟩
 .subst ey eH;obtain⟨z,hd,vs,xg,dd⟩:=Gm I.bU e;have hz:vs.length<=sizeLine:=by rw[<-xg.length];exact z
  have hl:(gf kvs k v).length<=sizeLine:=by have:=kP kvs k v;lia
  refine wpAny_setItem_pairs (hsz:=hz) (xH ry) dd fun h' Oj hs=>h _ ?_;have he:∃q,h'.get? a=some q:=let ⟨q,_,_,hq,_⟩:=Oj;⟨q,hq⟩;exact we I (by rw[e];exact True.intro) hs he (Gn hl hd (xg.put k rv) Oj)
 .subst ey eH;cases (show u=Value.ref b from ry);obtain⟨z,hd,xs,xg,dd⟩:=SF I.bU e;have hz:xs.length<=sizeLine:=by rw[<-Paired.length xg];exact z
  have hl:(gf kvs k v).length<=sizeLine:=by have:=kP kvs k v;lia
  refine wpAny_setItem_heap (hsz:=hz) (zw hu) (mD I.bU eb) dd fun h' Oj hs=>h _ ?_;obtain⟨q,es,ep,hq,h2,h3,h4,_,h5⟩:=Oj;refine we I (by rw[e];exact True.intro) hs ⟨q,hq⟩ ⟨hl,hd,_,(xg.put k eb rv).keeps fun c ys ec=>?_,q,es,ep,hq,h2,h3,h4,h5⟩;rw[al (bG ec e (fun z=>nomatch z))];exact ec
end
section
variable {X:Cx} {ae:List (Addr×Obj)} {σ:St} {H:Hp} {s:Shared} {a:Addr} {kvs:List (dI×V)} {k:dI} {u:Value} {A:Around} {E:Value->Shared->Prop}
end
def SG(i:Expr):Prop:=∀ov iv,subscripted i false ov iv=operate [ov,iv] (getItem ov iv)
theorem Ke{prog:Program}{w:World}{A:Around}{E:Value->Shared->Prop}{s:Shared}{env:Env}{value slice:Expr}{pos:Pos}{T id:String}{Q:Value->Shared->Prop}(hl:typeLookup (.type T) "__getitem__"=pure (some (.builtin id)))(hs:SG slice)(h:wpAny (model prog w) A (eval value env) (fun o s₁=>wpAny (model prog w) A (eval slice env) (fun i s₂=>s₂.TypeIs o T/\wpAny (model prog w) A (getItem o i) Q E s₂) E s₁) E s):
  wpAny (model prog w) A (eval (.Subscript value slice pos) env) Q E s:=by
 refine Subscript_ (gs h (fun o s₁ h₁=>gs h₁ (fun i s₂ h₂=>?_) fun _ _ x=>x) fun _ _ x=>x);obtain⟨hT,h₂⟩:=h₂;unfold subscriptTail;refine aj ?_;rw[getitemInPython_of_ne hT.not_modules];refine aj (vJ hT hl ?_);have cK:wpAny (model prog w) A (subscripted slice false o i) (fun r s₃=>wpAny (model prog w) A (letTemporaryGo value o r >>= fun _=>pure r) Q E s₃) E s₂:=by
  rw[hs o i];exact wpAny_operating (gs h₂ (fun r s₃ h₃=>aj (wpAny_letTemporaryGo (wpAny_pure h₃))) fun _ _ x=>x)
 first
  |exact wpAny_pure (aj cK)
  |exact aj (wpAny_pure (aj cK))
  |exact aj cK
theorem xI{X:Cx}{ae:List (Addr×Obj)}{σ:St}{H:Hp}{s:Shared}{a:Addr}{y:V}{o:Option V}(I:aE X ae σ H s)(g:qm H a y o):s.TypeIs (.ref a) "dict":=by
 rcases g with ⟨kvs,k,e,_,_⟩|⟨kvs,k,b,e,_,_,_⟩
 .obtain⟨_,_,vs,_,dd⟩:=B4 I.bU e;exact dd.typeIs
 .obtain⟨_,_,xs,_,dd⟩:=B5 I.bU e;exact dd.typeIs
def B6(td ty:TE):TE:=fun σ H Q=>td σ H fun x H1=>ty σ H1 fun y H2=>∃a v,x=.ref a/\qm H2 a y (some v)/\Q v H2
def Kg(ty td:TE):TE:=fun σ H Q=>ty σ H fun y H1=>td σ H1 fun x H2=>∃a o,x=.ref a/\qm H2 a y o/\Q (.bl (!o.isSome)) H2
def SH(td ty tv:TE):TS:=fun D σ H=>tv σ H fun v H1=>td σ H1 fun x H2=>ty σ H2 fun y H3=>∃a H4,x=.ref a/\Ar H3 a y v H4/\D.nx σ H4
section
variable {X:Cx} {o i e value:Expr} {pos xn Dg:Pos} {td ty tv:TE}
theorem iJ(hu:X.A.units+1<cLine)(ho:PE X o td)(hi:PE X i ty)(hs:SG i):PE X (.Subscript o i pos) (B6 td ty):=by
 intro ae s σ H Q I h;refine Ke PySem.F.slot_dict_getitem.lookup hs (cj (ho ae s σ H _ I h) fun u s1 ⟨x,H1,I1,rx,q1⟩=>cj (hi ae s1 σ H1 _ I1 q1) fun iv s2 ⟨y,H2,I2,ry,a,v,ex,g,q2⟩=>?_);subst ex;obtain rfl:u=Value.ref a:=rx;exact⟨xI I2 g,DH hu I2 g ry fun w' s3 I3 Df=>⟨v,H2,I3,Df,q2⟩⟩
theorem uK(hu:X.A.units+1<cLine)(hi:PE X i ty)(ho:PE X o td):PC X .NotIn i o (Kg ty td):=by
 intro ae s σ H Q I h;refine cj (hi ae s σ H _ I h) fun iv s1 ⟨y,H1,I1,ry,q1⟩=>cj (ho ae s1 σ H1 _ I1 q1) fun u s2 ⟨x,H2,I2,rx,a,ov,ex,g,q2⟩=>?_;subst ex;obtain rfl:u=Value.ref a:=rx;exact Ka hu I2 g ry fun s3 I3=>⟨.bl (!ov.isSome),H2,I3,rfl,q2⟩
theorem B7(hu:X.A.units+1<cLine)(ho:PE X o td)(hi:PE X i ty)(hv:PE X value tv)(hs:swapsWith value (some (.Subscript o i xn)) pos.line X.env=pure false):
  PS X (.Assign [.Subscript o i xn] value pos) (SH td ty tv):=by
 intro ae s σ H D I h;refine wpAny_Assign_Subscript (cj (hv ae s σ H _ I h) fun r s1 ⟨v,H1,I1,rv,q1⟩=>cj (ho ae s1 σ H1 _ I1 q1) fun u s2 ⟨x,H2,I2,rx,q2⟩=>cj (hi ae s2 σ H2 _ I2 q2) fun iv s3 ⟨y,H3,I3,ry,a,H4,ex,g,q3⟩=>?_) hs;subst ex;obtain rfl:u=Value.ref a:=rx;exact DI hu I3 g ry rv fun s4 I4=>⟨σ,H4,I4,q3⟩
end
theorem xJ{P:Program}{w:World}{H:Hp}(h:Heap)(hb:sysModules<h.objs.size):bX P w H (h.push { cls:=.type "dict",data:=.dict #[] }) h.objs.size (.dK []):=
 ⟨cE _,l7.mpr (bE (aT hb)),[],.nil,Heap.DictOf.new h⟩
def Ol:TE:=fun _ H Q=>∀p,H p=none->Q (.ref p) (upd H p (.dK []))
section
variable {X:Cx} {pos:Pos}
theorem Gp:PE X (.Dict [] [] pos) Ol:=fun ae s σ H Q I h=>
 wpAny_Dict_empty ⟨.ref s.heap.objs.size,_,I.laid (a:=s.heap.objs.size) (o:=.dK []) (t':=s.toks) (fun _ _ q=>bp _ q) (aW _) (xJ s.heap I.big),rfl,h _ (I.bU.fresh (aW _))⟩
end
section
variable {X:Cx} {ae:List (Addr×Obj)} {σ:St} {H:Hp} {s:Shared} {a:Addr} {y d:V} {u r:Value} {o:Option V} {A:Around} {E:Value->Shared->Prop}
end
section
variable {X:Cx} {o e f:Expr} {qi qj:Pos} {td ty tx:TE}
end
section
variable {X:Cx} {ae:List (Addr×Obj)} {σ:St} {H:Hp} {s:Shared} {a:Addr} {kvs:List (dI×V)} {A:Around} {E:Value->Shared->Prop}
end
section
variable {X:Cx} {ae:List (Addr×Obj)} {σ:St} {H:Hp} {s:Shared} {a:Addr} {y:V} {u:Value} {A:Around} {E:Value->Shared->Prop}
end
section
variable {X:Cx}
end
section
variable {κ:Type} [DecidableEq κ]
theorem B8{kvs:List (κ×V)}{k:κ}{v:V}(h:iz kvs k=some v):k∈kvs.map (·.1):=by
 have q:(kvs.any fun kv=>decide (kv.1=k))=true:=by
  rw[nW,h];all_goals rfl
 obtain⟨p,hp,e⟩:=vB.mp q;exact aQ.mpr ⟨p,hp,dA e⟩
end
section
variable {X:Cx}
end
theorem aE.Kh(I:aE X ae σ H s)(fe:f_ X ae H e)(fi:f_ X ae H it)(k:∀b o,b≠e->b≠it->s.heap.get? b=some o->h'.get? b=some o)(ke:∃o,h'.get? e=some o)(ki:∃o,h'.get? it=some o)(hp:s.heap.objs.size<=p)(hl:xs.length<=sizeLine)(r:aP xs its)(ht:h'.get? p=some { cls:=.type "tuple",data:=.seq its.toArray }):aE X ae σ (upd H p (.tup xs)) { s with heap:=h',toks:=t' }:=by
 have hn:=I.bU.fresh hp;obtain⟨e0,e1,e2,e3,e4,e5⟩:=fe;obtain⟨i0,i1,i2,i3,i4,i5⟩:=fi;have ne:∀b o,s.heap.get? b=some o->b≠p:=fun b o q=>aT (bK (aM q) hp);have B9:∀b o,H b=some o->b≠e/\b≠it:=fun b o q=>⟨(fun z=>by rw[z,e0] at q;cases q),(fun z=>by rw[z,i0] at q;cases q)⟩
 refine I.step (g':=s.gens) (d':=s.drawn) (ch:=[e,it]) (fun b hb=>?_) (fun b o _ _ hb q _=>?_) (fun b o _ _ hb q _=>⟨o.slots,?_⟩) (fun b o hb q n=>by rw[al (ne b o q)];exact n) (fun b o hb q=>⟨o,?_⟩)
  (fun b ys q=>by rw[al (aq q hn)];exact q) (fun b o u q=>by rw[al (aq q hn)];exact q) (fun b ps q=>⟨#[],by rw[al (aq q hn),q];simp⟩) (fun m hm=>?_) (fun b o q=>?_) I.bare
 .rcases a7.mp hb with rfl|hb
  .exact⟨e3,e1,e4,e5⟩
  .rw[cI.mp hb];exact⟨i3,i1,i4,i5⟩
 .exact k b o (fun z=>hb (z ▸ bN)) (fun z=>hb (z ▸ bL _ bN)) q
 .exact k b o (fun z=>hb (z ▸ bN)) (fun z=>hb (z ▸ bL _ bN)) q
 .exact k b o (fun z=>hb (z ▸ bN)) (fun z=>hb (z ▸ bL _ bN)) q
 .obtain⟨o,es,ep,q,d,r'⟩:=hm;exact⟨o,es,ep,k _ _ e1.symm i1.symm q,d,r'⟩
 .by_cases hb:b=p
  .subst hb;rw[ag] at q;cases q;exact⟨hl,its,r,_,ht,rfl,_,rfl,rfl⟩
  .rw[al hb] at q;refine(I.bU b o q).oW (fun c u hc z=>k c u ?_ ?_ z) (fun c z=>by rw[al (aq z hn)];exact z) fun c ys z=>by rw[al (aq z hn)];exact z
   .rcases hc with rfl|hc
    .exact(B9 _ _ q).1
    .exact(B9 _ _ hc).1
   .rcases hc with rfl|hc
    .exact(B9 _ _ q).2
    .exact(B9 _ _ hc).2
section
variable {X:Cx}
end
section
variable {prog:Program} {w:World} {A:Around} {E:Value->Shared->Prop} {s:Shared}
theorem mE(jS:s.heap.IsTupleIter it t i)(ht:s.heap.IsTuple t xs)(hx:xs[i]?=some x)(q:∀h',h'.IsTupleIter it t (i+1)->Heap.SameBut it s.heap h'->Q x { s with heap:=h' }):wpAny (model prog w) A (Builtin.SmallTypes.nextOf (.ref it)) Q E s:=by
 obtain⟨o,h1,h2,h3⟩:=id jS;obtain⟨p,k1,_,n,k3⟩:=ht;unfold Builtin.SmallTypes.nextOf;refine aj (lN (name:=Str.ofString "__next__") jS.typeIs F.slot_tuple_iterator_next (g_ F.slot_tuple_iterator_next jS.typeIs F.entry_tuple_iterator_next ?_ (F.args_tuple_iterator_next_1 _)));change wpAny _ _ (field (.ref it) 0 >>= _) _ _ s;refine aj (dQ h1 h3 (x:=.ref t) rfl ?_);change wpAny _ _ (if (Value.ref t==Value.none)=true then _ else _) _ _ s;rw[ap (by exact bo)];change wpAny _ _ (field (.ref it) 1 >>= _) _ _ s;refine aj (dQ h1 h3 (x:=.int i 0) rfl ?_);change wpAny _ _ (seqItems? (.ref t) >>= _) _ _ s;refine aj (kj k1 k3 ?_);simp only[j9,hx];refine aj (rG h1 h3 (by simp) (wpAny_pure ⟨x,rfl,wpAny_pure (q _ ?_ (vy ..))⟩));refine⟨_,oE _ h1 (y8 (rq h3 _)),(zF ..).trans h2,?_⟩;rw[rq h3];simp[rawInt]
theorem pF(hh:A.handled=none)(jS:s.heap.IsTupleIter it t i)(ht:s.heap.IsTuple t xs)(hx:xs[i]?=none)(q:∀h' e,Heap.ExtBut it s.heap h'->(∃o,h'.get? e=some o/\o.cls=.type "StopIteration")->E (.ref e) { s with heap:=h' }):wpAny (model prog w) A (Builtin.SmallTypes.nextOf (.ref it)) Q E s:=by
 obtain⟨o,h1,h2,h3⟩:=id jS;obtain⟨p,k1,_,n,k3⟩:=ht;unfold Builtin.SmallTypes.nextOf;refine aj (lN (name:=Str.ofString "__next__") jS.typeIs F.slot_tuple_iterator_next (g_ F.slot_tuple_iterator_next jS.typeIs F.entry_tuple_iterator_next ?_ (F.args_tuple_iterator_next_1 _)));change wpAny _ _ (field (.ref it) 0 >>= _) _ _ s;refine aj (dQ h1 h3 (x:=.ref t) rfl ?_);change wpAny _ _ (if (Value.ref t==Value.none)=true then _ else _) _ _ s;rw[ap (by exact bo)];change wpAny _ _ (field (.ref it) 1 >>= _) _ _ s;refine aj (dQ h1 h3 (x:=.int i 0) rfl ?_);change wpAny _ _ (seqItems? (.ref t) >>= _) _ _ s;refine aj (kj k1 k3 ?_);simp only[j9,hx];refine aj (wpAny_rule (aj (rG h1 h3 (by simp) ?stop)));case stop=>
  change wpAny _ _ (newExc (.type "StopIteration") [] >>= _) _ _ _;refine aj ?_;simp only[newExc,newTuple];refine aj (g8 (aj (m:=firstArgMember _ _) (fz (a:=Value.none) (by simp only[firstArgMember];rfl) (g8 ?_ (by size_fits)))) (by size_fits));simp only[raiseNew];refine aj (wpAny_handled ?_);rw[show A.in1.handled=none from hh];exact aj (wpAny_pure (wpAny_throw (q _ _ (fun b u hb z=>bp _ (bp _ ((q9 _ _ (bE hb)).trans z))) ⟨_,bR _ rfl,rfl⟩)))
theorem xK(hh:A.handled=none)(it t:Addr)(mC:t≠it)(xs:Array Value):Draws prog w A it [it,t] xs.size (fun i v=>xs[i]?=some v) (fun i h=>h.IsTupleIter it t i/\h.IsTuple t xs) where
 live:=fun _ _ st=>let ⟨o,ho,_⟩:=st.1;⟨o,ho⟩
 frame:=fun _ _ _ st hk=>⟨st.1.at fun o e=>hk it (by simp) o e,let ⟨o,e,r⟩:=st.2;⟨o,hk t (by simp) o e,r⟩⟩
 item:=fun i s Q E hi st q=>by
  refine mE st.1 st.2 (x:=xs[i]) (by simp[hi]) fun h' a b=>?_;obtain⟨o,e,r⟩:=st.2;exact q _ h' s.toks (by simp[hi]) ⟨a,o,(b.2 t mC).trans e,r⟩ b
 done:=fun s Q E st q=>pF hh st.1 st.2 (by simp) q
end
theorem DJ(t:Addr)(xs:Array Value):
  Meets (Builtin.«enumerate.__new__» ⟨[.type "enumerate",.ref t],[]⟩) (fun _ R s=>s.heap.IsTuple t xs/\
   R (.ok (.ret (.ref (s.heap.push { cls:=.type "tuple_iterator",data:=.fields #[.ref t,.int 0 0] }).objs.size)))
    { s with heap:=(s.heap.push { cls:=.type "tuple_iterator",data:=.fields #[.ref t,.int 0 0] }).push { cls:=.type "enumerate",data:=.fields #[.none,.bool false,.ref s.heap.objs.size,rawInt 0,.none,.none] } }):=
 .of_wp fun prog w A R s h=>by
  obtain⟨hp,g,d,tk,os⟩:=s;obtain⟨hT,h⟩:=h;have hs:=sub_enumerate
  wp_walk
  refine wpAny_stack_any fun st=>wpAny_pure ?_;split
  .rename_i c _ _ _ _ _;cases (c==Value.type "enumerate") <;> (wp_walk using rk hT;exact⟨_,rfl,h⟩)
  .wp_walk using rk hT
   exact⟨_,rfl,h⟩
theorem As(ht:s.heap.IsTuple t xs)(h:∀h',IsEnum h' (s.heap.objs.size+1) s.heap.objs.size 0 .none->h'.IsTupleIter s.heap.objs.size t 0->(∀b o,s.heap.get? b=some o->h'.get? b=some o)->Q (.ref (s.heap.objs.size+1)) { s with heap:=h' }):
  wpAny (model prog w) A (call (.type "enumerate") [.ref t]) Q E s:=by
 refine callType_new F.called_enumerate (by decide) (F.typeCall_enumerate_1 _) (F.newCall_enumerate_1 _) (fun obj=>F.args_object_init_2 obj _) F.entry_enumerate_new (DJ t xs) ⟨ht,?_⟩;have hz:(s.heap.push { cls:=.type "tuple_iterator",data:=.fields #[.ref t,.int 0 0] }).objs.size=s.heap.objs.size+1:=hU ..;have he:IsEnum ((s.heap.push { cls:=.type "tuple_iterator",data:=.fields #[.ref t,.int 0 0] }).push
   { cls:=.type "enumerate",data:=.fields #[.none,.bool false,.ref s.heap.objs.size,rawInt 0,.none,.none] }) (s.heap.objs.size+1) s.heap.objs.size 0 .none:=by
  have q:=bR (s.heap.push { cls:=.type "tuple_iterator",data:=.fields #[.ref t,.int 0 0] }) (o:={ cls:=.type "enumerate",data:=.fields #[.none,.bool false,.ref s.heap.objs.size,rawInt 0,.none,.none] }) rfl;rw[hz] at q;exact q
 show _/\_;rw[hz];exact⟨⟨_,he,rfl⟩,h _ he ⟨_,bp _ (bR _ rfl),rfl,rfl⟩ fun b o x=>bp _ (bp _ x)⟩
def Om(K:PySem.W.Frag)(a:Addr):It:=
 ⟨fun i H=>∃xs x,bz K H a xs/\xs[i]?=some x,fun i H x H'=>∃p v,x=.ref p/\H p=none/\H'=upd H p (.tup [.int i,v])/\∀xs,bz K H a xs->xs[i]?=some v,fun i H=>∃xs,bz K H a xs/\xs.length<=i,fun _ _=>False⟩
theorem At{P:Program}{w:World}{K:PySem.W.Frag}{es:List Expr}{x1:Nat}{pos:Pos}(a e it:Addr)(mC:e≠it)(hae:a≠e)(hai:a≠it):
  qh P w K (.Tuple es x1 pos) (Om K a) [e,it] e (fun i h=>(∃ml,IsEnum h e it (i:Int) ml)/\h.IsTupleIter it a i) where
 mem:=by simp
 obj:=fun i h st b hb=>by
  obtain⟨⟨ml,he⟩,⟨o,q,c,d⟩⟩:=st;rcases a7.mp hb with rfl|hb
  .exact⟨_,he,fun v z=>by
    have z':Data.fields _=Data.cell v:=z;cases z'⟩
  .rw[cI.mp hb];exact⟨o,q,fun v z=>by rw[d] at z;cases z⟩
 keep:=fun i h h' st k=>by
  obtain⟨⟨ml,he⟩,hi⟩:=st;exact⟨⟨ml,k e (by simp) _ he⟩,hi.at fun o q=>k it (by simp) o q⟩
 item:=by
  intro X hP hw hK i ae s σ H E tX I hf st hg;subst hP hw hK;have hc:X.calm=true:=tX.elim id fun z=>(show False from z).elim;obtain⟨xs,x,hq,hx⟩:=hg;obtain⟨its,rv,p,hz⟩:=I.tuple hq;obtain⟨u,hu,ru⟩:=rv.get hx;obtain⟨⟨ml,he⟩,hi⟩:=st;have df:i<its.toArray.size:=by
   have:=(cQ.mp hu).1;simpa using this
  have D:=xK (prog:=X.prog) (w:=X.w) (A:=X.A.in1) (I.ok.hd hc) it a hai its.toArray;refine wpAny_pyNext_enum_itemD D he ⟨hi,p⟩ df mC (by simp[mC,hae.symm]) fun u' h' tk BL ho iw ht hsz k=>?_;have eu:u'=u:=by
   have h1:its.toArray[i]?=some u:=by simpa using hu
   rw[h1] at BL;exact(bi BL).symm
  subst eu;refine⟨_,rfl,wpAny_letOwnedTupleGo_enum ho fun h2 he2 tY=>?_⟩;have hpe:s.heap.objs.size≠e:=gj (aM he);have Ag:h2.IsTupleIter it a (i+1):=iw.1.at fun o q=>(tY.2 it mC.symm).trans q;have fe:=hf e (by simp);have fi:=hf it (by simp);have I2:aE X ae σ (upd H s.heap.objs.size (.tup [.int i,x])) { s with heap:=h2,toks:=tk+1 }:=by
   refine I.Kh (its:=[.int i tk,u']) fe fi (fun b o h1 h3 q=>(tY.2 b h1).trans (k b o h1 h3 q)) ⟨_,he2⟩ ?_ (aW _) (by show 2<=sizeLine;decide) (.cons ⟨_,rfl⟩ (.cons ru .nil)) ((tY.2 _ hpe).trans ht);obtain⟨o,q,_⟩:=Ag;exact⟨o,q⟩
  refine⟨.ref s.heap.objs.size,_,I2,rfl,⟨_,x,rfl,I.bU.fresh (aW _),rfl,fun ys hy=>by rw[I.fA hy hq];exact hx⟩,⟨⟨u',he2⟩,Ag⟩,fun b hb=>?_⟩;have f0:=(hf b hb).1;rw[al]
  .exact f0
  .rcases a7.mp hb with rfl|hb
   .exact hpe.symm
   .rw[cI.mp hb];obtain⟨o,q,_⟩:=hi;exact aT (aM q)
 done:=by
  intro X hP hw hK i ae s σ H E tX I hf st hg;subst hP hw hK;have hc:X.calm=true:=tX.elim id fun z=>(show False from z).elim;obtain⟨xs,hq,hx⟩:=hg;obtain⟨its,rv,p,hz⟩:=I.tuple hq;obtain⟨f0,f1,f2,f3,f4,f5⟩:=hf it (by simp);obtain⟨⟨ml,he⟩,hi⟩:=st;have hl:=rv.length;unfold pyNext;have hT:s.TypeIs (.ref e) "enumerate":=⟨_,he,rfl⟩
  refine aj (mh (lN (name:=Str.ofString "__next__") hT F.slot_enumerate_next (g_ F.slot_enumerate_next hT F.entry_enumerate_next ?_ (F.args_enumerate_next_1 _))));change wpAny _ _ (field (.ref e) 2 >>= _) _ _ _;refine aj (dQ he rfl (x:=.ref it) rfl (aj (pF (I.ok.hd hc) hi p (by simp;lia) fun h' x eb d7=>?_)));obtain⟨o,ho,Ab⟩:=d7;exact aj (rB (T:="StopIteration") (b:=true) ⟨o,ho,Ab⟩ vP (wpAny_pure ⟨rfl,I.turned (t':=s.toks) (fun b o hb e=>eb b o hb e) f0 f1 f3 f4 f5⟩))
 self:=fun _ _ _ _ _ st h=>by
  obtain⟨⟨ml,he⟩,_⟩:=st;exact wpAny_pyIter_enum he h
section
variable {X:Cx}
def On(K:PySem.W.Frag)(ta:TA):TI:=fun σ H R=>ta σ H fun vs H1=>∃a xs,vs=[.ref a]/\bz K H1 a xs/\R (Om K a) H1
theorem Gq(hg:Gl X "enumerate")(hm:X.mg "enumerate"=none)(ha:PA X [a] ta)(hs:starEach [a] X.env=[(false,eval a X.env)]:=by rfl):
  PI X (.Tuple es x1 Dg) (.Call (.Name "enumerate" p) [a] [] pos) (On X.K ta):=by
 intro ae s σ H R I h;refine Call_ (jq I hg hm (by decide +kernel:bootBuiltins "enumerate"=some (.type "enumerate")) (ow (cj (ha pos ae s σ H _ I h) fun us s1 ⟨vs,H1,I1,r1,q1⟩=>?_) hs rfl));obtain⟨l,xs,rfl,hl,q⟩:=q1;obtain⟨u1,rfl,Xx⟩:=r1.one;obtain rfl:u1=Value.ref l:=Xx;obtain⟨its,rv,pt,hz⟩:=I1.tuple hl;have df:l<s1.heap.objs.size:=by obtain⟨o,e,_⟩:=pt;exact aM e
 refine As (show s1.heap.IsTuple l its.toArray from pt) fun h' he hi k=>?_;have mC:s1.heap.objs.size+1≠s1.heap.objs.size:=Nat.succ_ne_self _;refine wpAny_pyIter_enum he ?_;have I2:aE X ae σ H1 { s1 with heap:=h' }:=I1.kept (t':=s1.toks) k;refine⟨s1.heap.objs.size+1,[s1.heap.objs.size+1,s1.heap.objs.size],_,_,H1,rfl,I2,At l _ _ mC (aT (dO df)) (aT df),⟨⟨_,he⟩,hi⟩,fun b hb=>?_,q⟩;have jT:s1.heap.objs.size<=b:=by
  rcases a7.mp hb with rfl|hb
  .exact Nat.le_succ _
  .rw[cI.mp hb];exact aW _
 exact I1.tW jT (I1.bU.fresh jT)
theorem Au{K:PySem.W.Frag}{a D:Addr}{xs:List V}{g:TG}{tt:TT}{te:TE}{cK:Hp->Prop}{σB:St}{H0:Hp}(Pv:Nat->List V->St->Hp->Prop)(h0:Pv 0 [] σB H0)(hl:∀i ys σ H,i<=xs.length->Pv i ys σ H->bz K H a xs)(hs:∀i x p ys σ H (Kt:V->St->Hp->Prop) (Kf:St->Hp->Prop),xs[i]?=some x->Pv i ys σ H->H p=none->
   (∀v σ2 H4,H4 D=some (.lst ys)->ys.length<sizeLine->Pv (i+1) (ys++[v]) σ2 (upd H4 D (.lst (ys++[v])))->Kt v σ2 H4)->(∀σ2 H3,Pv (i+1) ys σ2 H3->Kf σ2 H3)->
   g (.ref p) σ (upd H p (.tup [.int i,x])) fun σ2 H2=>tt σ2 H2 fun b H3=>if b=true then te σ2 H3 fun v H4=>Kt v σ2 H4 else Kf σ2 H3)(hd:∀ys σ H,Pv xs.length ys σ H->cK H):iG (Om K a) g tt te D cK σB H0:=by
 refine⟨fun i m σ H=>m=xs.length-i/\i<=xs.length/\∃ys,Pv i ys σ H,⟨xs.length,by simp,cE _,[],h0⟩,?_⟩;rintro i m σ H ⟨rfl,hi,ys,p⟩;have q:=hl i ys σ H hi p;by_cases df:i<xs.length
 .refine .inr ⟨⟨xs,xs[i],q,by simp[df]⟩,?_⟩;rintro x H' ⟨pp,v,rfl,hn,rfl,hv⟩;exact hs i v pp ys σ _ (fun v σ2 H4=>∃ys,H4 D=some (.lst ys)/\ys.length<sizeLine/\∃m',m'<xs.length-i/\m'=xs.length-(i+1)/\i+1<=xs.length/\∃pD,Pv (i+1) pD σ2 (upd H4 D (.lst (ys++[v]))))
   (fun σ2 H3=>∃m',m'<xs.length-i/\m'=xs.length-(i+1)/\i+1<=xs.length/\∃pD,Pv (i+1) pD σ2 H3) (hv xs q) p hn
   (fun v σ2 H4 z1 z2 z3=>⟨ys,z1,z2,_,by lia,rfl,df,_,z3⟩) (fun σ2 H3 z=>⟨_,by lia,rfl,df,_,z⟩)
 .have e:i=xs.length:=by lia
  subst e;exact .inl ⟨⟨xs,q,aW _⟩,hd ys σ H p⟩
end
theorem aE.freeze{X:Cx}{ae:List (Addr×Obj)}{σ:St}{H:Hp}{s:Shared}{d:Addr}{u:HO}{o:Obj}(I:aE X ae σ H s)(hd:H d=some u)(ho:s.heap.get? d=some o)(hu:(∀xs,u≠.tup xs)/\(∀o v,u≠.mm o v)/\(∀ps,u≠.on ps)/\(∀x,u≠.own x)):
  aE X ae σ (upd H d (.mm o u)) s:=by
 have ok:jY X.prog X.w (upd H d (.mm o u)) s.heap:=fun b v e=>by
  have st:∀ {b v},bX X.prog X.w H s.heap b v->bX X.prog X.w (upd H d (.mm o u)) s.heap b v:=fun {b v} x=>
   x.oW (fun _ _ _ q=>q) (fun c q=>by rw[al (fun z=>by rw[z,hd] at q;exact hu.2.2.2 _ (bi q))];exact q) fun c xs q=>by rw[al (fun z=>by rw[z,hd] at q;exact hu.1 _ (bi q))];exact q
  by_cases hb:b=d
  .subst hb;rw[ag] at e;cases e;exact⟨ho,st (I.bU b u hd)⟩
  .rw[al hb] at e;exact st (I.bU b v e)
 have r:=I.step (h':=s.heap) (H':=upd H d (.mm o u)) (g':=s.gens) (t':=s.toks) (d':=s.drawn) (ch:=[]) (fun _ z=>absurd z (by simp)) (fun b o' _ _ _ q _=>q) (fun b o' _ _ _ q _=>⟨o'.slots,q⟩)
  (fun b o' _ q n=>by rw[al (fun z=>by rw[z,hd] at n;cases n)];exact n) (fun b o' _ q=>⟨o',q⟩)
  (fun b xs q=>by rw[al (fun z=>by rw[z,hd] at q;exact hu.1 _ (bi q))];exact q) (fun b o' v q=>by rw[al (fun z=>by rw[z,hd] at q;exact hu.2.1 _ _ (bi q))];exact q)
  (fun b ps q=>⟨#[],by rw[al (fun z=>by rw[z,hd] at q;exact hu.2.2.1 _ (bi q)),q];simp⟩) (fun m hm=>hm) ok I.bare
 exact r
def VW(d:Addr)(o:Obj)(kvs:List (dI×V)):It:=
 ⟨fun i H=>H d=some (.mm o (.dK kvs))/\i<kvs.length,fun i H x H'=>H'=H/\∃k v,kvs[i]?=some (k,v)/\x=kV k,fun i H=>H d=some (.mm o (.dK kvs))/\kvs.length<=i,fun _ _=>False⟩
theorem Ki{P:Program}{w:World}{k:dI}{u:Value}(h:(cX P w).is k u=true):bn (kV k) u:=by
 cases k with
 |inl i=>
  have h':Value.isInt i u=true:=h;cases u <;> simp[Value.isInt] at h' <;> try exact h'.elim
  all_goals first|(subst h';exact⟨_,rfl⟩)|(rw[<-h'];exact⟨_,rfl⟩)|(rw[h'];exact⟨_,rfl⟩)
 |inr x=>
  have h':Value.isStrOf x u=true:=h;cases u <;> simp[Value.isStrOf] at h' <;> try exact h'.elim
  all_goals first|(subst h';exact⟨_,rfl⟩)|(rw[<-h'];exact⟨_,rfl⟩)|(rw[h'];exact⟨_,rfl⟩)
theorem DK{P:Program}{w:World}{K:PySem.W.Frag}{tg:Expr}(d it:Addr)(o:Obj)(kvs:List (dI×V))(es:Array DictEntry)(ep:Nat)(Kj:o.data=.dict es ep):
  qh P w K tg (VW d o kvs) [it] it (fun i h=>h.IsKeyIter it d i kvs.length ep) where
 mem:=by simp
 obj:=fun i h st b hb=>by
  have e:b=it:=by simpa using hb
  subst e;obtain⟨o,e,c,d⟩:=st;exact⟨o,e,fun v z=>by rw[d] at z;cases z⟩
 keep:=fun i h h' st k=>st.at fun o e=>k it (by simp) o e
 item:=by
  intro X hP hw hK i ae s σ H E tX I hf st hg;subst hP hw hK;have hc:X.calm=true:=tX.elim id fun z=>(show False from z).elim;obtain⟨hd,hi⟩:=hg;obtain⟨ho,z,hS,vs,kv,ob,es',QL,g1,g2,g3,g4,g5,g6⟩:=I.bU d _ hd;rw[ho] at g1;cases g1;rw[Kj] at g3;cases g3;have hm:s.heap.DictAt (cX X.prog X.w) d vs ep:=⟨o,es,ho,g2,Kj,g4,g5,g6⟩
  have cG:=kv.length;obtain⟨f0,f1,f2,f3,f4,f5⟩:=hf it (by simp);have ER:i<vs.length:=by lia
  obtain⟨⟨k,v⟩,hv⟩:∃p,vs[i]?=some p:=⟨_,cJ ER⟩
  refine wpAny_pyNext_dict_item (by rw[<-cG];exact st) hm hv fun key h' hk a_ sb=>?_;have I1:aE X ae σ H { s with heap:=h' }:=I.turned (t':=s.toks) (fun b o hb e=>(sb.2 b hb).trans e) f0 f1 f3 f4 f5;obtain⟨oi,ei,ci,di⟩:=id a_;have QZ:(kvs.map (·.1))[i]?=some k:=by rw[kv.keys,bv,hv];rfl
  obtain⟨p,hp,hpk⟩:∃p,kvs[i]?=some p/\p.1=k:=by
   rw[bv] at QZ;cases q:kvs[i]? with
   |none=>rw[q] at QZ;cases QZ
   |some p=>rw[q] at QZ;exact⟨p,rfl,bi QZ⟩
  refine⟨key,rfl,xo (s:={ s with heap:=h' }) ei ci di (by decide) ⟨kV k,H,I1,Ki hk,⟨rfl,k,p.2,by rw[hp,<-hpk],rfl⟩,by rw[cG];exact a_,fun b hb=>(hf b hb).1⟩⟩
 done:=by
  intro X hP hw hK i ae s σ H E tX I hf st hg;subst hP hw hK;have hc:X.calm=true:=tX.elim id fun z=>(show False from z).elim;obtain⟨hd,hi⟩:=hg;obtain⟨ho,z,hS,vs,kv,ob,es',QL,g1,g2,g3,g4,g5,g6⟩:=I.bU d _ hd;rw[ho] at g1;cases g1;rw[Kj] at g3;cases g3;have hm:s.heap.DictAt (cX X.prog X.w) d vs ep:=⟨o,es,ho,g2,Kj,g4,g5,g6⟩
  have cG:=kv.length;obtain⟨f0,f1,f2,f3,f4,f5⟩:=hf it (by simp);exact wpAny_pyNext_dict_end (I.ok.hd hc) (by rw[<-cG];exact st) hm (j4 (by lia)) fun h' eb=>⟨rfl,I.turned (t':=s.toks) (fun b o hb e=>eb b o hb e) f0 f1 f3 f4 f5⟩
 self:=fun _ _ _ _ _ st h=>wpAny_pyIter_keyiter st h
section
variable {X:Cx} {tg:Expr}
end
section
variable {prog:Program} {w:World} {A:Around} {E:Value->Shared->Prop} {s:Shared} {R:Result->Shared->Prop} {l d Ia:Addr}
end
section
variable {prog:Program} {w:World} {A:Around} {E:Value->Shared->Prop} {s:Shared} {l:Addr}
end
section
variable {X:Cx}
def Kk:V->List V->Hp->VK->Prop:=fun x vs H Q=>∃ (l:Addr) (ns:List Int) (z:Int),x=.ref l/\vs=[.int z]/\H l=some (.lst (ns.map V.int))/\z∈ns/\Q .bA (upd H l (.lst ((ns.eraseIdx (ns.idxOf z)).map V.int)))
theorem ints_of:∀ {ns:List Int} {its:List Value},aP (ns.map V.int) its->∀i (h:i<its.length) (h':i<ns.length),∃t,its[i]=Value.int ns[i] t
 |[],_,.nil,i,h,_=>by simp at h
 |n::ns,_,.cons ⟨t,e⟩ r,0,_,_=>⟨t,e⟩
 |n::ns,_,.cons _ r,i+1,h,h'=>ints_of r i (by simpa using h) (by simpa using h')
def isI(z:Int)(v:Value):Bool:=match v with
 |.int y _=>y==z
 |_=>false
theorem pG:MtM X "list.remove" Kk:=by
 intro ae s σ H x vs v us Q I rx rv h;obtain⟨l,ns,z,rfl,rfl,hH,hz,q⟩:=h;cases rx;obtain⟨u,rfl,ru⟩:=rv.one;obtain⟨t,rfl⟩:=ru;obtain⟨zz,its,n,r,hl,e⟩:=I.FJ hH;have cG:its.length=ns.length:=by have:=r.length;rw[aV] at this;exact this.symm
 have hj:ns.idxOf z<ns.length:=List.idxOf_lt_length_iff.mpr hz;have at_:∀i (h:i<its.length),∃t,its[i]=Value.int (ns[i]'(by lia)) t:=fun i h=>ints_of r i h (by lia);refine call_meets F.slot_list_remove ⟨_,e,rfl⟩ F.entry_list_remove (F.args_list_remove_2 _ _)
  (MeetsSeq.list_remove l its.toArray n (.int z t) (isI z) (fun y hy=>?_) (ns.idxOf z) (by simpa [cG] using hj) ?_ (fun m hm df=>?_) (by rw[cC,cG];rw[aV] at zz;exact zz)) ⟨e,?_⟩
 .obtain⟨i,hi,rfl⟩:=oC.mp (show y∈its by simpa using hy);obtain⟨t',e'⟩:=at_ i hi;rw[e'];exact MeetsSeq.EqGives.int _ _ _ _
 .obtain⟨t',e'⟩:=at_ (ns.idxOf z) (by lia);have e2:its.toArray[ns.idxOf z]'(by simpa [cG] using hj)=its[ns.idxOf z]'(by lia):=by simp
  rw[e2,e'];show (ns[ns.idxOf z]==z)=true;rw[List.getElem_idxOf];simp
 .obtain⟨t',e'⟩:=at_ m (by simpa using hm);have e2:its.toArray[m]=its[m]'(by simpa using hm):=by simp
  rw[e2,e'];show (ns[m]==z)=false;have:=List.not_of_lt_findIdx (p:=(·==z)) (xs:=ns) (i:=m) df;simpa using this
 .refine⟨.bA,_,I.R3 (its':=its.eraseIdx (ns.idxOf z)) hH e ?_ ?_ ?_,rfl,q⟩
  .show its.toArray.eraseIdxIfInBounds _=_;rw[List.eraseIdxIfInBounds_toArray]
  .have em:∀ (l:List Int) (j:Nat),(l.eraseIdx j).map V.int=(l.map V.int).eraseIdx j:=by
    intro l;induction l with
    |nil=>intro j;rfl
    |cons y l ih=>
     intro j;cases j with
     |zero=>rfl
     |succ j=>simp only[List.eraseIdx_cons_succ,eD,ih]
   rw[em];exact r.eraseIdx _
  .rw[aV,List.length_eraseIdx];rw[aV] at zz;split <;> lia
end
structure cy(P:Program)(w:World)(K:PySem.W.Frag)(mg:Str->Option Value)(base:Heap)(CX:xf)(k:Nat)(x:Str)(ps:List Str)(sp:Sp):Prop where
 ex:∃f fd,mg x=some (.ref f)/\PySem.W.keepIn K (.ref f)=true/\i6 K fd ps []/\bj P w K mg base CX k f fd ps sp
theorem aw(C:cy X.prog X.w X.K X.mg X.base CX k x ps sp)(hr:bQ k X.A)(hx:iT CX X E)(ha:PA X (e::es) t)(hg:Gl X x:=by rfl)(Dm:(x==("__debug__":Str))=false:=by decide)(he:starEach (e::es) X.env=(false,eval e X.env)::starEach es X.env:=by rfl)(uo:(backTo pos (starEach es X.env)).any (·.1)=false:=by rfl):
  PE X (.Call (.Name x p) (e::es) [] pos) (nE sp [] E t):=by
 obtain⟨f,fd,a,b,c,d⟩:=C.ex;exact JO d hr hg a b c .nil hx ha Dm he uo
theorem ao(h:H D=none):az H (upd H D o):=fun b u e=>by rw[al (aq e h)];exact e
def cz(p:Addr)(H H':Hp):Prop:=∀b o,H b=some o->b≠p->H' b=some o
theorem cz.trans(a:cz p H H1)(b:cz p H1 H2):cz p H H2:=fun c o h n=>b c o (a c o h n) n
theorem cz.upd:cz p H (upd H p o):=fun b u h n=>by rw[al n];exact h
theorem cz.of(s:az H H'):cz p H H':=fun b o h _=>s b o h
theorem cz.free(s:cz p H H')(hp:H' p≠none)(h:H' q=none):H q=none:=by
 cases z:H q with
 |none=>rfl
 |some o=>
  by_cases e:q=p
  .subst e;exact absurd h hp
  .rw[s q o z e] at h;cases h
theorem gR(h:j<n):EM n (j:Int)=some j:=by
 unfold EM;rw[ai (by lia),ai (by lia)];simp
theorem DL(h:as.length=n):(as++[t]).getD j 0=if j=n then t else as.getD j 0:=by
 rw[cg,cg];by_cases hj:j=n
 .subst hj;subst h;rw[ai rfl,oz (aW _),Nat.sub_self];rfl
 .rw[ap hj];by_cases df:j<as.length
  .rw[pT df]
  .rw[oz (by lia),j4 (by simp;lia),j4 (by lia)]
def Holds(H:Hp)(as:List Addr)(n:Nat)(o:Nat->HO):Prop:=as.length=n/\∀j,j<n->H (as.getD j 0)=some (o j)
theorem Holds.nil:Holds H [] 0 o:=⟨rfl,fun j hj=>absurd hj (by lia)⟩
theorem Holds.snoc(h:Holds H as n o)(ht:H t=some (o n)):Holds H (as++[t]) (n+1) o:=by
 refine⟨by rw[dF,h.1];rfl,fun j hj=>?_⟩;rw[DL h.1];by_cases e:j=n
 .rw[ai e,e];exact ht
 .rw[ap e];exact h.2 j (by lia)
theorem Holds.mono(h:Holds H as n o)(e:∀j,j<n->H (as.getD j 0)=some (o j)->H' (as.getD j 0)=some (o j)):Holds H' as n o:=⟨h.1,fun j hj=>e j hj (h.2 j hj)⟩
end L2
namespace PyProof.Rows
open PySem
def iK:Bool->Keyed->Array Keyed->Nat->Nat->Nat->StateT SortSt Sem (Option Nat):=sortPriv% PySem.Builtin.gallop
def su:Array Keyed->Array Keyed->StateT SortSt Sem (Array Keyed):=sortPriv% PySem.Builtin.mergeLo
def sv:Array Keyed->Array Keyed->StateT SortSt Sem (Array Keyed):=sortPriv% PySem.Builtin.mergeHi
def iV:Nat->StateT SortSt Sem Unit:=sortPriv% PySem.Builtin.setMinGallop
def xL(prog:Program)(w:World)(A:Around)(s:Shared)(κ:SortKind)(a₀:Array Keyed):Prop:=
 ∀x y,x∈a₀.toList->y∈a₀.toList->∀ (Q:Bool->Shared->Prop) (E:Value->Shared->Prop),(∀b,Q b s)->wpAny (model prog w) A (keyLt' κ x.1 y.1) Q E s
structure SQ(κ:SortKind)(a₀:Array Keyed)(pd:Array (Nat×Nat×Nat))(st:SortSt):Prop where
 perm:(arrOf st).Perm a₀
 kind:kindOf st=κ
 failed:failedOf st=none
 pend:pendingOf st=pd
section
variable {prog:Program} {w:World} {A:Around} {E:Value->Shared->Prop} {s:Shared} {κ:SortKind} {a₀:Array Keyed} {pd:Array (Nat×Nat×Nat)}
theorem SQ.size{st:SortSt}(h:SQ κ a₀ pd st):(arrOf st).size=a₀.size:=h.perm.size_eq
theorem SQ.setArr{st:SortSt}(h:SQ κ a₀ pd st){xs:Array Keyed}(hp:xs.Perm (arrOf st)):SQ κ a₀ pd (setArr st xs):=⟨hp.trans h.perm,h.kind,h.failed,h.pend⟩
theorem SQ.at{st:SortSt}(h:SQ κ a₀ pd st){i:Nat}(hi:i<a₀.size):∃p,(arrOf st)[i]?=some p/\p∈a₀.toList:=by
 have ER:i<(arrOf st).size:=by rw[h.size];exact hi
 exact⟨(arrOf st)[i],dB _ i ER,(nj.mp h.perm).mem_iff.mp (by simp)⟩
theorem sw{st:SortSt}{x y:Keyed}{Q:Option Bool->SortSt->Prop}(hC:xL prog w A s κ a₀)(hk:kindOf st=κ)(hx:x∈a₀.toList)(hy:y∈a₀.toList)(h:∀b,Q (some b) st):wpS (model prog w) A E s (lt' x y) Q st:=by
 rw[lt'_eq];refine av (h_ ?_);rw[hk];refine av (mj (mh (hC x y hx hy _ _ fun b=>⟨rfl,?_⟩)));exact aL (h b)
theorem br{st:SortSt}{arr:Array Keyed}{i:Nat}{p:Keyed}{Q:Keyed->SortSt->Prop}(hi:arr[i]?=some p)(h:Q p st):wpS (model prog w) A E s (elem' arr i) Q st:=by
 rw[elem'_eq,hi];exact aL h
theorem eZ{st:SortSt}{i j:Nat}{Q:Option Bool->SortSt->Prop}(hC:xL prog w A s κ a₀)(hB:SQ κ a₀ pd st)(hi:i<a₀.size)(hj:j<a₀.size)(h:∀b,Q (some b) st):wpS (model prog w) A E s (ltAt' i j) Q st:=by
 obtain⟨p,e1,m1⟩:=hB.at hi;obtain⟨q,e2,m2⟩:=hB.at hj;rw[ltAt'_eq];refine av (h_ ?_);exact av (br e1 (av (br e2 (sw hC hB.kind m1 m2 h))))
theorem gT{st:SortSt}{i j:Nat}{Q:Unit->SortSt->Prop}(hB:SQ κ a₀ pd st)(h:∀a_,SQ κ a₀ pd a_->Q () a_):wpS (model prog w) A E s (reverseSlice' i j) Q st:=by
 rw[reverseSlice'_eq];exact gu (h _ (hB.setArr (mirror_perm _ _ _ _)))
theorem Gr{st:SortSt}{i j:Nat}{Q:Unit->SortSt->Prop}(hB:SQ κ a₀ pd st)(h:∀a_,SQ κ a₀ pd a_->Q () a_):wpS (model prog w) A E s (moveDown' i j) Q st:=by
 rw[moveDown'_eq];exact gu (h _ (hB.setArr (bubble_perm _ _ _)))
theorem Kl{st:SortSt}{lo n ok:Nat}{Q:Bool->SortSt->Prop}(hC:xL prog w A s κ a₀)(hn:lo+n<=a₀.size)(hB:SQ κ a₀ pd st)(h:∀a_,SQ κ a₀ pd a_->Q true a_):wpS (model prog w) A E s (binarySort' lo n ok) Q st:=by
 rw[binarySort'_eq];refine av (dM (fv (I:=fun _ c a_=>c=(none,())/\SQ κ a₀ pd a_) (Q:=fun c a_=>c=(none,())/\SQ κ a₀ pd a_) ?_ (fun c a_ hh=>hh) ⟨rfl,hB⟩) ?_)
 .rintro k c a_ QZ hk2 ⟨rfl,Xy⟩;dsimp only;refine av (dM (fv (I:=fun _ c Oo=>(∃l r,c=(none,l,r)/\r<=k)/\SQ κ a₀ pd Oo) (Q:=fun c Oo=>(∃l r,c=(none,l,r)/\r<=k)/\SQ κ a₀ pd Oo) ?_ (fun c a_ hh=>hh) ⟨⟨_,_,rfl,aW _⟩,Xy⟩) ?_)
  .rintro x c oo _ _ ⟨⟨l,r,rfl,hr⟩,uc⟩;dsimp only;by_cases B_:l>=r
   .rw[ai B_];exact aL ⟨⟨_,_,rfl,hr⟩,uc⟩
   .rw[ap B_];refine av (eZ hC uc (by lia) (by lia) fun b=>?_);cases b
    .exact aL ⟨⟨_,_,rfl,hr⟩,uc⟩
    .exact aL ⟨⟨_,_,rfl,by lia⟩,uc⟩
  .rintro c oo ⟨⟨l,r,rfl,hr⟩,uc⟩;dsimp only;exact av (Gr uc fun xc qo=>aL ⟨rfl,qo⟩)
 .rintro c a_ ⟨rfl,Xy⟩;exact aL (h a_ Xy)
end
theorem Av(left:Bool)(key:Keyed)(arr:Array Keyed)(base n hint:Nat):iK left key arr base n hint=(do
 let wf (i:Nat):StateT SortSt Sem (Option Bool):=do
  let x <- elem' arr (base+i)
  if left then lt' x key else return (<-lt' key x).map (!·)
 let mut lastofs:=0
 let mut ofs:=1
 let mut lo:=0
 let mut hi:=0
 let some right <- wf hint|return none
 if right then
  let sD:=n-hint
  for _ in [0:n] do
   if ofs>=sD then break
   let some more <- wf (hint+ofs)|return none
   if !more then break
   lastofs:=ofs
   ofs:=2*ofs+1
  lo:=hint+lastofs+1
  hi:=hint+min ofs sD
 else
  let sD:=hint+1
  for _ in [0:n] do
   if ofs>=sD then break
   let some Gs <- wf (hint-ofs)|return none
   if Gs then break
   lastofs:=ofs
   ofs:=2*ofs+1
  lo:=hint+1-min ofs sD
  hi:=hint-lastofs
 for _ in [0:n] do
  if lo>=hi then break
  let m:=lo+(hi-lo) / 2
  let some more <- wf m|return none
  if more then lo:=m+1 else hi:=m
 return some hi):=rfl
section
variable {prog:Program} {w:World} {A:Around} {E:Value->Shared->Prop} {s:Shared} {κ:SortKind} {a₀:Array Keyed} {pd:Array (Nat×Nat×Nat)}
theorem il{st:SortSt}{left:Bool}{key:Keyed}{arr:Array Keyed}{j:Nat}{Q:Option Bool->SortSt->Prop}(hC:xL prog w A s κ a₀)(hk:kindOf st=κ)(nC:key∈a₀.toList)(pH:∀x∈arr.toList,x∈a₀.toList)(hj:j<arr.size)(h:∀b,Q (some b) st):
  wpS (model prog w) A E s (do
  let x <- elem' arr j
  if left then lt' x key else return (<-lt' key x).map (!·)) Q st:=by
 have hm:arr[j]∈a₀.toList:=pH _ (by simp);refine av (br (dB arr j hj) ?_);cases left
 .rw[ap (by decide)];exact av (sw hC hk nC hm fun b=>aL (h (!b)))
 .rw[ai rfl];exact sw hC hk hm nC h
theorem fG{st:SortSt}{left:Bool}{key:Keyed}{arr:Array Keyed}{base n hint:Nat}{Q:Option Nat->SortSt->Prop}(hC:xL prog w A s κ a₀)(hk:kindOf st=κ)(nC:key∈a₀.toList)(pH:∀x∈arr.toList,x∈a₀.toList)(hn:base+n<=arr.size)(hh:hint<n)(h:∀k,k<=n->Q (some k) st):wpS (model prog w) A E s (iK left key arr base n hint) Q st:=by
 rw[Av];refine av (il hC hk nC pH (by lia) fun right=>?_);cases right
 .dsimp only;rw[ap (by decide)];refine av (dM (fv (I:=fun _ c a_=>(∃l o,c=(none,l,o))/\st=a_) (Q:=fun c a_=>(∃l o,c=(none,l,o))/\st=a_) ?_ (fun c a_ hh=>hh) ⟨⟨_,_,rfl⟩,rfl⟩) ?_)
  .rintro x c a_ _ _ ⟨⟨l,o,rfl⟩,rfl⟩;dsimp only;by_cases B_:o>=hint+1
   .rw[ai B_];exact aL ⟨⟨_,_,rfl⟩,rfl⟩
   .rw[ap B_];refine av (il hC hk nC pH (by lia) fun Gs=>?_);cases Gs
    .exact aL ⟨⟨_,_,rfl⟩,rfl⟩
    .exact aL ⟨⟨_,_,rfl⟩,rfl⟩
  .rintro c a_ ⟨⟨l,o,rfl⟩,rfl⟩;dsimp only;refine av (dM (fv (I:=fun _ c a_=>(∃l u,c=(none,l,u)/\u<=n)/\st=a_) (Q:=fun c a_=>(∃l u,c=(none,l,u)/\u<=n)/\st=a_) ?_ (fun c a_ hh=>hh) ⟨⟨_,_,rfl,by lia⟩,rfl⟩) ?_)
   .rintro x c a_ _ _ ⟨⟨l,u,rfl,hu⟩,rfl⟩;dsimp only;by_cases B_:l>=u
    .rw[ai B_];exact aL ⟨⟨_,_,rfl,hu⟩,rfl⟩
    .rw[ap B_];refine av (il hC hk nC pH (by lia) fun more=>?_);cases more
     .exact aL ⟨⟨_,_,rfl,by lia⟩,rfl⟩
     .exact aL ⟨⟨_,_,rfl,hu⟩,rfl⟩
   .rintro c a_ ⟨⟨l,u,rfl,hu⟩,rfl⟩;exact aL (h u hu)
 .dsimp only;rw[ai rfl];refine av (dM (fv (I:=fun _ c a_=>(∃l o,c=(none,l,o))/\st=a_) (Q:=fun c a_=>(∃l o,c=(none,l,o))/\st=a_) ?_ (fun c a_ hh=>hh) ⟨⟨_,_,rfl⟩,rfl⟩) ?_)
  .rintro x c a_ _ _ ⟨⟨l,o,rfl⟩,rfl⟩;dsimp only;by_cases B_:o>=n-hint
   .rw[ai B_];exact aL ⟨⟨_,_,rfl⟩,rfl⟩
   .rw[ap B_];refine av (il hC hk nC pH (by lia) fun more=>?_);cases more
    .exact aL ⟨⟨_,_,rfl⟩,rfl⟩
    .exact aL ⟨⟨_,_,rfl⟩,rfl⟩
  .rintro c a_ ⟨⟨l,o,rfl⟩,rfl⟩;dsimp only;refine av (dM (fv (I:=fun _ c a_=>(∃l u,c=(none,l,u)/\u<=n)/\st=a_) (Q:=fun c a_=>(∃l u,c=(none,l,u)/\u<=n)/\st=a_) ?_ (fun c a_ hh=>hh) ⟨⟨_,_,rfl,by lia⟩,rfl⟩) ?_)
   .rintro x c a_ _ _ ⟨⟨l,u,rfl,hu⟩,rfl⟩;dsimp only;by_cases B_:l>=u
    .rw[ai B_];exact aL ⟨⟨_,_,rfl,hu⟩,rfl⟩
    .rw[ap B_];refine av (il hC hk nC pH (by lia) fun more=>?_);cases more
     .exact aL ⟨⟨_,_,rfl,by lia⟩,rfl⟩
     .exact aL ⟨⟨_,_,rfl,hu⟩,rfl⟩
   .rintro c a_ ⟨⟨l,u,rfl,hu⟩,rfl⟩;exact aL (h u hu)
end
structure SM(κ:SortKind)(ar:Array Keyed)(pd:Array (Nat×Nat×Nat))(st:SortSt):Prop where
 arr:arrOf st=ar
 kind:kindOf st=κ
 failed:failedOf st=none
 pend:pendingOf st=pd
abbrev qp:=Option (Array Keyed)
abbrev uL:=StateT SortSt Sem
def xM{τ:Type}(c:Bool)(d:Prop)[Decidable d](r:Array Keyed)(t:τ):uL (ForInStep (qp×τ)):=if c then pure (.done (some r,t)) else if d then pure (.done (none,t)) else pure (.yield (none,t))
def mgO{α β γ:Type}(N:Nat)(f:Nat->qp×α×β×γ×Nat×Nat->uL (ForInStep (qp×α×β×γ×Nat×Nat)))(g:qp×α×β×γ×Nat×Nat×Nat->uL (ForInStep (qp×α×β×γ×Nat×Nat×Nat)))(s:qp×α×β×γ×Nat):uL (ForInStep (qp×α×β×γ×Nat)):=do
 let t <- forIn [0:N] ((none,s.2.1,s.2.2.1,s.2.2.2.1,0,0):qp×α×β×γ×Nat×Nat) fun _ t=>f s.2.2.2.2 t
 match t.1 with
 |some r=>pure (.done (some r,t.2.1,t.2.2.1,t.2.2.2.1,s.2.2.2.2))
 |none=>do
  liftM (rule "list.sort.gallop")
  let u <- forIn [0:N] ((none,t.2.1,t.2.2.1,t.2.2.2.1,s.2.2.2.2+1,t.2.2.2.2.1,t.2.2.2.2.2):qp×α×β×γ×Nat×Nat×Nat) fun _ u=>g u
  match u.1 with
  |some r=>pure (.done (some r,u.2.1,u.2.2.1,u.2.2.2.1,u.2.2.2.2.1))
  |none=>do
   iV (u.2.2.2.2.1+1)
   pure (.yield (none,u.2.1,u.2.2.1,u.2.2.2.1,u.2.2.2.2.1+1))
def VX{α β γ:Type}(N:Nat)(f:Nat->qp×α×β×γ×Nat×Nat->uL (ForInStep (qp×α×β×γ×Nat×Nat)))(g:qp×α×β×γ×Nat×Nat×Nat->uL (ForInStep (qp×α×β×γ×Nat×Nat×Nat)))(x:α)(y:β)(z:γ):uL (Array Keyed):=do
 let st <- get
 let s <- forIn [0:N] ((none,x,y,z,gallopOf st):qp×α×β×γ×Nat) fun _ s=>mgO N f g s
 match s.1 with
 |some r=>pure r
 |none=>liftM (unsupported "internal:list.sort.merge-bound")
section
variable {prog:Program} {w:World} {A:Around} {E:Value->Shared->Prop} {s:Shared} {κ:SortKind} {a₀:Array Keyed} {pd:Array (Nat×Nat×Nat)} {ar:Array Keyed} {F:Array Keyed->Prop}
def GP{τ:Type}(κ:SortKind)(ar:Array Keyed)(pd:Array (Nat×Nat×Nat))(F:Array Keyed->Prop)(D J:τ->Prop)(r:ForInStep (qp×τ))(st:SortSt):Prop:=SM κ ar pd st/\
 ((∃x t,r=.done (some x,t)/\F x)\/(∃t,r=.done (none,t)/\D t)\/∃t,r=.yield (none,t)/\J t)
theorem e_{τ:Type}{D J:τ->Prop}{st:SortSt}{x:Array Keyed}{t:τ}(m:SM κ ar pd st)(h:F x):wpS (model prog w) A E s (pure (.done (some x,t))) (GP κ ar pd F D J) st:=aL ⟨m,.inl ⟨_,_,rfl,h⟩⟩
theorem i8{τ:Type}{D J:τ->Prop}{c:Bool}{d:Prop}[Decidable d]{r:Array Keyed}{t:τ}{st:SortSt}(m:SM κ ar pd st)(h1:c=true->F r)(h2:c=false->D t/\J t):wpS (model prog w) A E s (xM c d r t) (GP κ ar pd F D J) st:=by
 unfold xM;cases c
 .rw[ap bo];split
  .exact aL ⟨m,.inr (.inl ⟨_,rfl,(h2 rfl).1⟩)⟩
  .exact aL ⟨m,.inr (.inr ⟨_,rfl,(h2 rfl).2⟩)⟩
 .rw[ai rfl];exact e_ m (h1 rfl)
theorem pI{τ:Type}{D:τ->Prop}{J:Nat->τ->Prop}{N:Nat}{f:qp×τ->uL (ForInStep (qp×τ))}{t:τ}{st:SortSt}{Q:qp×τ->SortSt->Prop}(m:SM κ ar pd st)(hJ:J 0 t)(up:∀t,J N t->D t)(b:∀t st,SM κ ar pd st->∀i,J i t->wpS (model prog w) A E s (f (none,t)) (GP κ ar pd F D (J (i+1))) st)(h1:∀x t a_,SM κ ar pd a_->F x->Q (some x,t) a_)(h2:∀t a_,SM κ ar pd a_->D t->Q (none,t) a_):wpS (model prog w) A E s (forIn [0:N] ((none,t):qp×τ) fun _ c=>f c) Q st:=by
 refine fv (I:=fun i c a_=>c.1=none/\SM κ ar pd a_/\J i c.2) ?_ ?_ ⟨rfl,m,hJ⟩
 .rintro i ⟨_,t⟩ a_ _ _ ⟨rfl,m',j⟩;refine dM (b t a_ m' i j) ?_;rintro r oo ⟨m2,⟨x,t,rfl,h⟩|⟨t,rfl,h⟩|⟨t,rfl,h⟩⟩
  .exact h1 _ _ _ m2 h
  .exact h2 _ _ m2 h
  .exact⟨rfl,m2,h⟩
 .rintro⟨_,t⟩ a_ ⟨rfl,m',j⟩;rw[Nat.max_eq_right (cE _)] at j;exact h2 _ _ m' (up _ j)
theorem Ca{α β γ:Type}{N:Nat}{f:Nat->qp×α×β×γ×Nat×Nat->uL (ForInStep (qp×α×β×γ×Nat×Nat))}{g:qp×α×β×γ×Nat×Nat×Nat->uL (ForInStep (qp×α×β×γ×Nat×Nat×Nat))}{x:α}{y:β}{z:γ}{J:Nat->α->β->γ->Prop}{st:SortSt}{Q:Array Keyed->SortSt->Prop}(m:SM κ ar pd st)(h0:J 0 x y z)(dn:∀i k x y z,J (i+k) x y z->J i x y z)(no:∀x y z,¬ J N x y z)(N1:1<=N)(hf:∀mg n k x y z p st,SM κ ar pd st->J (n+k) x y z->wpS (model prog w) A E s (f mg (none,x,y,z,p)) (GP κ ar pd F (fun t=>J (n+1) t.1 t.2.1 t.2.2.1) fun t=>J (n+(k+1)) t.1 t.2.1 t.2.2.1) st)(hg:∀n x y z p st,SM κ ar pd st->J n x y z->wpS (model prog w) A E s (g (none,x,y,z,p)) (GP κ ar pd F (fun t=>J n t.1 t.2.1 t.2.2.1) fun t=>J n t.1 t.2.1 t.2.2.1) st)(h:∀x a_,F x->SM κ ar pd a_->Q x a_):wpS (model prog w) A E s (VX N f g x y z) Q st:=by
 unfold VX;refine av (h_ ?_);refine av (pI (F:=F) (D:=fun _=>False) (J:=fun n (t:α×β×γ×Nat)=>J n t.1 t.2.1 t.2.2.1) m h0 (fun t h=>no _ _ _ h) ?_ (fun x t st m hx=>aL (h _ _ hx m)) fun t st m j=>j.elim);intro t st m i j;unfold mgO;refine av (pI (F:=F) (D:=fun t=>J (i+1) t.1 t.2.1 t.2.2.1) (J:=fun n (t:α×β×γ×Nat×Nat)=>J (i+n) t.1 t.2.1 t.2.2.1) m j (fun t h=>dn _ (N-1) _ _ _ (by rw[show i+1+(N-1)=i+N by lia];exact h)) (fun t st m n j=>hf _ _ _ _ _ _ _ _ m j) (fun x t st m hx=>e_ m hx) ?_);intro t st m j;refine av (mj (wpAny_rule ⟨rfl,?_⟩));refine av (pI (F:=F) (D:=fun t=>J (i+1) t.1 t.2.1 t.2.2.1) (J:=fun n (t:α×β×γ×Nat×Nat×Nat)=>J (i+1) t.1 t.2.1 t.2.2.1) m j (fun _ h=>h) (fun t st m n j=>hg _ _ _ _ _ _ m j) (fun x t st m hx=>e_ m hx) ?_);intro t st m j;refine av (gu ?_);exact aL ⟨⟨m.arr,m.kind,m.failed,m.pend⟩,.inr (.inr ⟨_,rfl,j⟩)⟩
end
abbrev kQ(a b out:Array Keyed)(ia ib:Nat):=out++a.extract ia a.size++b.extract ib b.size
abbrev wg(a b out:Array Keyed)(ia ib:Nat):=out++b.extract ib b.size++a.extract ia a.size
abbrev Mx ρ:=qp×Array Keyed×Nat×Nat×ρ
def loW(a b:Array Keyed)(mg:Nat)(t:Mx (Nat×Nat)):uL (ForInStep (Mx (Nat×Nat))):=do
 let x <- elem' b t.2.2.2.1
 let y <- elem' a t.2.2.1
 let some w <- lt' x y|pure (.done (some (kQ a b t.2.1 t.2.2.1 t.2.2.2.1),t.2.1,t.2.2.1,t.2.2.2.1,t.2.2.2.2.1,t.2.2.2.2.2))
 if w then do
  let x <- elem' b t.2.2.2.1
  xM (t.2.2.2.1+1==b.size) (t.2.2.2.2.2+1>=mg) (kQ a b (t.2.1.push x) t.2.2.1 (t.2.2.2.1+1)) (t.2.1.push x,t.2.2.1,t.2.2.2.1+1,0,t.2.2.2.2.2+1)
 else do
  let x <- elem' a t.2.2.1
  xM (t.2.2.1+1+1==a.size) (t.2.2.2.2.1+1>=mg) (wg a b (t.2.1.push x) (t.2.2.1+1) t.2.2.2.1) (t.2.1.push x,t.2.2.1+1,t.2.2.2.1,t.2.2.2.2.1+1,0)
def Xz(a b out:Array Keyed)(ia ib mg ac bc:Nat):uL (ForInStep (Mx (Nat×Nat×Nat))):=do
 let x <- elem' a ia
 xM (ia+1+1==a.size) ((ac<7&&bc<7)=true) (wg a b (out.push x) (ia+1) ib) (out.push x,ia+1,ib,mg,ac,bc)
def XA(a b out:Array Keyed)(ia ib mg ac bc:Nat):uL (ForInStep (Mx (Nat×Nat×Nat))):=do
 let x <- elem' b ib
 if ib+1==b.size then pure (.done (some (kQ a b (out.push x) ia (ib+1)),out.push x,ia,ib+1,mg,ac,bc))
 else do
  let y <- elem' a ia
  let some k <- iK true y b (ib+1) (b.size-(ib+1)) 0|pure (.done (some (kQ a b (out.push x) ia (ib+1)),out.push x,ia,ib+1,mg,ac,bc))
  if k > 0 then
   if ib+1+k==b.size then pure (.done (some (kQ a b (out.push x++b.extract (ib+1) (ib+1+k)) ia (ib+1+k)),out.push x++b.extract (ib+1) (ib+1+k),ia,ib+1+k,mg,ac,k))
   else Xz a b (out.push x++b.extract (ib+1) (ib+1+k)) ia (ib+1+k) mg ac k
  else Xz a b (out.push x) ia (ib+1) mg ac k
def XB(a b out:Array Keyed)(ia ib mg ac bc:Nat):uL (ForInStep (Mx (Nat×Nat×Nat))):=do
 iV mg
 let y <- elem' b ib
 let some k <- iK false y a ia (a.size-ia) 0|pure (.done (some (kQ a b out ia ib),out,ia,ib,mg,ac,bc))
 if k > 0 then
  if ia+k+1==a.size then pure (.done (some (wg a b (out++a.extract ia (ia+k)) (ia+k) ib),out++a.extract ia (ia+k),ia+k,ib,mg,k,bc))
  else if ia+k==a.size then pure (.done (some (kQ a b (out++a.extract ia (ia+k)) (ia+k) ib),out++a.extract ia (ia+k),ia+k,ib,mg,k,bc))
  else XA a b (out++a.extract ia (ia+k)) (ia+k) ib mg k bc
 else XA a b out ia ib mg k bc
def loG(a b:Array Keyed)(t:Mx (Nat×Nat×Nat)):uL (ForInStep (Mx (Nat×Nat×Nat))):=
 if t.2.2.2.2.1 > 1 then XB a b t.2.1 t.2.2.1 t.2.2.2.1 (t.2.2.2.2.1-1) t.2.2.2.2.2.1 t.2.2.2.2.2.2 else XB a b t.2.1 t.2.2.1 t.2.2.2.1 t.2.2.2.2.1 t.2.2.2.2.2.1 t.2.2.2.2.2.2
theorem xN(a b:Array Keyed):su a b=(do
 liftM (rule "list.sort.merge-lo")
 let x <- elem' b 0
 if 1==b.size then pure (kQ a b #[x] 0 1) else if 0+1==a.size then pure (wg a b #[x] 0 1) else VX (a.size+b.size) (loW a b) (loG a b) #[x] 0 1):=by kernel_rfl
def PI(a b out:Array Keyed)(ia ib:Nat):Prop:=out.toList.Perm (a.toList.take ia++b.toList.take ib)
theorem xO{l:List Keyed}{i:Nat}(h:i<l.length):l.take (i+1)=l.take i++[l[i]]:=by rw[iD,cJ h];rfl
theorem PI.uM{a b out:Array Keyed}{ia ib:Nat}(h:PI a b out ia ib)(hi:ia<a.size):PI a b (out.push a[ia]) (ia+1) ib:=by
 unfold PI at h |-;rw[j_,xO (by simpa using hi),cT];refine(h.append_right _).trans ?_;rw[cT];refine nk _ ?_;have:a.toList[ia]'(by simpa using hi)=a[ia]:=by simp
 rw[this];exact j3
theorem PI.uN{a b out:Array Keyed}{ia ib:Nat}(h:PI a b out ia ib)(hi:ib<b.size):PI a b (out.push b[ib]) ia (ib+1):=by
 unfold PI at h |-;rw[j_,xO (by simpa using hi),<-cT];have:b.toList[ib]'(by simpa using hi)=b[ib]:=by simp
 rw[this];exact h.append_right _
theorem dY{a:Array Keyed}{i j:Nat}:(a.extract i j).toList=(a.toList.drop i).take (j-i):=by
 rw[yY,List.extract_eq_take_drop]
theorem PI.DM{a b out:Array Keyed}{ia ib:Nat}(h:PI a b out ia ib)(k:Nat):PI a b (out++a.extract ia (ia+k)) (ia+k) ib:=by
 unfold PI at h |-;rw[eQ,dY,Nat.add_sub_cancel_left,List.take_add,cT];refine(h.append_right _).trans ?_;rw[cT];exact nk _ j3
theorem PI.DN{a b out:Array Keyed}{ia ib:Nat}(h:PI a b out ia ib)(k:Nat):PI a b (out++b.extract ib (ib+k)) ia (ib+k):=by
 unfold PI at h |-;rw[eQ,dY,Nat.add_sub_cancel_left,List.take_add,<-cT];exact h.append_right _
theorem PI.done{a b out:Array Keyed}{ia ib:Nat}(h:PI a b out ia ib):(out++a.extract ia a.size++b.extract ib b.size).Perm (a++b):=by
 rw[nj];unfold PI at h;rw[eQ,eQ,eQ,dY,dY];have e1:(a.toList.drop ia).take (a.size-ia)=a.toList.drop ia:=yQ (by simp);have e2:(b.toList.drop ib).take (b.size-ib)=b.toList.drop ib:=yQ (by simp);rw[e1,e2];refine((h.append_right _).append_right _).trans ?_;conv=>rhs;rw[<-lZ ia a.toList,<-lZ ib b.toList]
 rw[cT,cT,cT];refine nk _ ?_;rw[<-cT,<-cT];exact yT _ j3
theorem PI.last{a b out:Array Keyed}{ia ib:Nat}(h:PI a b out ia ib):(out++b.extract ib b.size++a.extract ia a.size).Perm (a++b):=by
 refine Array.Perm.trans ?_ h.done;rw[nj];rw[eQ,eQ,eQ,eQ,cT,cT];exact nk _ j3
section
variable {prog:Program} {w:World} {A:Around} {E:Value->Shared->Prop} {s:Shared} {κ:SortKind} {a₀:Array Keyed} {pd:Array (Nat×Nat×Nat)} {ar:Array Keyed} {a b out:Array Keyed} {ia ib mg ac bc n:Nat} {st:SortSt}
def JL(a b:Array Keyed)(n:Nat)(out:Array Keyed)(ia ib:Nat):Prop:=PI a b out ia ib/\ia+1<a.size/\ib<b.size/\n<=ia+ib
abbrev GL{ρ:Type}(κ:SortKind)(ar:Array Keyed)(pd:Array (Nat×Nat×Nat))(a b:Array Keyed)(n m:Nat):ForInStep (Mx ρ)->SortSt->Prop:=GP κ ar pd (fun x=>x.Perm (a++b)) (fun t=>JL a b n t.1 t.2.1 t.2.2.1) fun t=>JL a b m t.1 t.2.1 t.2.2.1
theorem Cb(hB:SM κ ar pd st)(h:JL a b n out ia ib):wpS (model prog w) A E s (Xz a b out ia ib mg ac bc) (GL κ ar pd a b n n) st:=by
 obtain⟨p,la,lb,li⟩:=h;refine av (br (dB a ia (by lia)) ?_);have p:=p.uM (show ia<a.size by lia);refine i8 hB (fun _=>p.last) fun f=>?_;have g:=oJ f;have j:JL a b n (out.push a[ia]) (ia+1) ib:=⟨p,by lia,lb,by lia⟩
 exact⟨j,j⟩
theorem Cc(hC:xL prog w A s κ a₀)(ha:∀x∈a.toList,x∈a₀.toList)(hb:∀x∈b.toList,x∈a₀.toList)(hB:SM κ ar pd st)(h:JL a b n out ia ib):wpS (model prog w) A E s (XA a b out ia ib mg ac bc) (GL κ ar pd a b n n) st:=by
 obtain⟨p,la,lb,li⟩:=h;refine av (br (dB b ib lb) ?_);have p:=p.uN lb;split
 .exact e_ hB p.done
 next f=>
 have g:ib+1≠b.size:=by simpa using f
 refine av (br (dB a ia (by lia)) ?_);refine av (fG hC hB.kind (ha _ (by simp)) hb (by lia) (by lia) fun k hk=>?_);dsimp only;split
 .split
  .exact e_ hB (p.DN k).done
  next f=>
  have g:ib+1+k≠b.size:=by simpa using f
  exact Cb hB ⟨p.DN k,la,by lia,by lia⟩
 .exact Cb hB ⟨p,la,by lia,by lia⟩
theorem Km(hC:xL prog w A s κ a₀)(ha:∀x∈a.toList,x∈a₀.toList)(hb:∀x∈b.toList,x∈a₀.toList)(hB:SM κ ar pd st)(h:JL a b n out ia ib):wpS (model prog w) A E s (XB a b out ia ib mg ac bc) (GL κ ar pd a b n n) st:=by
 obtain⟨p,la,lb,li⟩:=h;refine av (gu ?_);refine av (br (dB b ib lb) ?_);have uc:SM κ ar pd (SortSt.mk' (kindOf st) (arrOf st) (pendingOf st) mg (failedOf st)):=⟨hB.arr,hB.kind,hB.failed,hB.pend⟩
 refine av (fG hC uc.kind (hb _ (by simp)) ha (by lia) (by lia) fun k hk=>?_);dsimp only;split
 .split
  .exact e_ uc (p.DM k).last
  next f=>
  split
  .exact e_ uc (p.DM k).done
  next f'=>
  have g:ia+k+1≠a.size:=by simpa using f
  have g':ia+k≠a.size:=by simpa using f'
  exact Cc hC ha hb uc ⟨p.DM k,by lia,lb,by lia⟩
 .exact Cc hC ha hb uc ⟨p,la,lb,li⟩
theorem Kn{k:Nat}(hC:xL prog w A s κ a₀)(ha:∀x∈a.toList,x∈a₀.toList)(hb:∀x∈b.toList,x∈a₀.toList)(hB:SM κ ar pd st)(h:JL a b (n+k) out ia ib){q:Nat×Nat}:wpS (model prog w) A E s (loW a b mg (none,out,ia,ib,q)) (GL κ ar pd a b (n+1) (n+(k+1))) st:=by
 obtain⟨p,la,lb,li⟩:=h;refine av (br (dB b ib lb) (av (br (dB a ia (by lia)) (av (sw hC hB.kind (hb _ (by simp)) (ha _ (by simp)) fun w=>?_)))));cases w
 .refine av (br (dB a ia (by lia)) ?_);have p:=p.uM (show ia<a.size by lia);refine i8 hB (fun _=>p.last) fun f=>?_;have g:=oJ f;exact⟨⟨p,by dsimp only;lia,lb,by dsimp only;lia⟩,p,by dsimp only;lia,lb,by dsimp only;lia⟩
 .refine av (br (dB b ib lb) ?_);have p:=p.uN lb;refine i8 hB (fun _=>p.done) fun f=>?_;have g:=oJ f;exact⟨⟨p,la,by dsimp only at g |-;lia,by dsimp only;lia⟩,p,la,by dsimp only at g |-;lia,by dsimp only;lia⟩
theorem xP{Q:Array Keyed->SortSt->Prop}(hC:xL prog w A s κ a₀)(hB:SM κ ar pd st)(ha:∀x∈a.toList,x∈a₀.toList)(hb:∀x∈b.toList,x∈a₀.toList)(a1:1<=a.size)(b1:1<=b.size)(h:∀out a_,out.Perm (a++b)->SM κ ar pd a_->Q out a_):wpS (model prog w) A E s (su a b) Q st:=by
 rw[xN];refine av (mj (wpAny_rule ⟨rfl,?_⟩));refine av (br (dB b 0 (by lia)) ?_);have p0:PI a b #[b[0]] 0 1:=by
  have:PI a b #[] 0 0:=by unfold PI;simp
  exact this.uN (by lia)
 split
 .exact aL (h _ _ p0.done hB)
 next f=>
 split
 .exact aL (h _ _ p0.last hB)
 next f'=>
 have g:1≠b.size:=by simpa using f
 have g':0+1≠a.size:=by simpa using f'
 refine Ca (J:=JL a b) hB ⟨p0,by lia,by lia,by lia⟩ (fun i k x y z h=>⟨h.1,h.2.1,h.2.2.1,by have:=h.2.2.2;lia⟩) (fun x y z h=>by have:=h.2;lia) (by lia) (fun mg n k x y z p st m j=>Kn hC ha hb m j) (fun n x y z p st m j=>?_) h;unfold loG;split <;> exact Km hC ha hb m j
end
abbrev kR(a b out:Array Keyed)(na nb:Nat):=a.extract 0 na++b.extract 0 nb++out.reverse
abbrev qL(a b out:Array Keyed)(na nb:Nat):=b.extract 0 nb++a.extract 0 na++out.reverse
abbrev My ρ:=qp×Nat×Nat×Array Keyed×ρ
def hiW(a b:Array Keyed)(mg:Nat)(t:My (Nat×Nat)):uL (ForInStep (My (Nat×Nat))):=do
 let x <- elem' b (t.2.2.1-1)
 let y <- elem' a (t.2.1-1)
 let some w <- lt' x y|pure (.done (some (kR a b t.2.2.2.1 t.2.1 t.2.2.1),t.2.1,t.2.2.1,t.2.2.2.1,t.2.2.2.2.1,t.2.2.2.2.2))
 if w then do
  let x <- elem' a (t.2.1-1)
  xM (t.2.1-1==0) (t.2.2.2.2.1+1>=mg) (kR a b (t.2.2.2.1.push x) (t.2.1-1) t.2.2.1) (t.2.1-1,t.2.2.1,t.2.2.2.1.push x,t.2.2.2.2.1+1,0)
 else do
  let x <- elem' b (t.2.2.1-1)
  xM (t.2.2.1-1==1) (t.2.2.2.2.2+1>=mg) (qL a b (t.2.2.2.1.push x) t.2.1 (t.2.2.1-1)) (t.2.1,t.2.2.1-1,t.2.2.2.1.push x,0,t.2.2.2.2.2+1)
def XC(a b:Array Keyed)(na nb:Nat)(out:Array Keyed)(mg ac bc:Nat):uL (ForInStep (My (Nat×Nat×Nat))):=do
 let x <- elem' a (na-1)
 xM (na-1==0) ((ac<7&&bc<7)=true) (kR a b (out.push x) (na-1) nb) (na-1,nb,out.push x,mg,ac,bc)
def XD(a b:Array Keyed)(na nb:Nat)(out:Array Keyed)(mg ac bc:Nat):uL (ForInStep (My (Nat×Nat×Nat))):=do
 let x <- elem' b (nb-1)
 if nb-1==1 then pure (.done (some (qL a b (out.push x) na (nb-1)),na,nb-1,out.push x,mg,ac,bc))
 else do
  let y <- elem' a (na-1)
  let some k <- iK true y b 0 (nb-1) (nb-1-1)|pure (.done (some (kR a b (out.push x) na (nb-1)),na,nb-1,out.push x,mg,ac,bc))
  if nb-1-k > 0 then
   if k==1 then pure (.done (some (qL a b (out.push x++(b.extract k (nb-1)).reverse) na k),na,k,out.push x++(b.extract k (nb-1)).reverse,mg,ac,nb-1-k))
   else if k==0 then pure (.done (some (kR a b (out.push x++(b.extract k (nb-1)).reverse) na k),na,k,out.push x++(b.extract k (nb-1)).reverse,mg,ac,nb-1-k))
   else XC a b na k (out.push x++(b.extract k (nb-1)).reverse) mg ac (nb-1-k)
  else XC a b na (nb-1) (out.push x) mg ac (nb-1-k)
def XE(a b:Array Keyed)(na nb:Nat)(out:Array Keyed)(mg ac bc:Nat):uL (ForInStep (My (Nat×Nat×Nat))):=do
 iV mg
 let y <- elem' b (nb-1)
 let some k <- iK false y a 0 na (na-1)|pure (.done (some (kR a b out na nb),na,nb,out,mg,ac,bc))
 if na-k > 0 then
  if k==0 then pure (.done (some (kR a b (out++(a.extract k na).reverse) k nb),k,nb,out++(a.extract k na).reverse,mg,na-k,bc))
  else XD a b k nb (out++(a.extract k na).reverse) mg (na-k) bc
 else XD a b na nb out mg (na-k) bc
def hiG(a b:Array Keyed)(t:My (Nat×Nat×Nat)):uL (ForInStep (My (Nat×Nat×Nat))):=
 if t.2.2.2.2.1 > 1 then XE a b t.2.1 t.2.2.1 t.2.2.2.1 (t.2.2.2.2.1-1) t.2.2.2.2.2.1 t.2.2.2.2.2.2 else XE a b t.2.1 t.2.2.1 t.2.2.2.1 t.2.2.2.2.1 t.2.2.2.2.2.1 t.2.2.2.2.2.2
theorem xQ(a b:Array Keyed):sv a b=(do
 liftM (rule "list.sort.merge-hi")
 let x <- elem' a (a.size-1)
 if a.size-1==0 then pure (kR a b #[x] (a.size-1) b.size) else if b.size==1 then pure (qL a b #[x] (a.size-1) b.size) else VX (a.size+b.size) (hiW a b) (hiG a b) (a.size-1) b.size #[x]):=by kernel_rfl
def PH(a b out:Array Keyed)(na nb:Nat):Prop:=out.toList.Perm (a.toList.drop na++b.toList.drop nb)
theorem PH.uM{a b out:Array Keyed}{na nb:Nat}(h:PH a b out na nb)(h1:1<=na)(hi:na-1<a.size):PH a b (out.push a[na-1]) (na-1) nb:=by
 unfold PH at h |-;have e:a.toList.drop (na-1)=a[na-1]::a.toList.drop na:=by
  have:=oB (l:=a.toList) (i:=na-1) (by simpa using hi);rw[this,Nat.sub_add_cancel h1];simp
 rw[j_,e];refine(h.append_right _).trans ?_;exact j3
theorem PH.uN{a b out:Array Keyed}{na nb:Nat}(h:PH a b out na nb)(h1:1<=nb)(hi:nb-1<b.size):PH a b (out.push b[nb-1]) na (nb-1):=by
 unfold PH at h |-;have e:b.toList.drop (nb-1)=b[nb-1]::b.toList.drop nb:=by
  have:=oB (l:=b.toList) (i:=nb-1) (by simpa using hi);rw[this,Nat.sub_add_cancel h1];simp
 rw[j_,e];refine(h.append_right _).trans ?_;rw[cT];exact nk _ j3
theorem nX{l:List Keyed}{i j:Nat}(h:i<=j):l.drop i=(l.drop i).take (j-i)++l.drop j:=by
 have:=(lZ (j-i) (l.drop i)).symm;rw[List.drop_drop,show i+(j-i)=j by lia] at this;exact this
theorem PH.DM{a b out:Array Keyed}{na nb:Nat}(h:PH a b out na nb){k:Nat}(hk:k<=na):PH a b (out++(a.extract k na).reverse) k nb:=by
 unfold PH at h |-;rw[eQ,yX,dY];conv=>rhs;rw[nX hk]
 refine((h.append_left _).trans ?_ |> fun z=>(List.Perm.trans j3 ((zf _).append_right _)).trans z);rw[cT]
theorem PH.DN{a b out:Array Keyed}{na nb:Nat}(h:PH a b out na nb){k:Nat}(hk:k<=nb):PH a b (out++(b.extract k nb).reverse) na k:=by
 unfold PH at h |-;rw[eQ,yX,dY];conv=>rhs;rw[nX hk]
 refine(h.append_right _).trans ?_;rw[cT];refine nk _ ?_;exact j3.trans ((zf _).append_right _)
theorem SJ{a:Array Keyed}{j:Nat}:(a.extract 0 j).toList=a.toList.take j:=by rw[dY,zI,Nat.sub_zero]
theorem PH.done{a b out:Array Keyed}{na nb:Nat}(h:PH a b out na nb):(a.extract 0 na++b.extract 0 nb++out.reverse).Perm (a++b):=by
 rw[nj];unfold PH at h;rw[eQ,eQ,eQ,yX,SJ,SJ];conv=>rhs;rw[<-lZ na a.toList,<-lZ nb b.toList]
 refine(nk _ ((zf _).trans h)).trans ?_;rw[cT,cT];refine nk _ ?_;rw[<-cT,<-cT];exact yT _ j3
theorem PH.first{a b out:Array Keyed}{na nb:Nat}(h:PH a b out na nb):(b.extract 0 nb++a.extract 0 na++out.reverse).Perm (a++b):=by
 refine Array.Perm.trans ?_ h.done;rw[nj];rw[eQ,eQ,eQ,eQ];exact yT _ j3
section
variable {prog:Program} {w:World} {A:Around} {E:Value->Shared->Prop} {s:Shared} {κ:SortKind} {a₀:Array Keyed} {pd:Array (Nat×Nat×Nat)} {ar:Array Keyed} {a b out:Array Keyed} {na nb mg ac bc n:Nat} {st:SortSt}
def JH(a b:Array Keyed)(n na nb:Nat)(out:Array Keyed):Prop:=PH a b out na nb/\1<=na/\2<=nb/\na<=a.size/\nb<=b.size/\n+na+nb<=a.size+b.size
abbrev GH{ρ:Type}(κ:SortKind)(ar:Array Keyed)(pd:Array (Nat×Nat×Nat))(a b:Array Keyed)(n m:Nat):ForInStep (My ρ)->SortSt->Prop:=GP κ ar pd (fun x=>x.Perm (a++b)) (fun t=>JH a b n t.1 t.2.1 t.2.2.1) fun t=>JH a b m t.1 t.2.1 t.2.2.1
theorem Cd(hB:SM κ ar pd st)(p:PH a b out na nb)(la:1<=na)(lb:2<=nb)(ma:na<=a.size)(mb:nb<=b.size)(li:n+na+nb<=a.size+b.size+1):wpS (model prog w) A E s (XC a b na nb out mg ac bc) (GH κ ar pd a b n n) st:=by
 refine av (br (dB a (na-1) (by lia)) ?_);have p:=p.uM la (show na-1<a.size by lia);refine i8 hB (fun _=>p.done) fun f=>?_;have g:=oJ f;have j:JH a b n (na-1) nb (out.push a[na-1]):=⟨p,by lia,lb,by lia,mb,by lia⟩
 exact⟨j,j⟩
theorem Ce(hC:xL prog w A s κ a₀)(ha:∀x∈a.toList,x∈a₀.toList)(hb:∀x∈b.toList,x∈a₀.toList)(hB:SM κ ar pd st)(h:JH a b n na nb out):wpS (model prog w) A E s (XD a b na nb out mg ac bc) (GH κ ar pd a b n n) st:=by
 obtain⟨p,la,lb,ma,mb,li⟩:=h;refine av (br (dB b (nb-1) (by lia)) ?_);have p:=p.uN (show 1<=nb by lia) (show nb-1<b.size by lia);split
 .exact e_ hB p.first
 next f=>
 have g:nb-1≠1:=by simpa using f
 refine av (br (dB a (na-1) (by lia)) ?_);refine av (fG hC hB.kind (ha _ (by simp)) hb (by lia) (by lia) fun k hk=>?_);dsimp only;split
 .split
  .exact e_ hB (p.DN hk).first
  next f=>
  split
  .exact e_ hB (p.DN hk).done
  next f'=>
  have g:k≠1:=by simpa using f
  have g':k≠0:=by simpa using f'
  exact Cd hB (p.DN hk) la (by lia) ma (by lia) (by lia)
 .exact Cd hB p la (by lia) ma (by lia) (by lia)
theorem Ko(hC:xL prog w A s κ a₀)(ha:∀x∈a.toList,x∈a₀.toList)(hb:∀x∈b.toList,x∈a₀.toList)(hB:SM κ ar pd st)(h:JH a b n na nb out):wpS (model prog w) A E s (XE a b na nb out mg ac bc) (GH κ ar pd a b n n) st:=by
 obtain⟨p,la,lb,ma,mb,li⟩:=h;refine av (gu ?_);refine av (br (dB b (nb-1) (by lia)) ?_);have uc:SM κ ar pd (SortSt.mk' (kindOf st) (arrOf st) (pendingOf st) mg (failedOf st)):=⟨hB.arr,hB.kind,hB.failed,hB.pend⟩
 refine av (fG hC uc.kind (hb _ (by simp)) ha (by lia) (by lia) fun k hk=>?_);dsimp only;split
 .split
  .exact e_ uc (p.DM hk).done
  next f=>
  have g:k≠0:=by simpa using f
  exact Ce hC ha hb uc ⟨p.DM hk,by lia,lb,by lia,mb,by lia⟩
 .exact Ce hC ha hb uc ⟨p,la,lb,ma,mb,li⟩
theorem Kp{k:Nat}(hC:xL prog w A s κ a₀)(ha:∀x∈a.toList,x∈a₀.toList)(hb:∀x∈b.toList,x∈a₀.toList)(hB:SM κ ar pd st)(h:JH a b (n+k) na nb out){q:Nat×Nat}:wpS (model prog w) A E s (hiW a b mg (none,na,nb,out,q)) (GH κ ar pd a b (n+1) (n+(k+1))) st:=by
 obtain⟨p,la,lb,ma,mb,li⟩:=h;refine av (br (dB b (nb-1) (by lia)) (av (br (dB a (na-1) (by lia)) (av (sw hC hB.kind (hb _ (by simp)) (ha _ (by simp)) fun w=>?_)))));cases w
 .refine av (br (dB b (nb-1) (by lia)) ?_);have p:=p.uN (show 1<=nb by lia) (show nb-1<b.size by lia);refine i8 hB (fun _=>p.first) fun f=>?_;have g:nb-1≠1:=oJ f;have j:JH a b (n+(k+1)) na (nb-1) (out.push b[nb-1]):=⟨p,la,by lia,ma,by lia,by lia⟩
  exact⟨⟨p,la,j.2.2.1,ma,j.2.2.2.2.1,by have:=j.2.2.2.2.2;dsimp only;lia⟩,j⟩
 .refine av (br (dB a (na-1) (by lia)) ?_);have p:=p.uM la (show na-1<a.size by lia);refine i8 hB (fun _=>p.done) fun f=>?_;have g:na-1≠0:=oJ f;have j:JH a b (n+(k+1)) (na-1) nb (out.push a[na-1]):=⟨p,by lia,lb,by lia,mb,by lia⟩
  exact⟨⟨p,j.2.1,lb,j.2.2.2.1,mb,by have:=j.2.2.2.2.2;dsimp only;lia⟩,j⟩
theorem xR{Q:Array Keyed->SortSt->Prop}(hC:xL prog w A s κ a₀)(hB:SM κ ar pd st)(ha:∀x∈a.toList,x∈a₀.toList)(hb:∀x∈b.toList,x∈a₀.toList)(a1:1<=a.size)(b1:1<=b.size)(h:∀out a_,out.Perm (a++b)->SM κ ar pd a_->Q out a_):wpS (model prog w) A E s (sv a b) Q st:=by
 rw[xQ];refine av (mj (wpAny_rule ⟨rfl,?_⟩));refine av (br (dB a (a.size-1) (by lia)) ?_);have p0:PH a b #[a[a.size-1]] (a.size-1) b.size:=by
  have:PH a b #[] a.size b.size:=by unfold PH;simp
  exact this.uM a1 (by lia)
 split
 .exact aL (h _ _ p0.done hB)
 next f=>
 split
 .exact aL (h _ _ p0.first hB)
 next f'=>
 have g:a.size-1≠0:=by simpa using f
 have g':b.size≠1:=by simpa using f'
 refine Ca (J:=JH a b) hB ⟨p0,by lia,by lia,by lia,by lia,by lia⟩ (fun i k x y z h=>⟨h.1,h.2.1,h.2.2.1,h.2.2.2.1,h.2.2.2.2.1,by have:=h.2.2.2.2.2;lia⟩) (fun x y z h=>by have:=h.2;lia) (by lia) (fun mg n k x y z p st m j=>Kp hC ha hb m j) (fun n x y z p st m j=>?_) h;unfold hiG;split <;> exact Ko hC ha hb m j
end
section
variable {prog:Program} {w:World} {A:Around} {E:Value->Shared->Prop} {s:Shared} {κ:SortKind} {a₀:Array Keyed} {pd:Array (Nat×Nat×Nat)}
theorem DO{st:SortSt}{lo pJ:Nat}{Q:Option Nat->SortSt->Prop}(hC:xL prog w A s κ a₀)(hn:lo+pJ<=a₀.size)(h1:1<=pJ)(hB:SQ κ a₀ pd st)(h:∀n a_,SQ κ a₀ pd a_->1<=n->n<=pJ->Q (some n) a_):wpS (model prog w) A E s (countRun' lo pJ) Q st:=by
 rw[countRun'_eq];refine av (dM (fv (I:=fun i c a_=>SQ κ a₀ pd a_/\∃m,c=(none,m)/\m=i) (Q:=fun c a_=>SQ κ a₀ pd a_/\∃m,c=(none,m)/\1<=m/\m<=pJ) ?_ ?_ ⟨hB,_,rfl,rfl⟩) ?_)
 .rintro i c Js Q0 Ag ⟨Gu,m,rfl,rfl⟩;dsimp only;refine av (eZ hC Gu (by lia) (by lia) fun b1=>?_);cases b1
  .exact aL ⟨Gu,_,rfl,rfl⟩
  .exact aL ⟨Gu,_,rfl,by lia,by lia⟩
 .rintro c Js ⟨Gu,m,rfl,rfl⟩;exact⟨Gu,_,rfl,by lia,by lia⟩
 .rintro c Js ⟨Gu,n,rfl,n1,n2⟩;dsimp only;by_cases e1:(n==pJ)=true
  .rw[ai e1];exact aL (h n Js Gu n1 n2)
  rw[ap e1];have g1:¬ (n=pJ):=by simpa using e1
  by_cases e2:n > 1
  .rw[ai e2];refine av (eZ hC Gu (by lia) (by lia) fun b2=>?_);cases b2
   .dsimp only;rw[ap (by decide)];refine av (gT Gu fun oo uc=>?_);refine av (mj (wpAny_rule ⟨rfl,?_⟩));refine av (dM (fv (I:=fun i c a_=>SQ κ a₀ pd a_/\∃m q,c=(none,m,q)/\m=i) (Q:=fun c a_=>SQ κ a₀ pd a_/\∃m q,c=(none,m,q)/\1<=m/\m<=pJ) ?_ ?_ ⟨uc,_,_,rfl,rfl⟩) ?_)
    .rintro i c xc Q0 Ag ⟨qo,m,q,rfl,rfl⟩;dsimp only;refine av (eZ hC qo (by lia) (by lia) fun b3=>?_);cases b3
     .dsimp only;rw[ap (by decide)];refine av (eZ hC qo (by lia) (by lia) fun b4=>?_);cases b4
      .exact aL ⟨qo,_,_,rfl,rfl⟩
      .exact aL ⟨qo,_,_,rfl,by lia,by lia⟩
     .dsimp only;rw[ai rfl];split
      .exact av (gT qo fun tP Op=>aL ⟨Op,_,_,rfl,rfl⟩)
      .exact aL ⟨qo,_,_,rfl,rfl⟩
    .rintro c xc ⟨qo,m,q,rfl,rfl⟩;exact⟨qo,_,_,rfl,by lia,by lia⟩
    .rintro c xc ⟨qo,m,q,rfl,m1,m2⟩;dsimp only;split
     .refine av (gT qo fun tP Op=>?_);refine av (gT Op fun tO Oq=>?_);refine av (dM (fv (I:=fun i c a_=>SQ κ a₀ pd a_/\∃m,c=(none,m)/\m=i) (Q:=fun c a_=>SQ κ a₀ pd a_/\∃m,c=(none,m)/\1<=m/\m<=pJ) ?_ ?_ ⟨Oq,_,rfl,rfl⟩) ?_)
      .rintro i c Aw Q0 Ag ⟨mG,m,rfl,rfl⟩;dsimp only;refine av (eZ hC mG (by lia) (by lia) fun b6=>?_);cases b6
       .exact aL ⟨mG,_,rfl,rfl⟩
       .exact aL ⟨mG,_,rfl,by lia,by lia⟩
      .rintro c Aw ⟨mG,m,rfl,rfl⟩;exact⟨mG,_,rfl,by lia,by lia⟩
      .rintro c Aw ⟨mG,m,rfl,h1,h2⟩;exact aL (h m Aw mG h1 h2)
     .refine av (gT qo fun tO Oq=>?_);refine av (dM (fv (I:=fun i c a_=>SQ κ a₀ pd a_/\∃m,c=(none,m)/\m=i) (Q:=fun c a_=>SQ κ a₀ pd a_/\∃m,c=(none,m)/\1<=m/\m<=pJ) ?_ ?_ ⟨Oq,_,rfl,rfl⟩) ?_)
      .rintro i c Aw Q0 Ag ⟨mG,m,rfl,rfl⟩;dsimp only;refine av (eZ hC mG (by lia) (by lia) fun b6=>?_);cases b6
       .exact aL ⟨mG,_,rfl,rfl⟩
       .exact aL ⟨mG,_,rfl,by lia,by lia⟩
      .rintro c Aw ⟨mG,m,rfl,rfl⟩;exact⟨mG,_,rfl,by lia,by lia⟩
      .rintro c Aw ⟨mG,m,rfl,h1,h2⟩;exact aL (h m Aw mG h1 h2)
   .exact aL (h n Js Gu n1 n2)
  .rw[ap e2];have uc:=Gu;refine av (mj (wpAny_rule ⟨rfl,?_⟩));refine av (dM (fv (I:=fun i c a_=>SQ κ a₀ pd a_/\∃m q,c=(none,m,q)/\m=i) (Q:=fun c a_=>SQ κ a₀ pd a_/\∃m q,c=(none,m,q)/\1<=m/\m<=pJ) ?_ ?_ ⟨uc,_,_,rfl,rfl⟩) ?_)
   .rintro i c xc Q0 Ag ⟨qo,m,q,rfl,rfl⟩;dsimp only;refine av (eZ hC qo (by lia) (by lia) fun b3=>?_);cases b3
    .dsimp only;rw[ap (by decide)];refine av (eZ hC qo (by lia) (by lia) fun b4=>?_);cases b4
     .exact aL ⟨qo,_,_,rfl,rfl⟩
     .exact aL ⟨qo,_,_,rfl,by lia,by lia⟩
    .dsimp only;rw[ai rfl];split
     .exact av (gT qo fun tP Op=>aL ⟨Op,_,_,rfl,rfl⟩)
     .exact aL ⟨qo,_,_,rfl,rfl⟩
   .rintro c xc ⟨qo,m,q,rfl,rfl⟩;exact⟨qo,_,_,rfl,by lia,by lia⟩
   .rintro c xc ⟨qo,m,q,rfl,m1,m2⟩;dsimp only;split
    .refine av (gT qo fun tP Op=>?_);refine av (gT Op fun tO Oq=>?_);refine av (dM (fv (I:=fun i c a_=>SQ κ a₀ pd a_/\∃m,c=(none,m)/\m=i) (Q:=fun c a_=>SQ κ a₀ pd a_/\∃m,c=(none,m)/\1<=m/\m<=pJ) ?_ ?_ ⟨Oq,_,rfl,rfl⟩) ?_)
     .rintro i c Aw Q0 Ag ⟨mG,m,rfl,rfl⟩;dsimp only;refine av (eZ hC mG (by lia) (by lia) fun b6=>?_);cases b6
      .exact aL ⟨mG,_,rfl,rfl⟩
      .exact aL ⟨mG,_,rfl,by lia,by lia⟩
     .rintro c Aw ⟨mG,m,rfl,rfl⟩;exact⟨mG,_,rfl,by lia,by lia⟩
     .rintro c Aw ⟨mG,m,rfl,h1,h2⟩;exact aL (h m Aw mG h1 h2)
    .refine av (gT qo fun tO Oq=>?_);refine av (dM (fv (I:=fun i c a_=>SQ κ a₀ pd a_/\∃m,c=(none,m)/\m=i) (Q:=fun c a_=>SQ κ a₀ pd a_/\∃m,c=(none,m)/\1<=m/\m<=pJ) ?_ ?_ ⟨Oq,_,rfl,rfl⟩) ?_)
     .rintro i c Aw Q0 Ag ⟨mG,m,rfl,rfl⟩;dsimp only;refine av (eZ hC mG (by lia) (by lia) fun b6=>?_);cases b6
      .exact aL ⟨mG,_,rfl,rfl⟩
      .exact aL ⟨mG,_,rfl,by lia,by lia⟩
     .rintro c Aw ⟨mG,m,rfl,rfl⟩;exact⟨mG,_,rfl,by lia,by lia⟩
     .rintro c Aw ⟨mG,m,rfl,h1,h2⟩;exact aL (h m Aw mG h1 h2)
end
abbrev Q3:=Nat×Nat×Nat
def i9:List Q3->Nat->Nat->Prop
 |[],s,e=>s=e
 |r::rs,s,e=>r.1=s/\1<=r.2.1/\i9 rs (s+r.2.1) e
theorem i9.le:∀ {l:List Q3} {s e:Nat},i9 l s e->s<=e
 |[],_,_,h=>rH h
 |r::rs,s,e,⟨_,h2,h3⟩=>by have:=h3.le;lia
theorem i9.two:∀ {l:List Q3} {s e i:Nat} {x y:Q3},i9 l s e->l[i]?=some x->l[i+1]?=some y->
  x.1+x.2.1=y.1/\y.1+y.2.1<=e/\1<=x.2.1/\1<=y.2.1/\∀p,i9 ((l.set i (x.1,x.2.1+y.2.1,p)).eraseIdx (i+1)) s e
 |r::q::rs,s,e,0,x,y,⟨h1,h2,h3,h4,h5⟩,hx,hy=>by
  obtain rfl:=bi hx;obtain rfl:=bi hy;have:=h5.le;refine⟨by lia,by lia,h2,h4,fun p=>⟨h1,by show 1<=r.2.1+q.2.1;lia,?_⟩⟩;show i9 rs (s+(r.2.1+q.2.1)) e;rw[<-rE];exact h5
 |r::rs,s,e,i+1,x,y,⟨h1,h2,h3⟩,hx,hy=>by
  obtain⟨a1,a2,a3,a4,a5⟩:=i9.two (i:=i) h3 hx hy;exact⟨a1,a2,a3,a4,fun p=>⟨h1,h2,a5 p⟩⟩
theorem i9.push:∀ {l:List Q3} {s e n p:Nat},i9 l s e->1<=n->i9 (l++[(e,n,p)]) s (e+n)
 |[],s,e,n,p,h,hn=>⟨h.symm,hn,by rw[h];rfl⟩
 |r::rs,s,e,n,p,⟨h1,h2,h3⟩,hn=>⟨h1,h2,i9.push h3 hn⟩
theorem i9.pw:∀ {l:List Q3} {s e:Nat} (i p:Nat),i9 l s e->i9 (l.modify i fun r=>(r.1,r.2.1,p)) s e
 |[],s,e,i,p,h=>by cases i <;> exact h
 |r::rs,s,e,0,p,⟨h1,h2,h3⟩=>⟨h1,h2,h3⟩
 |r::rs,s,e,i+1,p,⟨h1,h2,h3⟩=>⟨h1,h2,i9.pw i p h3⟩
theorem Kq{M:Model}{A:Around}{E:Value->Shared->Prop}{s:Shared}{σ:Type}{x:σ}{Q:PUnit->σ->Prop}{st:σ}(h:Q ⟨⟩ x):wpS M A E s (set x:StateT σ Sem PUnit) Q st:=by
 unfold wpS;rw[StateT.run_set];exact wpAny_pure ⟨rfl,h⟩
theorem xS(i:Nat):mergeAt' i=(do
 let s <- get
 let (some (sa,na,SK),some (sb,nb,_)):=((pendingOf s)[i]?,(pendingOf s)[i+1]?)|unsupported "internal:list.sort.pending"
 set (setPending s (((pendingOf s).setIfInBounds i (sa,na+nb,SK)).eraseIdxIfInBounds (i+1)))
 let some k <- iK false (<-elem' (arrOf s) sb) (arrOf s) sa na 0|return false
 let (sa,na):=(sa+k,na-k)
 if na==0 then return true
 let some nb <- iK true (<-elem' (arrOf s) (sa+na-1)) (arrOf s) sb nb (nb-1)|return false
 if nb==0 then return true
 let x:=(arrOf s).extract sa sb
 let y:=(arrOf s).extract sb (sb+nb)
 let merged <- if na<=nb then su x y else sv x y
 modify fun s=>setArr s (merged.toList.zipIdx.foldl (fun a (p,j)=>a.setIfInBounds (sa+j) p) (arrOf s))
 return (failedOf (<-get)).isNone):=rfl
theorem sF{sa:Nat}:∀ (l:List Keyed) (k:Nat) (arr:Array Keyed),sa+k+l.length<=arr.size->
  ((l.zipIdx k).foldl (fun (a:Array Keyed) (x:Keyed×Nat)=>a.setIfInBounds (sa+x.2) x.1) arr).toList=arr.toList.take (sa+k)++l++arr.toList.drop (sa+k+l.length)
 |[],k,arr,_=>by simp
 |x::l,k,arr,h=>by
  rw[cD] at h;have hs:sa+k<arr.toList.length:=by rw[eA];lia
  rw[zo,f8,sF l (k+1) _ (by rw[Array.size_setIfInBounds];lia),E4];dsimp only;have e1:(arr.toList.set (sa+k) x).take (sa+(k+1))=arr.toList.take (sa+k)++[x]:=by
   rw[<-rE,iD,qZ hs,List.take_set_of_le (aW _)];rfl
  have e2:(arr.toList.set (sa+k) x).drop (sa+(k+1)+l.length)=arr.toList.drop (sa+k+(x::l).length):=by
   rw[List.drop_set_of_lt (by lia),cD];congr 1;lia
  rw[e1,e2,cT,cT,cT];rfl
section
variable {prog:Program} {w:World} {A:Around} {E:Value->Shared->Prop} {s:Shared} {κ:SortKind} {a₀:Array Keyed}
def SR(κ:SortKind)(a₀:Array Keyed)(lo:Nat)(st:SortSt):Prop:=∃pd,SQ κ a₀ pd st/\i9 pd.toList 0 lo/\lo<=a₀.size
theorem kS{st:SortSt}{i lo:Nat}{Q:Bool->SortSt->Prop}(hC:xL prog w A s κ a₀)(hB:SR κ a₀ lo st)(hi:i+1<(pendingOf st).size)(h:∀a_,SR κ a₀ lo a_->Q true a_):wpS (model prog w) A E s (mergeAt' i) Q st:=by
 obtain⟨pd,hq,hr,VL⟩:=hB;rw[hq.pend] at hi;rw[xS];refine av (h_ ?_);have e1:pd[i]?=some pd[i]:=dB pd i (by lia);have e2:pd[i+1]?=some pd[i+1]:=dB pd (i+1) hi;obtain⟨a1,a2,a3,a4,a5⟩:=hr.two (i:=i) (x:=pd[i]) (y:=pd[i+1]) (by simpa using e1) (by simpa using e2);rw[hq.pend,e1,e2];revert a1 a2 a3 a4 a5;generalize pd[i]=x;generalize pd[i+1]=y;obtain⟨sa,na,pw⟩:=x;obtain⟨sb,nb,pw2⟩:=y;intro a1 a2 a3 a4 a5;dsimp only at a1 a2 a3 a4 a5 |-;obtain⟨Kr,SL⟩:∃Kr,Kr=(pd.setIfInBounds i (sa,na+nb,pw)).eraseIdxIfInBounds (i+1):=⟨_,rfl⟩
 have EO:i9 Kr.toList 0 lo:=by
  rw[SL,Array.toList_eraseIdxIfInBounds,E4];exact a5 pw
 refine av (Kq ?_);rw[<-SL];have Mq:SM κ (arrOf st) Kr (setPending st Kr):=⟨rfl,hq.kind,hq.failed,rfl⟩
 have hsz:=hq.size;have pH:∀x∈(arrOf st).toList,x∈a₀.toList:=fun x hx=>(nj.mp hq.perm).mem_iff.mp hx;have cK:∀a_,SM κ (arrOf st) Kr a_->SR κ a₀ lo a_:=fun a_ m=>⟨Kr,⟨by rw[m.arr];exact hq.perm,m.kind,m.failed,m.pend⟩,EO,VL⟩
 refine av (br (dB (arrOf st) sb (by lia)) ?_);refine av (fG hC Mq.kind (pH _ (by simp)) pH (by lia) (by lia) fun k hk=>?_);dsimp only;by_cases f1:(na-k==0)=true
 .rw[ai f1];exact aL (h _ (cK _ Mq))
 rw[ap f1];have g1:¬ (na-k=0):=by simpa using f1
 refine av (br (dB (arrOf st) (sa+k+(na-k)-1) (by lia)) ?_);refine av (fG hC Mq.kind (pH _ (by simp)) pH (by lia) (by lia) fun k2 hk2=>?_);dsimp only;by_cases f2:(k2==0)=true
 .rw[ai f2];exact aL (h _ (cK _ Mq))
 rw[ap f2];have g2:¬ (k2=0):=by simpa using f2
 have hx:∀x∈((arrOf st).extract (sa+k) sb).toList,x∈a₀.toList:=fun x hx=>pH x (by rw[dY] at hx;exact vn (l6 hx));have hy:∀x∈((arrOf st).extract sb (sb+k2)).toList,x∈a₀.toList:=fun x hx=>pH x (by rw[dY] at hx;exact vn (l6 hx));have sx:((arrOf st).extract (sa+k) sb).size=sb-(sa+k):=by rw[Array.size_extract];lia
 have sy:((arrOf st).extract sb (sb+k2)).size=k2:=by rw[Array.size_extract];lia
 have last:∀ (out:Array Keyed) (a_:SortSt),out.Perm ((arrOf st).extract (sa+k) sb++(arrOf st).extract sb (sb+k2))->SM κ (arrOf st) Kr a_->wpS (model prog w) A E s (do
   modify fun s=>setArr s (out.toList.zipIdx.foldl (fun a (p,j)=>a.setIfInBounds (sa+k+j) p) (arrOf s))
   return (failedOf (<-get)).isNone) Q a_:=by
  intro out a_ hp m;refine av (gu ?_);refine av (h_ (aL ?_));have Jg:out.toList.length=sb-(sa+k)+k2:=by
   rw[eA,hp.size_eq,Array.size_append,sx,sy]
  have wl:=sF (sa:=sa+k) out.toList 0 (arrOf a_) (by rw[m.arr,Jg];lia);have pm:(out.toList.zipIdx.foldl (fun a (p,j)=>a.setIfInBounds (sa+k+j) p) (arrOf a_)).Perm (arrOf st):=by
   rw[nj];refine(vH wl).trans ?_;rw[m.arr,Jg,Nat.add_zero];have Mp:=nj.mp hp;rw[eQ,dY,dY] at Mp;refine((Mp.append_left _).append_right _).trans ?_;have e1:(arrOf st).toList.drop (sa+k)=((arrOf st).toList.drop (sa+k)).take (sb-(sa+k))++(arrOf st).toList.drop sb:=nX (by lia);have e2:(arrOf st).toList.drop sb=((arrOf st).toList.drop sb).take (sb+k2-sb)++(arrOf st).toList.drop (sb+k2):=nX (by lia);have e3:sa+k+(sb-(sa+k)+k2)=sb+k2:=by lia
   rw[e3];refine vH ?_;conv=>rhs;rw[<-lZ (sa+k) (arrOf st).toList,e1,e2]
   simp only[cT]
  have hf:(failedOf a_).isNone=true:=by rw[m.failed];rfl
  show Q (failedOf a_).isNone _;rw[hf];exact h _ ⟨Kr,⟨pm.trans hq.perm,m.kind,m.failed,m.pend⟩,EO,VL⟩
 by_cases f3:na-k<=k2
 .rw[ai f3];exact av (xP hC Mq hx hy (by lia) (by lia) fun out a_ hp m=>last out a_ hp m)
 .rw[ap f3];exact av (xR hC Mq hx hy (by lia) (by lia) fun out a_ hp m=>last out a_ hp m)
theorem xT{c:Prop}[Decidable c]{x:Nat}:(if c then x-1 else x)<=x:=by split <;> lia
theorem SR.pw{lo:Nat}{st:SortSt}(h:SR κ a₀ lo st)(i p:Nat):SR κ a₀ lo (setPending st ((pendingOf st).modify i fun r=>(r.1,r.2.1,p))):=by
 obtain⟨pd,hq,hr,hl⟩:=h;refine⟨_,⟨hq.perm,hq.kind,hq.failed,rfl⟩,?_,hl⟩;show i9 ((pendingOf st).modify i fun r=>(r.1,r.2.1,p)).toList 0 lo;rw[hq.pend,Array.toList_modify];exact hr.pw i p
theorem SR.push{lo n:Nat}{st:SortSt}(h:SR κ a₀ lo st)(h1:1<=n)(hn:lo+n<=a₀.size):SR κ a₀ (lo+n) (setPending st ((pendingOf st).push (lo,n,0))):=by
 obtain⟨pd,hq,hr,hl⟩:=h;refine⟨_,⟨hq.perm,hq.kind,hq.failed,rfl⟩,?_,hn⟩;show i9 ((pendingOf st).push (lo,n,0)).toList 0 (lo+n);rw[hq.pend,j_];exact hr.push h1
theorem DP{st:SortSt}{Q:Unit->SortSt->Prop}(hC:xL prog w A s κ a₀)(hp:(arrOf st).Perm a₀)(hk:kindOf st=κ)(hf:failedOf st=none)(hpd:pendingOf st=#[])(h:∀a_,(arrOf a_).Perm a₀->failedOf a_=none->Q () a_):wpS (model prog w) A E s sortRuns' Q st:=by
 have h0:SR κ a₀ 0 st:=⟨#[],⟨hp,hk,hf,hpd⟩,rfl,cE _⟩
 have hsz:(arrOf st).size=a₀.size:=hp.size_eq;rw[sortRuns'_eq];refine av (h_ ?_);dsimp only;rw[hsz];refine av (dM (fv (I:=fun _ c a_=>∃lo,c=(none,lo)/\SR κ a₀ lo a_) (Q:=fun c a_=>∃lo,c=(none,lo)/\SR κ a₀ lo a_) ?_ (fun c a_ hh=>hh) ⟨0,rfl,h0⟩) ?_)
 .rintro i c Js _ _ ⟨lo,rfl,hR⟩;dsimp only;by_cases e1:lo>=a₀.size
  .rw[ai e1];exact aL ⟨lo,rfl,hR⟩
  rw[ap e1];have VL:lo<a₀.size:=by lia
  obtain⟨pd,hq,hr,hl⟩:=hR;refine av (DO hC (by lia) (by lia) hq fun n oo VO n1 n2=>?_);dsimp only;by_cases hm:n<minRun' a₀.size a₀.size 0
  .rw[ai hm];refine av (mj (wpAny_rule ⟨rfl,?_⟩));refine av (Kl hC (by lia) VO fun xc hq3=>?_);simp only[rF,l9,gv];have Jh:SR κ a₀ lo xc:=⟨pd,hq3,hr,hl⟩
   refine av (h_ ?_);cases hb:(pendingOf xc).back? with
   |none=>
    dsimp only;exact av (gu (aL ⟨_,rfl,Jh.push (by lia) (by lia)⟩))
   |some r=>
    obtain⟨s1,n1',pw1⟩:=r;dsimp only;refine av (dM (fv (I:=fun _ c a_=>c=(none,())/\SR κ a₀ lo a_) (Q:=fun c a_=>c=(none,())/\SR κ a₀ lo a_) ?_ (fun c a_ hh=>hh) ⟨rfl,Jh⟩) ?_)
    .rintro x c tP _ _ ⟨rfl,xU⟩;refine av (h_ ?_);by_cases hs:(pendingOf tP).size > 1
     .rw[ai hs,dB (pendingOf tP) ((pendingOf tP).size-2) (by lia)];generalize (pendingOf tP)[(pendingOf tP).size-2]=r4;obtain⟨_,_,SO⟩:=r4;dsimp only;split
      .exact aL ⟨rfl,xU⟩
      .refine av (kS hC xU (by lia) fun tO SS=>?_);simp only[rF,l9,gv];exact aL ⟨rfl,SS⟩
     .rw[ap hs];exact aL ⟨rfl,xU⟩
    .rintro c tP ⟨rfl,xU⟩;dsimp only;exact av (gu (av (gu (aL ⟨_,rfl,(xU.pw _ _).push (by lia) (by lia)⟩))))
  .rw[ap hm];have Jh:SR κ a₀ lo oo:=⟨pd,VO,hr,hl⟩
   refine av (h_ ?_);cases hb:(pendingOf oo).back? with
   |none=>
    dsimp only;exact av (gu (aL ⟨_,rfl,Jh.push (by lia) (by lia)⟩))
   |some r=>
    obtain⟨s1,n1',pw1⟩:=r;dsimp only;refine av (dM (fv (I:=fun _ c a_=>c=(none,())/\SR κ a₀ lo a_) (Q:=fun c a_=>c=(none,())/\SR κ a₀ lo a_) ?_ (fun c a_ hh=>hh) ⟨rfl,Jh⟩) ?_)
    .rintro x c tP _ _ ⟨rfl,xU⟩;refine av (h_ ?_);by_cases hs:(pendingOf tP).size > 1
     .rw[ai hs,dB (pendingOf tP) ((pendingOf tP).size-2) (by lia)];generalize (pendingOf tP)[(pendingOf tP).size-2]=r4;obtain⟨_,_,SO⟩:=r4;dsimp only;split
      .exact aL ⟨rfl,xU⟩
      .refine av (kS hC xU (by lia) fun tO SS=>?_);simp only[rF,l9,gv];exact aL ⟨rfl,SS⟩
     .rw[ap hs];exact aL ⟨rfl,xU⟩
    .rintro c tP ⟨rfl,xU⟩;dsimp only;exact av (gu (av (gu (aL ⟨_,rfl,(xU.pw _ _).push (by lia) (by lia)⟩))))
 .rintro c Js ⟨lo,rfl,hR⟩;dsimp only;refine av (dM (fv (I:=fun _ c a_=>c=(none,())/\SR κ a₀ lo a_) (Q:=fun c a_=>c=(none,())/\SR κ a₀ lo a_) ?_ (fun c a_ hh=>hh) ⟨rfl,hR⟩) ?_)
  .rintro x c tP _ _ ⟨rfl,xU⟩;refine av (h_ ?_);by_cases hs:(pendingOf tP).size<=1
   .rw[ai hs];exact aL ⟨rfl,xU⟩
   rw[ap hs];refine av (kS hC xU ?_ fun tO SS=>?_)
   .exact dN (zk xT) (show (pendingOf tP).size-2+1<(pendingOf tP).size by lia)
   .simp only[rF,l9,gv];exact aL ⟨rfl,SS⟩
  .rintro c tP ⟨rfl,pd,hq,_⟩;exact aL (h _ hq.perm hq.failed)
end
end PyProof.Rows
namespace L2
open PySem PySem.Spec PyProof.Rows PySem.W
def jx(h:Heap)(vs:List Value):Prop:=∀v∈vs,∃a o n x t y u,v=Value.ref a/\h.get? a=some o/\o.cls=.type "tuple"/\o.data=.seq #[.int x t,.int y u] n
theorem jx.mq{h:Heap}:∀ {vs:List Value},jx h vs->∃fs,KatTups h vs fs/\fs.length=vs.length/\∀v∈fs,∃n t,v=Value.int n t
 |[],_=>⟨[],trivial,rfl,fun v hv=>nomatch hv⟩
 |v::vs,hp=>by
  obtain⟨fs,k1,k2,k3⟩:=jx.mq (vs:=vs) fun b hb=>hp b (bL _ hb);obtain⟨a,o,n,x,t,y,u,rfl,e,c,d⟩:=hp v bN;refine⟨.int x t::fs,KatTups.cons e c d rfl k1,by simp[k2],fun v hv=>?_⟩;rcases a7.mp hv with z|z
  .exact⟨x,t,z⟩
  .exact k3 v z
section
variable {prog:Program} {w:World} {A:Around} {E:Value->Shared->Prop} {s:Shared}
theorem DQ{vs:List Value}(hp:jx s.heap vs):xL prog w A s (tuples' true) (vs.toArray.zip vs.toArray):=by
 have mem:∀x∈(vs.toArray.zip vs.toArray).toList,x.1∈vs:=by
  intro x hx;rw[Array.toList_zip] at hx;exact(rA hx).1
 intro x y hx hy Q E' q;obtain⟨a,o,n,x1,t1,x2,t2,e1,eo,_,ed⟩:=hp x.1 (mem x hx);obtain⟨b,o',n',y1,u1,y2,u2,e2,eo',_,ed'⟩:=hp y.1 (mem y hy);rw[e1,e2];refine kat_lt eo ed eo' ed' (kat_cons (zJ ?_));by_cases h1:x1=y1
 .rw[dL.mpr h1];refine kat_yes (kat_cons (zJ ?_));by_cases h2:x2=y2
  .rw[dL.mpr h2];exact kat_yes (kat_nil (q _))
  .rw[l7.mpr h2];exact kat_no (kat_one _ _ (lt_int (q _)))
 .rw[l7.mpr h1];exact kat_no (oneLt_int (q _))
theorem Ks{vs:List Value}:((vs.toArray.zip vs.toArray).map (·.2)).toList=vs:=by
 rw[vC,Array.toList_zip];show (vs.zip vs).map (·.2)=vs;rw[<-List.unzip_snd,List.unzip_zip_right (aW _)]
theorem qq{a:Addr}{vs:List Value}{n:Nat}{P:PySem.Fin->Shared->Prop}(ho:s.heap.get? a=some (seqObj "list" vs.toArray n))(hp:jx s.heap vs)(hz:vs.length<=4096)(h:∀ (out:Array Value),out.toList.Perm vs->P (.done (.ret .none)) { s with heap:=sortedHeap s.heap a vs out }):
  wpAny (model prog w) A (Builtin.«list.sort» ⟨[.ref a],[]⟩) P E s:=by
 rw[list_sort_plain];have ha:a<s.heap.objs.size:=aM ho;have QV:vs.toArray.size<=sizeLine:=by rw[cC,kr];lia
 refine aj (listItems_at ho rfl ?_);refine aj (listUpdate_at ho rfl ?_ QV (cE _));obtain⟨e1,Mz⟩:∃e1,(s.heap.update a (Obj.mapSeq fun _=>#[])).get? a=some (seqObj "list" #[] e1):=⟨_,get?_update_seq ho (fun _=>#[])⟩
 refine aj (seqEpoch_at Mz rfl ?_);refine aj (wpAny_newTuple ?_ (by show vs.length<=_;rw[kr];lia));refine aj (wpAny_newList ?_ (cE _));refine f9 ?_;have Q4:(((s.heap.update a (Obj.mapSeq fun _=>#[])).push (seqObj "tuple" vs.toArray 0)).push (seqObj "list" #[] 0)).get? a=some (seqObj "list" #[] e1):=by
  rw[jN _ _ _ (by rw[ky,iO];exact aT (dO ha)),jN _ _ _ (by rw[iO];exact aT ha)];exact Mz
 have hp6:jx (((s.heap.update a (Obj.mapSeq fun _=>#[])).push (seqObj "tuple" vs.toArray 0)).push (seqObj "list" #[] 0)) vs:=by
  intro v hv;obtain⟨b,o,n,x,t,y,u,ev,e,c,d⟩:=hp v hv;have hb:b<s.heap.objs.size:=aM e;have mC:b≠a:=by
   rintro rfl;rw[ho] at e;cases e;exact absurd (Value.type.inj c) (by decide)
  refine⟨b,o,n,x,t,y,u,ev,?_,c,d⟩;rw[jN _ _ _ (by rw[ky,iO];exact aT (dO hb)),jN _ _ _ (by rw[iO];exact aT hb),rh _ _ _ _ mC];exact e
 show wpAny (model prog w) A _ P E { s with heap:=((s.heap.update a (Obj.mapSeq fun _=>#[])).push (seqObj "tuple" vs.toArray 0)).push (seqObj "list" #[] 0) };dsimp only;have cK:∀a_:SortSt,(arrOf a_).Perm (vs.toArray.zip vs.toArray)->P (.done (.ret .none)) { s with heap:=sortedHeap s.heap a vs ((arrOf a_).map (·.2)) }:=by
  intro a_ VY;refine h _ ?_;have:=(nj.mp VY).map (·.2);rw[<-vC,<-vC,Ks] at this;exact this
 have zsz:(vs.toArray.zip vs.toArray).size=vs.length:=by simp
 by_cases h2:vs.toArray.size<2
 .rw[ai h2,ai h2];refine aj (wpAny_pure ?_);rw[StateT.run_pure];refine aj (wpAny_pure ?_);dsimp only;refine aj (seqEpoch_at Q4 rfl ?_);refine aj (listUpdate_at Q4 rfl ?_ (cE _) (by show ((vs.toArray.zip vs.toArray).map (·.2)).size<=_;rw[iP,zsz,kr];lia));simp only[bne_self_eq_false,l9,gv];exact wpAny_pure (cK (SortSt.mk' general' (vs.toArray.zip vs.toArray) #[] 7 none) (Array.Perm.refl _))
 .rw[ap h2,ap h2];have cG:2<=vs.length:=by rw[cC] at h2;lia
  obtain⟨fs,k1,k2,k3⟩:=hp6.mq;refine aj (kat_kind (T:=.type "int") k1 (by lia) (fun v hv=>?_) rfl ?_)
  .obtain⟨m,t,rfl⟩:=k3 v hv;exact .now
  refine aj (gs (DP (a₀:=vs.toArray.zip vs.toArray) (κ:=tuples' true) (st:=SortSt.mk' (tuples' true) (vs.toArray.zip vs.toArray) #[] 7 none)
   (Q:=fun _ a_=>(arrOf a_).Perm (vs.toArray.zip vs.toArray)/\failedOf a_=none) (DQ hp6) (Array.Perm.refl _) rfl rfl rfl fun a_ b1 b2=>⟨b1,b2⟩) ?_ fun _ _ e=>e)
  rintro⟨⟨⟩,a_⟩ s' ⟨rfl,VY,hf⟩;dsimp only;refine aj (seqEpoch_at Q4 rfl ?_);refine aj (listUpdate_at Q4 rfl ?_ (cE _) (by refine aZ (rH ((iP ..).trans (VY.size_eq.trans zsz))) ?_;rw[kr];lia));rw[hf];simp only[bne_self_eq_false,l9,gv];exact wpAny_pure (cK a_ VY)
theorem wj{l:Addr}{vs:List Value}{Q:Value->Shared->Prop}(hl:s.heap.IsList l vs.toArray)(hp:jx s.heap vs)(hz:vs.length<=4096)(h:∀ (out:Array Value),out.toList.Perm vs->Q (.ref (s.heap.objs.size+1)) { s with heap:=sortedAll s.heap vs out }):
  wpAny (model prog w) A (call (.builtin "sorted") [.ref l]) Q E s:=by
 have QV:vs.length<=sizeLine:=by rw[kr];lia
 refine Calls.call_function_entry kind_sorted plain_sorted entry_sorted (args_sorted1 _) ?_;unfold Builtin.«sorted»;refine aj (m:=checkCount "sorted" 1 1 _) (wpAny_pure ?_);refine aj (collect_list hl ?_ QV);refine aj (wpAny_newList ?_ QV);have hsz:((s.heap.push (seqObj "list" #[] 0)).update s.heap.objs.size (Obj.mapSeq (·++vs.toArray))).objs.size=s.heap.objs.size+1:=by
  rw[iO,ky]
 have EJ:(((s.heap.push (seqObj "list" #[] 0)).update s.heap.objs.size (Obj.mapSeq (·++vs.toArray))).push (seqObj "list" vs.toArray 0)).get? (s.heap.objs.size+1)=some (seqObj "list" vs.toArray 0):=by
  rw[<-hsz];exact bR _ rfl
 have Xw:jx (((s.heap.push (seqObj "list" #[] 0)).update s.heap.objs.size (Obj.mapSeq (·++vs.toArray))).push (seqObj "list" vs.toArray 0)) vs:=by
  intro v hv;obtain⟨b,o,n,x,t,y,u,ev,e,c,d⟩:=hp v hv;have hb:b<s.heap.objs.size:=aM e;refine⟨b,o,n,x,t,y,u,ev,?_,c,d⟩;rw[jN _ _ _ (by rw[hsz];exact aT (dO hb)),rh _ _ _ _ (aT hb),jN _ _ _ (aT hb)];exact e
 show wpAny _ _ _ _ _ { s with heap:=((s.heap.push (seqObj "list" #[] 0)).update s.heap.objs.size (Obj.mapSeq (·++vs.toArray))).push (seqObj "list" vs.toArray 0) };rw[hsz];refine aj (f9 (g_ slot_list_sort ⟨_,EJ,rfl⟩ entry_list_sort (qq EJ Xw hz fun out a1=>⟨_,rfl,?_⟩) (args_list_sort _)));exact wpAny_pure ⟨_,rfl,h out a1⟩
end
theorem sG:∀ {as:List Addr} {its:List Value},aP (as.map V.ref) its->its=as.map Value.ref
 |[],_,r=>by cases r;rfl
 |a::as,_,r=>by
  cases r with
  |cons r rr=>
   obtain rfl:=(show _=Value.ref a from r)
   rw[sG rr];rfl
theorem uO:∀ {as:List Addr},aP (as.map V.ref) (as.map Value.ref)
 |[]=>.nil
 |_::_=>.cons rfl uO
theorem DS{as:List Addr}{vs:List Value}(h:vs.Perm (as.map Value.ref)):∃yC:List Addr,vs=yC.map Value.ref/\yC.Perm as:=by
 let un:Value->Addr:=fun v=>match v with|.ref a=>a|_=>0
 refine⟨vs.map un,?_,?_⟩
 .rw[fu];have:∀v∈vs,(Value.ref ∘ un) v=v:=by
   intro v hv;obtain⟨a,_,rfl⟩:=aQ.mp (h.mem_iff.mp hv);rfl
  conv=>lhs;rw[<-jm vs]
  exact jJ fun v hv=>(this v hv).symm
 .have:=h.map un;rw[fu] at this;have e:as.map (un ∘ Value.ref)=as:=by
   conv=>rhs;rw[<-jm as]
   exact jJ fun a _=>rfl
  rw[e] at this;exact this
def Gv(K:PySem.W.Frag):List V->Hp->VK->Prop:=fun xs H Q=>∃ (l:Addr) (as:List Addr),xs=[.ref l]/\bh K H l (as.map V.ref)/\(∀a∈as,∃x y:Int,bz K H a [.int x,.int y])/\as.length<=4096/\
 ∀ (D:Addr) (yC:List Addr),H D=none->yC.Perm as->Q (.ref D) (upd H D (.lst (yC.map V.ref)))
theorem Ax{X:Cx}:gb X (.builtin "sorted") (Gv X.K):=by
 intro ae s σ H xs us Q I r h;obtain⟨l,as,rfl,hl,hp,hz,q⟩:=h;obtain⟨u1,rfl,r1⟩:=r.one;obtain rfl:u1=Value.ref l:=r1;obtain⟨its,rv,pl,_⟩:=I.list hl;have Od:=sG rv;subst Od;have hpv:jx s.heap (as.map Value.ref):=by
  intro v hv;obtain⟨a,ha,rfl⟩:=aQ.mp hv;obtain⟨x,y,Q5⟩:=hp a ha;obtain⟨its,r,⟨o,e,c,n,d⟩,_⟩:=I.tuple Q5;obtain⟨u1,u2,rfl,r1,r2⟩:=r.two;obtain⟨t,rfl⟩:=r1;obtain⟨t',rfl⟩:=r2;exact⟨a,o,n,x,t,y,t',rfl,e,c,d⟩
 refine wj pl.isList hpv (by rw[aV];exact hz) fun out sH=>?_;obtain⟨yC,eo,pa⟩:=DS sH;have DE:out=(yC.map Value.ref).toArray:=by rw[<-eo]
 subst DE;have XF:((s.heap.push (seqObj "list" #[] 0)).update s.heap.objs.size (Obj.mapSeq (·++(as.map Value.ref).toArray))).objs.size=s.heap.objs.size+1:=by rw[iO,ky]
 have k1:∀b u,s.heap.get? b=some u->(((s.heap.push (seqObj "list" #[] 0)).update s.heap.objs.size (Obj.mapSeq (·++(as.map Value.ref).toArray))).push (seqObj "list" (as.map Value.ref).toArray 0)).get? b=some u:=fun b u e=>by
  have hb:b<s.heap.objs.size:=aM e;rw[jN _ _ _ (by rw[XF];exact aT (dO hb)),rh _ _ _ _ (aT hb),jN _ _ _ (aT hb)];exact e
 have EJ:(((s.heap.push (seqObj "list" #[] 0)).update s.heap.objs.size (Obj.mapSeq (·++(as.map Value.ref).toArray))).push (seqObj "list" (as.map Value.ref).toArray 0)).get? (s.heap.objs.size+1)=some (seqObj "list" (as.map Value.ref).toArray 0):=by
  rw[<-XF];exact bR _ rfl
 have Q6:(((s.heap.push (seqObj "list" #[] 0)).update s.heap.objs.size (Obj.mapSeq (·++(as.map Value.ref).toArray))).push (seqObj "list" (as.map Value.ref).toArray 0)).objs.size=s.heap.objs.size+2:=by rw[ky,XF]
 show EP X ae σ Q (.ref (s.heap.objs.size+1)) { s with heap:=sortedHeap (((s.heap.push (seqObj "list" #[] 0)).update s.heap.objs.size (Obj.mapSeq (·++(as.map Value.ref).toArray))).push (seqObj "list" (as.map Value.ref).toArray 0)) (s.heap.objs.size+1) (as.map Value.ref) (yC.map Value.ref).toArray };revert k1 EJ Q6;generalize ((s.heap.push (seqObj "list" #[] 0)).update s.heap.objs.size (Obj.mapSeq (·++(as.map Value.ref).toArray))).push (seqObj "list" (as.map Value.ref).toArray 0)=h1;intro k1 EJ Q6;obtain⟨e1,Mz⟩:∃e1,(h1.update (s.heap.objs.size+1) (Obj.mapSeq fun _=>(#[]:Array Value))).get? (s.heap.objs.size+1)=some (seqObj "list" #[] e1):=⟨_,get?_update_seq EJ (fun _=>#[])⟩
 have Q4:(((h1.update (s.heap.objs.size+1) (Obj.mapSeq fun _=>(#[]:Array Value))).push (seqObj "tuple" (as.map Value.ref).toArray 0)).push (seqObj "list" #[] 0)).get? (s.heap.objs.size+1)=some (seqObj "list" #[] e1):=by
  rw[jN _ _ _ (by rw[ky,iO,Q6];exact aT (dO (j5 _))),jN _ _ _ (by rw[iO,Q6];exact aT (j5 _))];exact Mz
 obtain⟨e2,ho7⟩:∃e2,(sortedHeap h1 (s.heap.objs.size+1) (as.map Value.ref) (yC.map Value.ref).toArray).get? (s.heap.objs.size+1)=some (seqObj "list" (yC.map Value.ref).toArray e2):=⟨_,get?_update_seq Q4 (fun _=>(yC.map Value.ref).toArray)⟩
 have keep:∀b u,s.heap.get? b=some u->(sortedHeap h1 (s.heap.objs.size+1) (as.map Value.ref) (yC.map Value.ref).toArray).get? b=some u:=fun b u e=>by
  have hb:b<s.heap.objs.size:=aM e;unfold sortedHeap;rw[rh _ _ _ _ (aT (dO hb)),jN _ _ _ (by rw[ky,iO,Q6];exact aT (dO (dO (dO hb)))),jN _ _ _ (by rw[iO,Q6];exact aT (dO (dO hb))),rh _ _ _ _ (aT (dO hb))];exact k1 b u e
 have ME:s.heap.get? (s.heap.objs.size+1)=none:=re (by lia);refine⟨.ref (s.heap.objs.size+1),_,I.xy (t':=s.toks) (o:=.lst (yC.map V.ref)) keep ME ⟨?_,yC.map Value.ref,e2,uO,ho7⟩,rfl,q _ yC (I.bU.r_ ME) pa⟩;rw[aV,pa.length_eq];exact aZ hz (by decide)
open PySem PySem.Spec PyProof.Rows
theorem cH(sb:Heap.SameBut c h h')(n:b≠c)(e:h.get? b=some o):h'.get? b=some o:=(sb.2 b n).trans e
theorem fc(r:h.IsTupleIter it t k)(sb:Heap.SameBut c h h')(n:it≠c):h'.IsTupleIter it t k:=r.at fun o e=>cH sb n e
theorem sI(r:h.IsTuple t xs)(sb:Heap.SameBut c h h')(n:t≠c):h'.IsTuple t xs:=let ⟨o,e,z⟩:=r;⟨o,cH sb n e,z⟩
section
variable {prog:Program} {w:World} {A:Around} {E:Value->Shared->Prop} {s:Shared}
theorem DT{z ti tq i1 i2 t1 t2:Addr}{k:Nat}{xs ys:Array Value}{x y a b:Value}{Q:Value->Shared->Prop}(dj:ZipApart z ti tq i1 i2 t1 t2)(gz:IsZip s.heap z ti tq .none)(gi:IsPair s.heap ti (.ref i1) (.ref i2))(gq:IsPair s.heap tq a b)(r1:s.heap.IsTupleIter i1 t1 k)(r2:s.heap.IsTupleIter i2 t2 k)(g1:s.heap.IsTuple t1 xs)(g2:s.heap.IsTuple t2 ys)(ex:xs[k]?=some x)(ey:ys[k]?=some y)(q:∀h',IsZip h' z ti tq (rawInt s.heap.objs.size)->IsPair h' tq x y->h'.IsTupleIter i1 t1 (k+1)->h'.IsTupleIter i2 t2 (k+1)->IsPair h' s.heap.objs.size x y->(∀c o,c≠z->c≠tq->c≠i1->c≠i2->s.heap.get? c=some o->h'.get? c=some o)->Q (.ref s.heap.objs.size) { s with heap:=h' }):
  wpAny (model prog w) A (Builtin.«zip.__next__» ⟨[.ref z],[]⟩) (fun cK s'=>∃v,cK=.done (.ret v)/\Q v s') E s:=by
 change wpAny _ _ (field (.ref z) 2 >>= _) _ _ _;refine aj (dQ gz rfl (x:=.bool false) rfl ?_);change wpAny _ _ (field (.ref z) 3 >>= _) _ _ _;refine aj (dQ gz rfl (x:=.ref ti) rfl (aj (kj gi rfl ?_)));change wpAny _ _ (Builtin.SmallTypes.ownedTupleIsFree (.ref z) >>= _) _ _ _;refine aj ?_;unfold Builtin.SmallTypes.ownedTupleIsFree;refine aj (dQ gz rfl (x:=.none) rfl (wpAny_pure ?_));simp only[mi];refine aj (wpAny_rule (aj (dQ gz rfl (x:=.ref tq) rfl ?_)));refine aj (j8 gz (by simp) fun m1 Ku ot=>?_);replace Ku:IsZip m1 z ti tq .ellipsis:=Ku;refine aj ?_;simp only[zo,List.zipIdx_nil,vF,vI];refine aj (aj (wpAny_onRaise ?_));change wpAny _ _ (Builtin.SmallTypes.nextOf (.ref i1) >>= _) _ _ _;refine aj (mE (fc r1 ot dj.i1z) (sI g1 ot dj.l1z) ex fun m2 r12 ou=>wpAny_pure ?_);have gq2:IsPair m2 tq a b:=cH ou dj.TOi1 (cH ot dj.TOz gq);refine aj (kj gq2 rfl (aj (wpAny_updateSeq_pair gq2 fun m3 XG Kv=>?_)));replace XG:IsPair m3 tq x b:=XG;refine aj (wpAny_letGo (wpAny_pure ?_));refine aj (aj (wpAny_onRaise ?_));change wpAny _ _ (Builtin.SmallTypes.nextOf (.ref i2) >>= _) _ _ _;refine aj (mE (fc (fc (fc r2 ot dj.i2z) ou dj.i12.symm) Kv dj.TOi2.symm) (sI (sI (sI g2 ot dj.l2z) ou dj.l2i1) Kv dj.l2TO) ey fun m4 r24 SU=>wpAny_pure ?_);have gq4:IsPair m4 tq x b:=cH SU dj.TOi2 XG;refine aj (kj gq4 rfl (aj (wpAny_updateSeq_pair gq4 fun m5 VZ SV=>?_)));replace VZ:IsPair m5 tq x y:=VZ;refine aj (wpAny_letGo (wpAny_pure (wpAny_pure ?_)));refine aj (kj VZ rfl (aj (wpAny_newTuple ?_)));have sz:m5.objs.size=s.heap.objs.size:=by rw[SV.1,SU.1,Kv.1,ou.1,ot.1]
 have gz5:IsZip m5 z ti tq .ellipsis:=cH SV dj.TOz.symm (cH SU dj.i2z.symm (cH Kv dj.TOz.symm (cH ou dj.i1z.symm Ku)));have kp5:∀c o,c≠z->c≠tq->c≠i1->c≠i2->s.heap.get? c=some o->m5.get? c=some o:=fun c o c1 c2 c3 c4 e=>
  cH SV c2 (cH SU c4 (cH Kv c2 (cH ou c3 (cH ot c1 e))))
 have r15:m5.IsTupleIter i1 t1 (k+1):=fc (fc (fc r12 Kv dj.TOi1.symm) SU dj.i12) SV dj.TOi1.symm;have r25:m5.IsTupleIter i2 t2 (k+1):=fc r24 SV dj.TOi2.symm;have zl:z<m5.objs.size:=aM gz5;change wpAny _ _ (Builtin.SmallTypes.ownedTupleHandOut (.ref z) (.ref m5.objs.size) >>= _) _ _ _;refine aj ?_;unfold Builtin.SmallTypes.ownedTupleHandOut;have gz6:IsZip (m5.push { cls:=.type "tuple",data:=.seq #[x,y] }) z ti tq .ellipsis:=bp _ gz5;refine aj (j8 gz6 (by simp) fun m7 XH sb7=>?_);replace XH:IsZip m7 z ti tq (rawInt m5.objs.size):=XH;refine j8 XH (by simp) fun m8 V0 sb8=>?_;replace V0:IsZip m8 z ti tq (rawInt m5.objs.size):=V0;have up:∀c o,c≠z->m5.get? c=some o->m8.get? c=some o:=fun c o c1 e=>cH sb8 c1 (cH sb7 c1 (bp _ e));have gp8:IsPair m8 m5.objs.size x y:=cH sb8 (gj zl) (cH sb7 (gj zl) (bR _ rfl));rw[sz] at V0 gp8;refine wpAny_pure ⟨_,rfl,?_⟩;change Q (.ref m5.objs.size) _;rw[sz];exact q m8 V0 (up _ _ dj.TOz VZ) (r15.at fun o e=>up _ o dj.i1z e) (r25.at fun o e=>up _ o dj.i2z e) gp8 fun c o c1 c2 c3 c4 e=>up c o c1 (kp5 c o c1 c2 c3 c4 e)
theorem Gw(hh:A.handled=none)(dj:ZipApart z ti tq i1 i2 t1 t2)(gz:IsZip s.heap z ti tq .none)(gi:IsPair s.heap ti (.ref i1) (.ref i2))(r1:s.heap.IsTupleIter i1 t1 k)(g1:s.heap.IsTuple t1 xs)(ex:xs[k]?=none)(q:∀h' e,(∀c o,c≠z->c≠i1->s.heap.get? c=some o->h'.get? c=some o)->(∃o,h'.get? e=some o/\o.cls=.type "StopIteration")->E (.ref e) { s with heap:=h' }):
  wpAny (model prog w) A (Builtin.«zip.__next__» ⟨[.ref z],[]⟩) Q E s:=by
 change wpAny _ _ (field (.ref z) 2 >>= _) _ _ _;refine aj (dQ gz rfl (x:=.bool false) rfl ?_);change wpAny _ _ (field (.ref z) 3 >>= _) _ _ _;refine aj (dQ gz rfl (x:=.ref ti) rfl (aj (kj gi rfl ?_)));change wpAny _ _ (Builtin.SmallTypes.ownedTupleIsFree (.ref z) >>= _) _ _ _;refine aj ?_;unfold Builtin.SmallTypes.ownedTupleIsFree;refine aj (dQ gz rfl (x:=.none) rfl (wpAny_pure ?_));simp only[mi];refine aj (wpAny_rule (aj (dQ gz rfl (x:=.ref tq) rfl ?_)));refine aj (j8 gz (by simp) fun m1 Ku ot=>?_);replace Ku:IsZip m1 z ti tq .ellipsis:=Ku;refine aj ?_;simp only[zo,List.zipIdx_nil,vF,vI];refine aj (aj (wpAny_onRaise ?_));change wpAny _ _ (Builtin.SmallTypes.nextOf (.ref i1) >>= _) _ _ _;refine aj (pF hh (fc r1 ot dj.i1z) (sI g1 ot dj.l1z) ex fun m2 e ou he=>?_);obtain⟨oe,XI,hce⟩:=he;have V1:IsZip m2 z ti tq .ellipsis:=ou _ _ dj.i1z.symm Ku;have nez:e≠z:=fun y=>by subst y;rw[V1] at XI;cases XI;simp at hce
 exact j8 V1 (by simp) fun m3 _ Kv=>q m3 e (fun c o c1 c3 y=>cH Kv c1 (ou _ _ c3 (cH ot c1 y))) ⟨oe,cH Kv nez XI,hce⟩
theorem Ay(dj:ZipApart z ti tq i1 i2 t1 t2)(gz:IsZip s.heap z ti tq .none)(gi:IsPair s.heap ti (.ref i1) (.ref i2))(gq:IsPair s.heap tq a b)(r1:s.heap.IsTupleIter i1 t1 k)(r2:s.heap.IsTupleIter i2 t2 k)(g1:s.heap.IsTuple t1 xs)(g2:s.heap.IsTuple t2 ys)(ex:xs[k]?=some x)(ey:ys[k]?=some y)(q:∀h',IsZip h' z ti tq (rawInt s.heap.objs.size)->IsPair h' tq x y->h'.IsTupleIter i1 t1 (k+1)->h'.IsTupleIter i2 t2 (k+1)->IsPair h' s.heap.objs.size x y->(∀c o,c≠z->c≠tq->c≠i1->c≠i2->s.heap.get? c=some o->h'.get? c=some o)->Q (some (.ref s.heap.objs.size)) { s with heap:=h' }):
  wpAny (model prog w) A (pyNext (.ref z)) Q E s:=by
 have ty:s.TypeIs (.ref z) "zip":=⟨_,gz,rfl⟩
 unfold pyNext;refine aj (mh (lN (name:=Str.ofString "__next__") ty F.slot_zip_next (g_ F.slot_zip_next ty F.entry_zip_next ?_ (F.args_zip_next_1 _))));exact DT dj gz gi gq r1 r2 g1 g2 ex ey fun h' a1 a2 a3 a4 a5 a6=>wpAny_pure (q h' a1 a2 a3 a4 a5 a6)
theorem Az(hh:A.handled=none)(dj:ZipApart z ti tq i1 i2 t1 t2)(gz:IsZip s.heap z ti tq .none)(gi:IsPair s.heap ti (.ref i1) (.ref i2))(r1:s.heap.IsTupleIter i1 t1 k)(g1:s.heap.IsTuple t1 xs)(ex:xs[k]?=none)(q:∀h',(∀c o,c≠z->c≠i1->s.heap.get? c=some o->h'.get? c=some o)->Q none { s with heap:=h' }):wpAny (model prog w) A (pyNext (.ref z)) Q E s:=by
 have ty:s.TypeIs (.ref z) "zip":=⟨_,gz,rfl⟩
 unfold pyNext;refine aj (mh (lN (name:=Str.ofString "__next__") ty F.slot_zip_next (g_ F.slot_zip_next ty F.entry_zip_next (Gw hh dj gz gi r1 g1 ex fun h' e hk he=>?_) (F.args_zip_next_1 _))));obtain⟨o,ho,hc⟩:=he;exact aj (rB (T:="StopIteration") (b:=true) ⟨o,ho,hc⟩ vP (wpAny_pure (q _ hk)))
abbrev zT(t:Addr):Obj:={ cls:=.type "tuple_iterator",data:=.fields #[.ref t,.int 0 0] }
abbrev V2(h:Heap)(t1 t2:Addr):Heap:=((h.push (zT t1)).push (zT t2)).push { cls:=.type "tuple",data:=.seq #[.ref h.objs.size,.ref (h.push (zT t1)).objs.size] }
abbrev V3(h:Heap)(t1 t2:Addr):Heap:=(V2 h t1 t2).push { cls:=.type "tuple",data:=.seq #[.none,.none] }
abbrev Q7(h:Heap)(t1 t2:Addr):Heap:=(V3 h t1 t2).push { cls:=.type "zip",data:=.fields #[.none,.bool false,.bool false,.ref ((h.push (zT t1)).push (zT t2)).objs.size,.ref (V2 h t1 t2).objs.size] }
theorem Gx(t1 t2:Addr)(xs ys:Array Value):
  Meets (Builtin.«zip.__new__» ⟨[.type "zip",.ref t1,.ref t2],[]⟩) (fun _ R s=>s.heap.IsTuple t1 xs/\s.heap.IsTuple t2 ys/\R (.ok (.ret (.ref (V3 s.heap t1 t2).objs.size))) { s with heap:=Q7 s.heap t1 t2 }):=
 .of_wp fun prog w A R s h=>by
  obtain⟨hp,g,d,tk,os⟩:=s;obtain⟨g1,g2,h⟩:=h;have XJ:=sub_zip;have gA:Heap.IsTuple (Shared.heap ⟨hp,g,d,tk,os⟩) t1 xs:=g1;have gB:Heap.IsTuple (Shared.heap ⟨hp.push (zT t1),g,d,tk,os⟩) t2 ys:=let ⟨o,e,z⟩:=g2;⟨o,bp _ e,z⟩
  wp_walk using rk gA,rk gB
  exact⟨_,rfl,h⟩
theorem DU(g1:s.heap.IsTuple t1 xs)(g2:s.heap.IsTuple t2 ys)(q:∀h',IsZip h' (s.heap.objs.size+4) (s.heap.objs.size+2) (s.heap.objs.size+3) .none->IsPair h' (s.heap.objs.size+2) (.ref s.heap.objs.size) (.ref (s.heap.objs.size+1))->IsPair h' (s.heap.objs.size+3) .none .none->
   h'.IsTupleIter s.heap.objs.size t1 0->h'.IsTupleIter (s.heap.objs.size+1) t2 0->(∀c o,s.heap.get? c=some o->h'.get? c=some o)->Q (.ref (s.heap.objs.size+4)) { s with heap:=h' }):
  wpAny (model prog w) A (call (.type "zip") [.ref t1,.ref t2]) Q E s:=by
 refine callType_new F.called_zip (by decide) (F.typeCall_zip_2 _ _) (F.newCall_zip_2 _ _) (fun obj=>F.args_object_init_3 obj _ _) F.entry_zip_new (Gx t1 t2 xs ys) ⟨g1,g2,?_⟩;have n1:(s.heap.push (zT t1)).objs.size=s.heap.objs.size+1:=hU ..;have n2:((s.heap.push (zT t1)).push (zT t2)).objs.size=s.heap.objs.size+2:=by rw[hU,n1]
 have n3:(V2 s.heap t1 t2).objs.size=s.heap.objs.size+3:=by rw[hU,n2]
 have n4:(V3 s.heap t1 t2).objs.size=s.heap.objs.size+4:=by rw[hU,n3]
 have e5:(Q7 s.heap t1 t2).get? (V3 s.heap t1 t2).objs.size=some _:=bR _ rfl;have e4:(Q7 s.heap t1 t2).get? (V2 s.heap t1 t2).objs.size=some _:=bp _ (bR _ rfl);have e3:(Q7 s.heap t1 t2).get? ((s.heap.push (zT t1)).push (zT t2)).objs.size=some _:=bp _ (bp _ (bR _ rfl));have e2:(Q7 s.heap t1 t2).get? (s.heap.push (zT t1)).objs.size=some _:=bp _ (bp _ (bp _ (bR _ rfl)));have e1:(Q7 s.heap t1 t2).get? s.heap.objs.size=some _:=bp _ (bp _ (bp _ (bp _ (bR _ rfl))));change _/\_;rw[n2,n3,n4] at e5;rw[n1,n2] at e3;rw[n3] at e4;rw[n1] at e2;rw[n4];exact⟨⟨_,e5,rfl⟩,q _ e5 e3 e4 ⟨_,e1,rfl,rfl⟩ ⟨_,e2,rfl,rfl⟩ fun c o y=>
  bp _ (bp _ (bp _ (bp _ (bp _ y))))⟩
end
theorem aE.Kw{X:Cx}{ae:List (Addr×Obj)}{σ:St}{H:Hp}{s:Shared}{h':Heap}{t':Nat}{ch:List Addr}(I:aE X ae σ H s)(fe:∀e∈ch,f_ X ae H e)(k:∀b o,b∉ch->s.heap.get? b=some o->h'.get? b=some o):aE X ae σ H { s with heap:=h',toks:=t' }:=by
 have Mg:∀b u,H b=some u->b∉ch:=fun b u e z=>by rw[(fe b z).1] at e;cases e
 refine I.step (g':=s.gens) (d':=s.drawn) (ch:=ch) (fun b hb=>?_) (fun b o _ _ hc e _=>k b o hc e) (fun b o _ _ hc e _=>⟨o.slots,k b o hc e⟩) (fun _ _ _ _ n=>n) (fun b o hc e=>⟨o,k b o hc e⟩) (fun _ _ e=>e) (fun _ _ _ e=>e) (fun b ps e=>⟨#[],by rw[e];simp⟩) (fun m hm=>?_) (fun b u e=>?_) I.bare
 .obtain⟨_,f1,_,f3,f4,f5⟩:=fe b hb;exact⟨f3,f1,f4,f5⟩
 .obtain⟨o,es,ep,ho,r⟩:=hm;exact⟨o,es,ep,k _ o (fun z=>(fe _ z).2.1 rfl) ho,r⟩
 .refine(I.bU b u e).oW (fun c v hc q=>k c v ?_ q) (fun _ q=>q) fun _ _ q=>q;rcases hc with z|z
  .rw[z];exact Mg b u e
  .exact Mg c _ z
theorem aE.Kx{X:Cx}{ae:List (Addr×Obj)}{σ:St}{H:Hp}{s:Shared}{h':Heap}{p:Addr}{t':Nat}{ch:List Addr}{xs:List V}{its:List Value}(I:aE X ae σ H s)(fe:∀e∈ch,f_ X ae H e)(k:∀b o,b∉ch->s.heap.get? b=some o->h'.get? b=some o)(hp:s.heap.objs.size<=p)(hl:xs.length<=sizeLine)(r:aP xs its)(ht:h'.get? p=some { cls:=.type "tuple",data:=.seq its.toArray }):aE X ae σ (upd H p (.tup xs)) { s with heap:=h',toks:=t' }:=by
 have hn:=I.bU.fresh hp;have ne:∀b o,s.heap.get? b=some o->b≠p:=fun b o q=>aT (bK (aM q) hp);have Mg:∀b u,H b=some u->b∉ch:=fun b u e z=>by rw[(fe b z).1] at e;cases e
 refine I.step (g':=s.gens) (d':=s.drawn) (ch:=ch) (fun b hb=>?_) (fun b o _ _ hb q _=>k b o hb q) (fun b o _ _ hb q _=>⟨o.slots,k b o hb q⟩) (fun b o hb q n=>by rw[al (ne b o q)];exact n) (fun b o hb q=>⟨o,k b o hb q⟩)
  (fun b ys q=>by rw[al (aq q hn)];exact q) (fun b o u q=>by rw[al (aq q hn)];exact q) (fun b ps q=>⟨#[],by rw[al (aq q hn),q];simp⟩) (fun m hm=>?_) (fun b o q=>?_) I.bare
 .obtain⟨_,f1,_,f3,f4,f5⟩:=fe b hb;exact⟨f3,f1,f4,f5⟩
 .obtain⟨o,es,ep,q,d,r'⟩:=hm;exact⟨o,es,ep,k _ _ (fun z=>(fe _ z).2.1 rfl) q,d,r'⟩
 .by_cases hb:b=p
  .subst hb;rw[ag] at q;cases q;exact⟨hl,its,r,_,ht,rfl,_,rfl,rfl⟩
  .rw[al hb] at q;refine(I.bU b o q).oW (fun c u hc z=>k c u ?_ z) (fun c z=>by rw[al (aq z hn)];exact z) fun c ys z=>by rw[al (aq z hn)];exact z
   rcases hc with rfl|hc
   .exact Mg _ _ q
   .exact Mg _ _ hc
def SW(K:PySem.W.Frag)(a b:Addr):It:=
 ⟨fun i H=>∃xs ys x y,bz K H a xs/\bz K H b ys/\xs[i]?=some x/\ys[i]?=some y,fun i H v H'=>∃p x y,v=.ref p/\H p=none/\H'=upd H p (.tup [x,y])/\(∀xs,bz K H a xs->xs[i]?=some x)/\∀ys,bz K H b ys->ys[i]?=some y,fun i H=>∃xs,bz K H a xs/\xs.length<=i,fun _ _=>False⟩
theorem Gy{P:Program}{w:World}{K:PySem.W.Frag}{es:List Expr}{x1:Nat}{pos:Pos}(a b z ti tq i1 i2:Addr)(dj:ZipApart z ti tq i1 i2 a b):
  qh P w K (.Tuple es x1 pos) (SW K a b) [z,ti,tq,i1,i2] z (fun i h=>IsZip h z ti tq .none/\IsPair h ti (.ref i1) (.ref i2)/\(∃u v,IsPair h tq u v)/\h.IsTupleIter i1 a i/\h.IsTupleIter i2 b i) where
 mem:=by simp
 obj:=fun i h st c hc=>by
  obtain⟨gz,gi,⟨u,v,gq⟩,⟨o1,q1,c1,d1⟩,⟨o2,q2,c2,d2⟩⟩:=st;simp only[a7,iE,kA] at hc;rcases hc with rfl|rfl|rfl|rfl|rfl
  .exact⟨_,gz,fun v z=>by have z':Data.fields _=Data.cell v:=z;cases z'⟩
  .exact⟨_,gi,fun v z=>by have z':Data.seq _ _=Data.cell v:=z;cases z'⟩
  .exact⟨_,gq,fun v z=>by have z':Data.seq _ _=Data.cell v:=z;cases z'⟩
  .exact⟨o1,q1,fun v z=>by rw[d1] at z;cases z⟩
  .exact⟨o2,q2,fun v z=>by rw[d2] at z;cases z⟩
 keep:=fun i h h' st k=>by
  obtain⟨gz,gi,⟨u,v,gq⟩,r1,r2⟩:=st;exact⟨k z (by simp) _ gz,k ti (by simp) _ gi,⟨u,v,k tq (by simp) _ gq⟩,r1.at fun o q=>k i1 (by simp) o q,r2.at fun o q=>k i2 (by simp) o q⟩
 item:=by
  intro X hP hw hK i ae s σ H E tX I hf st hg;subst hP hw hK;have hc:X.calm=true:=tX.elim id fun z=>(show False from z).elim;obtain⟨xs,ys,x,y,hx,hy,ex,ey⟩:=hg;obtain⟨us,rx,px,_⟩:=I.tuple hx;obtain⟨vs,ry,py,_⟩:=I.tuple hy;obtain⟨u,hu,ru⟩:=rx.get ex;obtain⟨v,hv,rv⟩:=ry.get ey;obtain⟨gz,gi,⟨u0,v0,gq⟩,r1,r2⟩:=st;refine Ay dj gz gi gq r1 r2 (show s.heap.IsTuple a us.toArray from px) (show s.heap.IsTuple b vs.toArray from py) (x:=u) (y:=v) (by simpa using hu) (by simpa using hv) fun h1 Ku gq1 r11 r21 gp1 kp=>?_;refine⟨_,rfl,wpAny_letOwnedTupleGo_zip Ku fun h2 V1 ou=>?_⟩;have zl:z<s.heap.objs.size:=aM gz;have nz:s.heap.objs.size≠z:=gj zl;have kp2:∀c o,c∉[z,tq,i1,i2]->s.heap.get? c=some o->h2.get? c=some o:=fun c o hc e=>by
   simp only[a7,iE,kA,jo] at hc;exact cH ou hc.1 (kp c o hc.1 hc.2.1 hc.2.2.1 hc.2.2.2 e)
  have gi2:IsPair h2 ti (.ref i1) (.ref i2):=kp2 _ _ (by simp only[a7,iE,kA,jo];exact⟨dj.TIz,dj.TITO,dj.TIi1,dj.TIi2⟩) gi;have fe:∀e∈[z,tq,i1,i2],f_ X ae H e:=fun e he=>hf e (by simp only[a7,iE,kA] at he |-;rcases he with h|h|h|h <;> simp[h]);have I2:aE X ae σ (upd H s.heap.objs.size (.tup [x,y])) { s with heap:=h2,toks:=s.toks }:=
   I.Kx (its:=[u,v]) fe kp2 (aW _) (by show 2<=sizeLine;decide) (.cons ru (.cons rv .nil)) (cH ou nz gp1)
  refine⟨.ref s.heap.objs.size,_,I2,rfl,⟨_,x,y,rfl,I.bU.fresh (aW _),rfl,fun zs hz=>by rw[I.fA hz hx];exact ex,fun zs hz=>by rw[I.fA hz hy];exact ey⟩,⟨V1,gi2,⟨u,v,cH ou dj.TOz gq1⟩,fc r11 ou dj.i1z,fc r21 ou dj.i2z⟩,fun c hc=>?_⟩;have f0:=(hf c hc).1;have cl:c<s.heap.objs.size:=by
   simp only[a7,iE,kA] at hc;rcases hc with rfl|rfl|rfl|rfl|rfl
   .exact zl
   .exact aM gi
   .exact aM gq
   .obtain⟨o,q,_⟩:=r1;exact aM q
   .obtain⟨o,q,_⟩:=r2;exact aM q
  rw[al (aT cl)];exact f0
 done:=by
  intro X hP hw hK i ae s σ H E tX I hf st hg;subst hP hw hK;have hc:X.calm=true:=tX.elim id fun z=>(show False from z).elim;obtain⟨xs,hx,hi⟩:=hg;obtain⟨us,rx,px,_⟩:=I.tuple hx;obtain⟨gz,gi,⟨u0,v0,gq⟩,r1,r2⟩:=st;have hl:=rx.length;refine Az (I.ok.hd hc) dj gz gi r1 (show s.heap.IsTuple a us.toArray from px) (by simp;lia) fun h' kp=>⟨rfl,?_⟩
  have fe:∀e∈[z,i1],f_ X ae H e:=fun e he=>hf e (by simp only[a7,iE,kA] at he |-;rcases he with h|h <;> simp[h]);refine I.Kw (t':=s.toks) fe fun c o hc e=>?_;simp only[a7,iE,kA,jo] at hc;exact kp c o hc.1 hc.2 e
 self:=fun _ _ _ _ _ st h=>wpAny_pyIter_zip st.1 h
section
variable {X:Cx}
def SX(K:PySem.W.Frag)(ta:TA):TI:=fun σ H R=>ta σ H fun vs H1=>∃a b xs ys,vs=[.ref a,.ref b]/\bz K H1 a xs/\bz K H1 b ys/\xs.length=ys.length/\R (SW K a b) H1
theorem Ky{es:List Expr}{x1:Nat}{Dg:Pos}{a b:Expr}{ta:TA}{p pos:Pos}(hg:Gl X "zip")(hm:X.mg "zip"=none)(ha:PA X [a,b] ta)(hs:starEach [a,b] X.env=[(false,eval a X.env),(false,eval b X.env)]:=by rfl)(tY:starEach [b] X.env=[(false,eval b X.env)]:=by rfl):
  PI X (.Tuple es x1 Dg) (.Call (.Name "zip" p) [a,b] [] pos) (SX X.K ta):=by
 intro ae s σ H R I h;refine Call_ (jq I hg hm PyProof.Rows.boot_zip (ow (cj (ha pos ae s σ H _ I h) fun us s1 ⟨vs,H1,I1,r1,q1⟩=>?_) (by rw[hs,tY]) (by rw[tY];rfl)));obtain⟨l,m,xs,ys,rfl,hl,hm',Q5,q⟩:=q1;obtain⟨u1,u2,rfl,Xx,ru2⟩:=r1.two;obtain rfl:u1=Value.ref l:=Xx;obtain rfl:u2=Value.ref m:=ru2;obtain⟨its,rv,pt,_⟩:=I1.tuple hl;obtain⟨JS,rv2,QM,_⟩:=I1.tuple hm';have df:l<s1.heap.objs.size:=by obtain⟨o,e,_⟩:=pt;exact aM e
 have Os:m<s1.heap.objs.size:=by obtain⟨o,e,_⟩:=QM;exact aM e
 refine DU (show s1.heap.IsTuple l its.toArray from pt) (show s1.heap.IsTuple m JS.toArray from QM) fun h' gz gi gq r1 r2 k=>?_;refine wpAny_pyIter_zip gz ?_;have I2:aE X ae σ H1 { s1 with heap:=h' }:=I1.kept (t':=s1.toks) k;refine⟨s1.heap.objs.size+4,[s1.heap.objs.size+4,s1.heap.objs.size+2,s1.heap.objs.size+3,s1.heap.objs.size,s1.heap.objs.size+1],_,_,H1,rfl,I2,Gy l m _ _ _ _ _ (zipApart_new df Os),⟨gz,gi,⟨_,_,gq⟩,r1,r2⟩,fun b hb=>?_,q⟩;have jT:s1.heap.objs.size<=b:=by
  simp only[a7,iE,kA] at hb;rcases hb with rfl|rfl|rfl|rfl|rfl
  .exact vA _ _
  .exact vA _ _
  .exact vA _ _
  .exact aW _
  .exact vA _ _
 exact I1.tW jT (I1.bU.fresh jT)
theorem AA(rx:aP xs us)(ry:aP ys vs)(fx:xs.all ie=true)(fy:ys.all ie=true):
  ∀j (h1:j<us.toArray.size) (h2:j<vs.toArray.size),SeqAt.EqAt A s us.toArray[j] vs.toArray[j] (vZ (xs.getD j .bA) (ys.getD j .bA)):=by
 intro j h1 h2;have j1:j<xs.length:=by rw[rx.length];simpa using h1
 have j2:j<ys.length:=by rw[ry.length];simpa using h2
 have e1:xs[j]?=some (xs.getD j .bA):=by rw[cg,cJ j1];rfl
 have e2:ys[j]?=some (ys.getD j .bA):=by rw[cg,cJ j2];rfl
 obtain⟨u,sq,ru⟩:=rx.get e1;obtain⟨v,Oa,rv⟩:=ry.get e2;have eu:us.toArray[j]=u:=by
  have:us[j]?=some us.toArray[j]:=by simp at h1 |-
  rw[sq] at this;exact(bi this).symm
 have ev:vs.toArray[j]=v:=by
  have:vs[j]?=some vs.toArray[j]:=by simp at h2 |-
  rw[Oa] at this;exact(bi this).symm
 rw[eu,ev];exact z7 ru rv (jO.mp fx _ (cB e1)) (jO.mp fy _ (cB e2))
theorem Gz(I:aE X ae σ H s)(hu:A.units+1<cLine)(ha:bz X.K H a xs)(hb:bz X.K H b ys)(hl:xs.length=ys.length)(fx:xs.all ie=true)(fy:ys.all ie=true):
  SeqAt.EqAt A s (.ref a) (.ref b) (iH vZ xs ys):=by
 by_cases ES:a=b
 .subst ES;have e1:=I.fA ha hb;subst e1;have e2:iH vZ xs xs=true:=by
   clear ha hb hl fy;induction xs with
   |nil=>rfl
   |cons x xs ih=>
    rw[vM,fq] at fx;rw[iH,ih fx.2,zK];cases x <;> first|rfl|(show (_==_)=true;simp)|exact absurd (show false=true from fx.1) bo
  rw[e2];exact SeqAt.EqAt.same _
 .obtain⟨us,r1,p1,_⟩:=I.tuple ha;obtain⟨vs,r2,p2,_⟩:=I.tuple hb;have h:=SeqAt.RcAt.tuples (A:=A) (s:=s) (l:=a) (b:=b) (e:=fun i=>vZ (xs.getD i .bA) (ys.getD i .bA)) (show s.heap.IsTuple a us.toArray from p1) (show s.heap.IsTuple b vs.toArray from p2) (by lia)
   (AA r1 r2 fx fy)
  refine SeqAt.EqAt.of_refs ES ?_;have er:((List.range (min us.toArray.size vs.toArray.size)).all (fun i=>vZ (xs.getD i .bA) (ys.getD i .bA))&&us.toArray.size==vs.toArray.size)=iH vZ xs ys:=by
   rw[cC,cC,<-r1.length,<-r2.length,<-hl,Nat.min_self,beq_self_eq_true,zK,iI hl]
  rw[er] at h;exact h
theorem AB{p q:Int×Int}:iH vZ [.int p.1,.int p.2] [.int q.1,.int q.2]=decide (p=q):=by
 obtain⟨a,b⟩:=p;obtain⟨c,d⟩:=q;show ((a==c)&&((b==d)&&true))=decide ((a,b)=(c,d));by_cases h1:a=c <;> by_cases h2:b=d <;> simp[h1,h2]
def Ot(K:PySem.W.Frag)(Jd:Bool):R2:=fun x y H Q=>∃ (p l:Addr) (u:Int×Int) (as:List Addr) (ps:List (Int×Int)),x=.ref p/\y=.ref l/\bz K H p [.int u.1,.int u.2]/\bh K H l (as.map V.ref)/\as.length=ps.length/\(∀i,i<ps.length->bz K H (as.getD i 0) [.int (ps.getD i (0,0)).1,.int (ps.getD i (0,0)).2])/\
 Q (.bl (if Jd then !decide (u∈ps) else decide (u∈ps))) H
open Classical in
theorem Cf(I:aE X ae σ H s):∀ {as:List Addr} {ps:List (Int×Int)},as.length=ps.length->(∀i,i<ps.length->bz X.K H (as.getD i 0) [.int (ps.getD i (0,0)).1,.int (ps.getD i (0,0)).2])->
  ((as.map Value.ref).any fun v=>decide (∃a,v=Value.ref a/\bz X.K H a [.int u.1,.int u.2]))=decide (u∈ps)
 |[],[],_,_=>by simp
 |a::as,p::ps,hl,h=>by
  have ih:=Cf I (u:=u) (as:=as) (ps:=ps) (by simpa using hl) (fun i hi=>h (i+1) (by simpa using hi));have h0:bz X.K H a [.int p.1,.int p.2]:=h 0 (by simp);rw[eD,kl,ih];have e:decide (∃b,Value.ref a=Value.ref b/\bz X.K H b [.int u.1,.int u.2])=decide (u=p):=by
   rw[jR,iC,iC];constructor
   .rintro⟨b,e,hb⟩;cases e;have:=I.fA h0 hb;have e1:p.1=u.1:=V.int.inj (oO this).1;have e2:p.2=u.2:=V.int.inj (oO (oO this).2).1;exact eK e1.symm e2.symm
   .rintro rfl;exact⟨a,rfl,h0⟩
  rw[e];by_cases z:u=p
  .simp[z]
  .simp[z]
open Classical in
theorem GA{ae:List (Addr×Obj)}{σ:St}{H:Hp}{s:Shared}{A:Around}(I:aE X ae σ H s)(hu:A.units+1<cLine){p:Addr}{u:Int×Int}(hp:bz X.K H p [.int u.1,.int u.2]){as:List Addr}{ps:List (Int×Int)}(hl:as.length=ps.length)(h:∀i,i<ps.length->bz X.K H (as.getD i 0) [.int (ps.getD i (0,0)).1,.int (ps.getD i (0,0)).2]):∀v∈as.map Value.ref,SeqAt.EqAt A s v (.ref p) (decide (∃a,v=Value.ref a/\bz X.K H a [.int u.1,.int u.2])):=by
 intro v hv;obtain⟨a,ha,rfl⟩:=aQ.mp hv;obtain⟨i,hi,e⟩:=oC.mp ha;have hq:=h i (by lia);have ea:as.getD i 0=a:=by rw[cg,cJ hi];exact e
 rw[ea] at hq;have z:=Gz (A:=A) I hu hq hp rfl rfl rfl;rw[AB] at z;have e:decide (∃b,Value.ref a=Value.ref b/\bz X.K H b [.int u.1,.int u.2])=decide (ps.getD i (0,0)=u):=by
  rw[jR,iC,iC];constructor
  .rintro⟨b,e,hb⟩;cases e;have:=I.fA hq hb;exact eK (V.int.inj (oO this).1) (V.int.inj (oO (oO this).2).1)
  .intro e;rw[<-e];exact⟨a,rfl,hq⟩
 rw[e];exact z
open Classical in
theorem DV(hu:X.A.units+2<cLine):lH X (compareOp .NotIn) (Ot X.K true):=by
 intro ae s σ H x y v u Q I rx ry h;obtain⟨p,l,w,as,ps,rfl,rfl,hp,hl,cG,hps,q⟩:=h;obtain rfl:v=Value.ref p:=rx;obtain rfl:u=Value.ref l:=ry;obtain⟨its,r,pl,_⟩:=I.list hl;have e:=sG r;subst e;refine SeqAt.notIn_listAt (fun v=>decide (∃a,v=Value.ref a/\bz X.K H a [.int w.1,.int w.2])) pl.isList (fun y hy=>GA I (by show X.A.units+1+1<cLine;lia) hp cG hps y (by simpa using hy)) ⟨.bl _,H,I,rfl,?_⟩;rw[show (as.map Value.ref).toArray.any (fun v=>decide (∃a,v=Value.ref a/\bz X.K H a [.int w.1,.int w.2]))=(as.map Value.ref).any (fun v=>decide (∃a,v=Value.ref a/\bz X.K H a [.int w.1,.int w.2])) by simp,Cf I cG hps];exact q
end
end L2
namespace jW
abbrev Ts:=List (Int×Int)
def T(ts:Ts)(a b:Nat):Prop:=(((a:Nat):Int),((b:Nat):Int))∈ts
instance (ts:Ts) (a b:Nat):Decidable (T ts a b):=inferInstanceAs (Decidable (_∈_))
def jy(ts:Ts):Nat->Nat->Nat->Prop
 |0,a,b=>a=b
 |k+1,a,b=>∃c,jy ts k a c/\T ts c b
theorem jy.trans(h:jy ts k a b):∀ {l:Nat} {c:Nat},jy ts l b c->jy ts (k+l) a c
 |0,_,e=>by cases e;exact h
 |l+1,_,⟨d,w,t⟩=>⟨d,h.trans w,t⟩
theorem jy.one(h:T ts a b):jy ts 1 a b:=⟨a,rfl,h⟩
theorem jy.cons(h:T ts a b)(w:jy ts k b c):jy ts (k+1) a c:=by
 have:=(jy.one h).trans w;rwa [Nat.add_comm] at this
def uP(ts:Ts)(a b d:Nat):Prop:=jy ts d a b/\∀k,jy ts k a b->d<=k
theorem uP.uniq(h:uP ts a b d)(g:uP ts a b e):d=e:=Nat.le_antisymm (h.2 _ g.1) (g.2 _ h.1)
open Classical in
noncomputable def MG(ts:Ts)(a b:Nat):Nat:=if h:∃d,uP ts a b d then h.choose else 0
theorem Ou(h:uP ts a b d):MG ts a b=d:=by
 unfold MG;have hx:∃d,uP ts a b d:=⟨d,h⟩
 rw[dif_pos hx];exact hx.choose_spec.uniq h
structure i_(n:Nat)(ts:Ts):Prop where
 n1:2<=n
 n2:n<=32
 nd:ts.Nodup
 rg:∀t∈ts,(0<=t.1/\t.1<n)/\(0<=t.2/\t.2<n)
 ne:∀t∈ts,t.1≠t.2
 bal:∀h:Int,(ts.filter fun t=>decide (t.1=h)).length=(ts.filter fun t=>decide (t.2=h)).length
 most:∀h:Int,(ts.filter fun t=>decide (t.1=h)).length<=8
 con:∀a b,a<n->b<n->∃k,jy ts k a b
theorem DW(f:α->Int):∀ (l:List α) (n:Nat),(∀x∈l,0<=f x/\f x<n)->(∀h:Int,(l.filter fun t=>decide (f t=h)).length<=8)->l.length<=8*n:=by
 intro l n;induction n generalizing l with
 |zero=>
  intro h _;cases l with
  |nil=>simp
  |cons x xs=>have:=h x bN;lia
 |succ n ih=>
  intro h h8;have e:l.length=(l.filter fun t=>decide (f t=(n:Int))).length+(l.filter fun t=>!decide (f t=(n:Int))).length:=by
   induction l with
   |nil=>rfl
   |cons x xs ih2=>
    have:=ih2 (fun y hy=>h y (bL _ hy)) (fun hh=>aZ (by rw[eT];split <;> simp) (h8 hh));by_cases q:f x=(n:Int) <;> simp[eT,q] <;> lia
  have i2:=ih (l.filter fun t=>!decide (f t=(n:Int))) (fun x hx=>by
   have a:=h x (bw.mp hx |>.1);have b:=(bw.mp hx).2;simp at b;lia) (fun hh=>by
   refine aZ ?_ (h8 hh);exact(vq.filter _).length_le)
  have:=h8 (n:Int);lia
theorem i_.len(F:i_ n ts):ts.length<=256:=by
 have:=DW (·.1) ts n (fun t ht=>(F.rg t ht).1) F.most;have:=F.n2;lia
theorem i_.tlt(F:i_ n ts)(h:T ts a b):a<n/\b<n/\a≠b:=by
 have q:=F.rg _ h;have q2:=F.ne _ h;refine⟨by have:=q.1;simp at this;lia,by have:=q.2;simp at this;lia,fun e=>q2 (by rw[e])⟩
def dG(n:Nat)(ts:Ts)(h:Nat):List Nat:=((List.range n).map fun s=>(h+s) % n).filter fun o=>decide (T ts h o)
theorem eG(F:i_ n ts)(hh:h<n):o∈dG n ts h↔T ts h o:=by
 unfold dG;rw[bw,ji];refine⟨fun z=>z.2,fun z=>⟨?_,z⟩⟩;obtain⟨_,h2,_⟩:=F.tlt z;refine aQ.mpr ⟨if h<=o then o-h else o+n-h,cU.mpr (by split <;> lia),?_⟩;split
 .rw[show h+(o-h)=o by lia,kg h2]
 .rw[show h+(o+n-h)=o+n by lia,Nat.add_mod_right,kg h2]
theorem Kz(F:i_ n ts)(hh:h<n)(ho:o∈dG n ts h):o<n:=(F.tlt ((eG F hh).mp ho)).2.1
def key(n h o:Nat):Int:=((o:Int)-(h:Int)) % (n:Int)
theorem mD(hh:h<n)(hs:s<n):key n h ((h+s) % n)=(s:Int):=by
 unfold key;by_cases c:h+s<n
 .rw[kg c,show (((h+s:Nat):Int)-(h:Int))=(s:Int) by lia];exact Int.emod_eq_of_lt (by lia) (by lia)
 .have e:(h+s) % n=h+s-n:=by
   rw[Nat.mod_eq_sub_mod (by lia),kg (by lia)]
  rw[e,show ((((h+s-n:Nat)):Int)-(h:Int))=(s:Int)-(n:Int) by lia,Int.sub_emod_right];exact Int.emod_eq_of_lt (by lia) (by lia)
theorem p_(hh:h<n):(dG n ts h).Pairwise fun a b=>key n h a<key n h b:=by
 unfold dG;refine List.Pairwise.filter _ ?_;refine jL.mpr ?_;refine List.Pairwise.imp_of_mem ?_ (yR (n:=n));intro a b ha hb ES;rw[mD hh (cU.mp ha),mD hh (cU.mp hb)];lia
theorem qa{α:Type}{k:α->Int}:∀ {a b:List α},a.Pairwise (fun x y=>k x<k y)->b.Pairwise (fun x y=>k x<k y)->(∀x,x∈a↔x∈b)->a=b
 |[],[],_,_,_=>rfl
 |[],y::ys,_,_,h=>absurd ((h y).mpr bN) (by simp)
 |x::xs,[],_,_,h=>absurd ((h x).mp bN) (by simp)
 |x::xs,y::ys,ha,hb,h=>by
  obtain⟨a1,a2⟩:=List.pairwise_cons.mp ha;obtain⟨b1,b2⟩:=List.pairwise_cons.mp hb;have e:x=y:=by
   rcases a7.mp ((h x).mp bN) with z|z
   .exact z
   .rcases a7.mp ((h y).mpr bN) with z'|z'
    .exact z'.symm
    .have q1:=b1 x z;have q2:=a1 y z';lia
  subst e;refine congrArg (x::·) (qa a2 b2 fun z=>⟨fun hz=>?_,fun hz=>?_⟩)
  .rcases a7.mp ((h z).mp (bL _ hz)) with q|q
   .subst q;exact absurd (a1 _ hz) (by lia)
   .exact q
  .rcases a7.mp ((h z).mpr (bL _ hz)) with q|q
   .subst q;exact absurd (b1 _ hz) (by lia)
   .exact q
structure DX(n:Nat)(ts:Ts)(s i:Nat)(R:List Nat)(f:Nat->Nat):Prop where
 nd:R.Nodup
 lt:∀x∈R,x<n
 st:s∈R
 z:f s=0
 wk:∀x∈R,jy ts (f x) s x
 up:R.Pairwise fun a b=>f a<=f b
 bd:∀u,R[i]?=some u->∀x∈R,f x<=f u+1
 cl:∀j u,j<i->R[j]?=some u->∀v,T ts u v->v∈R/\f v<=f u+1
theorem DX.start(hs:s<n):DX n ts s 0 [s] (fun _=>0):=
 ⟨by simp,fun x hx=>by simp at hx;lia,by simp,rfl,fun x hx=>by simp at hx;subst hx;rfl,by simp,fun u _ x _=>by lia,fun j u h=>absurd h (by lia)⟩
def put(f:Nat->Nat)(v k:Nat):Nat->Nat:=fun y=>if y=v then k else f y
theorem kT:put f v k v=k:=by simp[put]
theorem gI(h:x≠v):put f v k x=f x:=by simp[put,h]
theorem DX.add(B:DX n ts s i R f)(hu:R[i]?=some u)(hv:v<n)(t:T ts u v)(hn:v∉R):DX n ts s i (R++[v]) (put f v (f u+1)):=by
 have hur:u∈R:=cB hu;have nv:∀x∈R,x≠v:=fun x hx e=>hn (e ▸ hx);have hi:i<R.length:=(cQ.mp hu).1;refine⟨?_,fun x hx=>?_,ny _ B.st,by rw[gI (nv s B.st)];exact B.z,fun x hx=>?_,?_,fun w hw x hx=>?_,fun j w hj hw x hx=>?_⟩
 .rw[oH];exact⟨B.nd,by simp,fun a ha b hb e=>by simp at hb;subst hb;exact hn (e ▸ ha)⟩
 .rcases cR.mp hx with z|z
  .exact B.lt x z
  .simp at z;lia
 .rcases cR.mp hx with z|z
  .rw[gI (nv x z)];exact B.wk x z
  .simp at z;subst z;rw[kT];exact⟨u,B.wk u hur,t⟩
 .rw[List.pairwise_append];refine⟨B.up.imp_of_mem fun {a b} ha hb h=>by rw[gI (nv a ha),gI (nv b hb)];exact h,by simp,fun a ha b hb=>?_⟩;simp at hb;subst hb;rw[gI (nv a ha),kT];exact B.bd u hu a ha
 .have yD:w=u:=by
   rw[pT hi,hu] at hw;exact(bi hw).symm
  subst yD;rw[gI (nv w hur)];rcases cR.mp hx with z|z
  .rw[gI (nv x z)];exact B.bd w hu x z
  .simp at z;subst z;rw[kT];exact aW _
 .rw[pT (by lia)] at hw;obtain⟨a,b⟩:=B.cl j w hj hw x hx;refine⟨ny _ a,?_⟩;rw[gI (nv x a),gI (nv w (cB hw))];exact b
theorem DX.next(B:DX n ts s i R f)(hu:R[i]?=some u)(h:∀v,T ts u v->v∈R/\f v<=f u+1):DX n ts s (i+1) R f:=by
 refine⟨B.nd,B.lt,B.st,B.z,B.wk,B.up,fun w hw x hx=>?_,fun j w hj hw v hv=>?_⟩
 .have h1:=B.bd u hu x hx;have h2:f u<=f w:=by
   have hi:i<R.length:=(cQ.mp hu).1;have ER:i+1<R.length:=(cQ.mp hw).1;have:=E6.mp B.up i (i+1) hi ER (by lia);rw[cJ hi] at hu;rw[cJ ER] at hw;rw[bi hu,bi hw] at this;exact this
  lia
 .by_cases e:j=i
  .subst e;rw[hu] at hw;cases hw;exact h v hv
  .exact B.cl j w (by lia) hw v hv
theorem jz:∀ {n:Nat} {R:List Nat},R.Nodup->(∀x∈R,x<n)->R.length<=n:=by
 intro n R hn hl;have key:∀ (a b:List Nat),a.Nodup->(∀x∈a,x∈b)->a.length<=b.length:=by
  intro a;induction a with
  |nil=>intro b _ _;exact cE _
  |cons x xs ih=>
   intro b hn hs;obtain⟨h1,h2⟩:=cM.mp hn;have hx:x∈b:=hs x bN;have:=ih (b.erase x) h2 fun y hy=>(q_ (fun (e:y=x)=>h1 (e ▸ hy))).mpr (hs y (bL _ hy));rw[qV hx] at this;have:0<b.length:=vk hx;rw[cD];lia
 have:=key R (List.range n) hn fun x hx=>cU.mpr (hl x hx);rwa [fm] at this
theorem DX.done(B:DX n ts s i R f)(F:i_ n ts)(hi:R.length<=i)(hx:x<n):x∈R/\f x=MG ts s x:=by
 have cl:∀u∈R,∀v,T ts u v->v∈R/\f v<=f u+1:=fun u hu v hv=>by
  obtain⟨j,hj,e⟩:=oC.mp hu;exact B.cl j u (by lia) (by rw[cJ hj,e]) v hv
 have walk:∀k x,jy ts k s x->x∈R/\f x<=k:=by
  intro k;induction k with
  |zero=>intro x e;cases e;exact⟨B.st,by rw[B.z];exact aW _⟩
  |succ k ih=>
   rintro x ⟨c,w,t⟩;obtain⟨c1,c2⟩:=ih c w;obtain⟨d1,d2⟩:=cl c c1 x t;exact⟨d1,by lia⟩
 obtain⟨k,w⟩:=F.con s x (B.lt s B.st) hx;obtain⟨m,_⟩:=walk k x w;exact⟨m,(Ou ⟨B.wk x m,fun k w=>(walk k x w).2⟩).symm⟩
theorem mJ(hh:h<n):(dG n ts h).Nodup:=(p_ hh).imp fun {a b} ES e=>by subst e;lia
end jW
namespace L2
open PySem PySem.Spec PyProof.Rows
section
variable {X:Cx}
end
end L2
namespace jW
abbrev Cg(u:Int×Int):Int×Int:=(u.2,u.1)
def ng(ps:Ts):Ts:=ps.flatMap fun u=>[u,Cg u]
theorem AC:ng (ps++qs)=ng ps++ng qs:=List.flatMap_append
theorem kU:∀ {ps:Ts},(ng ps).Perm (ps++ps.map Cg)
 |[]=>List.Perm.refl _
 |u::ps=>by
  have ih:=kU (ps:=ps);show (u::Cg u::ng ps).Perm (u::(ps++Cg u::ps.map Cg));refine List.Perm.cons _ ?_;exact(ih.cons _).trans List.perm_middle.symm
theorem wm:∀ {ps:Ts},(ng ps).length=2*ps.length
 |[]=>rfl
 |u::ps=>by
  have ih:=wm (ps:=ps);show (ng ps).length+2=2*(ps.length+1);lia
theorem KB(h:u∈ng ps):Cg u∈ng ps:=by
 obtain⟨v,hv,hu⟩:=zq.mp h;refine zq.mpr ⟨v,hv,?_⟩;rcases a7.mp hu with e|e
 .rw[e];exact bL _ (cI.mpr rfl)
 .rw[cI.mp e];exact bN
theorem fU:u∈ng ps↔u∈ps\/Cg u∈ps:=by
 rw[(kU (ps:=ps)).mem_iff,cR];refine or_congr Iff.rfl ⟨fun h=>?_,fun h=>aQ.mpr ⟨_,h,rfl⟩⟩;obtain⟨v,hv,rfl⟩:=aQ.mp h;exact hv
theorem KD:((ng ps).map Cg).Perm (ng ps):=by
 refine((kU (ps:=ps)).map Cg).trans (List.Perm.trans ?_ (kU (ps:=ps)).symm);rw[dR,fu];have e:ps.map (Cg ∘ Cg)=ps:=(jJ fun u _=>rfl).trans (jm ps);rw[e];exact j3
abbrev qM(q:Nat×Nat):Int×Int:=((q.1:Int),(q.2:Int))
def b1(b:Bool):Nat:=cond b 1 0
def mK(h:Nat):List (Nat×Nat)->Nat
 |[]=>0
 |q::qs=>b1 (Nat.beq q.1 h)+(b1 (Nat.beq q.2 h)+mK h qs)
theorem Ch{h:Nat}:∀ {qs:List (Nat×Nat)},((ng (qs.map qM)).filter fun t=>decide (t.1=(h:Int))).length=mK h qs
 |[]=>rfl
 |q::qs=>by
  have ih:=Ch (h:=h) (qs:=qs);have e:∀a:Nat,(if decide ((a:Int)=(h:Int))=true then 1 else 0)=b1 (Nat.beq a h):=fun a=>by
   by_cases c:a=h
   .subst c;rw[ai (by simp),Nat.beq_refl];rfl
   .rw[ap (by simp;lia),show Nat.beq a h=false from jM.mpr fun z=>c (Nat.eq_of_beq_eq_true z)];rfl
  show ((qM q::Cg (qM q)::ng (qs.map qM)).filter _).length=b1 (Nat.beq q.1 h)+(b1 (Nat.beq q.2 h)+mK h qs);rw[<-ih,<-e q.1,<-e q.2,eT,eT];split <;> split <;> simp <;> lia
def pr:List Nat->Nat
 |[]=>1
 |n::ns=>n*pr ns
def ud(m st n:Nat):List (Nat×Nat):=((List.range m).filter fun h=>decide (h / st % n+1<n)).map fun h=>(h,h+st)
def bx(m:Nat):Nat->List Nat->List (Nat×Nat)
 |_,[]=>[]
 |st,n::ns=>ud m st n++bx m (st*n) ns
def jA(ns:List Nat):List (Nat×Nat):=bx (pr ns) 1 ns
def KE:Nat->List Nat->Nat->Nat->Prop
 |_,[],_,_=>False
 |st,n::ns,a,b=>(a / st % n+1<n/\b=a+st)\/KE (st*n) ns a b
theorem Ci:q∈ud m st n↔q.1<m/\q.1 / st % n+1<n/\q.2=q.1+st:=by
 unfold ud;rw[aQ];constructor
 .rintro⟨h,hh,rfl⟩;obtain⟨h1,h2⟩:=bw.mp hh;exact⟨cU.mp h1,dA h2,rfl⟩
 .rintro⟨h1,h2,h3⟩;exact⟨q.1,bw.mpr ⟨cU.mpr h1,decide_eq_true h2⟩,eK rfl h3.symm⟩
theorem pK:∀ {ns:List Nat} {st:Nat},q∈bx m st ns↔q.1<m/\KE st ns q.1 q.2
 |[],st=>⟨fun h=>(nomatch h),fun h=>h.2.elim⟩
 |n::ns,st=>by
  unfold bx KE;rw[cR,Ci,pK (ns:=ns)];constructor
  .rintro(⟨a,b,c⟩|⟨a,b⟩)
   .exact⟨a,.inl ⟨b,c⟩⟩
   .exact⟨a,.inr b⟩
  .rintro⟨a,⟨b,c⟩|b⟩
   .exact .inl ⟨a,b,c⟩
   .exact .inr ⟨a,b⟩
abbrev U(ns:List Nat):Nat->Nat->Prop:=KE 1 ns
theorem wn:∀ {ns:List Nat} {st a b:Nat},0<st->(∀n∈ns,0<n)->(KE st ns a b↔a % st=b % st/\U ns (a / st) (b / st))
 |[],st,a,b,h,_=>⟨fun z=>z.elim,fun z=>z.2.elim⟩
 |n::ns,st,a,b,h,hn=>by
  have Je:=hn n bN;have Ap:∀n∈ns,0<n:=fun x hx=>hn x (bL _ hx);show (_\/KE (st*n) ns a b)↔a % st=b % st/\(_\/KE (1*n) ns (a / st) (b / st))
  rw[vT,wn (oP h Je) Ap,wn Je Ap,oQ,lY a st n,lY b st n,Nat.mod_mul,Nat.mod_mul];have e1:=hZ a st;have e2:=hZ b st;constructor
  .rintro(⟨c,rfl⟩|⟨c,d⟩)
   .refine⟨by rw[Nat.add_mod_right],.inl ⟨c,by rw[Nat.add_div_right _ h]⟩⟩
   .have m1:a % st=b % st:=by
     have:=congrArg (· % st) c;simp only[E5,Nat.mod_mod] at this;exact this
    refine⟨m1,.inr ⟨?_,d⟩⟩;rw[m1] at c;exact Nat.eq_of_mul_eq_mul_left h (Nat.add_left_cancel c)
  .rintro⟨m1,⟨c,d⟩|⟨c,d⟩⟩
   .refine .inl ⟨c,?_⟩;rw[<-e2,d,<-m1,iR,kq,Nat.add_right_comm,e1]
   .exact .inr ⟨by rw[m1,c],d⟩
theorem wq(h:∀x∈n::ns,0<x):U (n::ns) a b↔(a % n+1<n/\b=a+1)\/(a % n=b % n/\U ns (a / n) (b / n)):=by
 show (_\/KE (1*n) ns a b)↔_;rw[vT,wn (h n bN) fun x hx=>h x (bL _ hx),oQ]
theorem mL(h:a % n+1<n):(a+1) / n=a / n/\(a+1) % n=a % n+1:=by
 have e:=hZ a n;have e2:a+1=n*(a / n)+(a % n+1):=by lia
 have hn:0<n:=by lia
 rw[e2,Nat.mul_add_div hn,Nat.mul_add_mod,zn h,kg h];exact⟨rfl,rfl⟩
theorem SY:∀ {ns:List Nat} {a b:Nat},(∀x∈ns,0<x)->U ns a b->a<pr ns->a<b/\b<pr ns
 |[],a,b,_,h,_=>h.elim
 |n::ns,a,b,hn,h,ha=>by
  have Je:=hn n bN;have Ap:∀n∈ns,0<n:=fun x hx=>hn x (bL _ hx);have JW:a<n*pr ns:=ha;have hq:a / n<pr ns:=yU JW;show a<b/\b<n*pr ns;rcases(wq hn).mp h with ⟨c,rfl⟩|⟨c,d⟩
  .refine⟨by lia,?_⟩;have e:=hZ a n;have:=oF n hq;rw[Nat.succ_eq_add_one,iR,kq] at this;lia
  .obtain⟨i1,i2⟩:=SY Ap d hq;refine⟨?_,?_⟩
   .have e1:=hZ a n;have e2:=hZ b n;have:=E2 i1 Je;lia
   .have e2:=hZ b n;have hm:=jn b Je;have:=oF n i2;rw[Nat.succ_eq_add_one,iR,kq] at this;lia
theorem GC:∀ {ns:List Nat} {v:Nat},(∀x∈ns,0<x)->0<v->v<pr ns->∃u,u<v/\U ns u v
 |[],v,_,h1,h2=>by have h2:v<1:=h2;lia
 |n::ns,v,hn,h1,h2=>by
  have Je:=hn n bN;have Ap:∀n∈ns,0<n:=fun x hx=>hn x (bL _ hx);have lv:=jn v Je;have ev:=hZ v n;by_cases c:v % n=0
  .have hq:0<v / n:=by
    rcases y_ (v / n) with z|z
    .rw[z,c] at ev;simp at ev;lia
    .exact z
   obtain⟨u,hu,uu⟩:=GC (v:=v / n) Ap hq (yU h2);refine⟨n*u,?_,(wq hn).mpr (.inr ⟨by rw[Nat.mul_mod_right,c],by rw[Nat.mul_div_cancel_left _ Je];exact uu⟩)⟩;have:=E2 hu Je;lia
  .have hv:v-1=n*(v / n)+(v % n-1):=by lia
   have hm:(v-1) % n=v % n-1:=by rw[hv,Nat.mul_add_mod,kg (by lia)]
   exact⟨v-1,by lia,(wq hn).mpr (.inl ⟨by lia,by lia⟩)⟩
theorem Cj:∀ {ns:List Nat} {st a b:Nat},(∀x∈ns,0<x)->KE st ns a b->a+st<=b
 |[],st,a,b,_,h=>h.elim
 |n::ns,st,a,b,hn,h=>by
  rcases h with ⟨_,rfl⟩|h
  .exact aW _
  .have:=Cj (fun x hx=>hn x (bL _ hx)) h;have h1:=yN st (hn n bN);lia
theorem DY:(ud m st n).Nodup:=by
 unfold ud;refine oy.mpr (jL.mpr ?_);exact(oy.mp (oI.sublist vq)).imp fun {a b} h e=>h (congrArg Prod.fst e)
theorem xV:∀ {ns:List Nat} {st:Nat},0<st->(∀x∈ns,2<=x)->(bx m st ns).Nodup
 |[],_,_,_=>ft
 |n::ns,st,h,hn=>by
  have QS:=hn n bN;have Ap:∀x∈ns,2<=x:=fun x hx=>hn x (bL _ hx);refine oH.mpr ⟨DY,xV (oP h (by lia)) Ap,fun x hx y hy e=>?_⟩;subst e;have h1:=(Ci.mp hx).2.2;have h2:=Cj (fun x hx=>by have:=Ap x hx;lia) (pK.mp hy).2;have h3:=oF st QS;lia
theorem DZ(nd:ps.Nodup)(h:∀u∈ps,u.1<u.2):(ng ps).Nodup:=by
 refine(kU (ps:=ps)).nodup_iff.mpr (oH.mpr ⟨nd,?_,fun x hx y hy e=>?_⟩)
 .refine oy.mpr (jL.mpr ((oy.mp nd).imp fun {a b} ES e=>ES ?_));exact eK (congrArg Prod.snd e) (congrArg Prod.fst e)
 .subst e;obtain⟨u,hu,rfl⟩:=aQ.mp hy;have h1:=h _ hx;have h2:=h u hu;have h1:u.2<u.1:=h1;lia
theorem D7{qs:List (Nat×Nat)}(h:qs.Nodup):(qs.map qM).Nodup:=by
 refine oy.mpr (jL.mpr ((oy.mp h).imp fun {a b} ES e=>ES ?_));exact eK (cV (congrArg Prod.fst e)) (cV (congrArg Prod.snd e))
theorem qb:∀ {a b:List (Nat×Nat)},mK h (a++b)=mK h a+mK h b
 |[],b=>by show mK h b=0+_;lia
 |q::a,b=>by
  have:=qb (h:=h) (a:=a) (b:=b);show b1 _+(b1 _+mK h (a++b))=b1 _+(b1 _+mK h a)+mK h b;lia
theorem MJ:b1 (Nat.beq a b)=if a=b then 1 else 0:=by
 by_cases c:a=b
 .subst c;rw[ai rfl,Nat.beq_refl];rfl
 .rw[ap c,show Nat.beq a b=false from jM.mpr fun z=>c (Nat.eq_of_beq_eq_true z)];rfl
theorem Ck:∀ {L:List Nat},L.Nodup->mK h (L.map fun x=>(x,x+st))<=(if h∈L then 1 else 0)+(if st<=h/\h-st∈L then 1 else 0)
 |[],_=>cE _
 |x::L,nd=>by
  obtain⟨n1,n2⟩:=cM.mp nd;have ih:=Ck (h:=h) (st:=st) n2;show b1 (Nat.beq x h)+(b1 (Nat.beq (x+st) h)+mK h (L.map fun x=>(x,x+st)))<=_;rw[MJ,MJ];have e1:(if h∈x::L then 1 else 0)=(if x=h then 1 else 0)+(if h∈L then 1 else 0):=by
   by_cases c:x=h
   .subst c;rw[ai bN,ai rfl,ap n1]
   .rw[ap c];by_cases d:h∈L
    .rw[ai (bL _ d),ai d]
    .rw[ap d,ap (fun z=>(a7.mp z).elim (fun z=>c z.symm) d)]
  have e2:(if st<=h/\h-st∈x::L then 1 else 0)=(if x+st=h then 1 else 0)+(if st<=h/\h-st∈L then 1 else 0):=by
   by_cases c:x+st=h
   .have e:h-st=x:=by lia
    rw[ai c,e,ai ⟨by lia,bN⟩,ap (fun z=>n1 z.2)]
   .rw[ap c];by_cases d:st<=h/\h-st∈L
    .rw[ai d,ai ⟨d.1,bL _ d.2⟩]
    .rw[ap d,ap];rintro⟨z1,z2⟩;rcases a7.mp z2 with z|z
     .lia
     .exact d ⟨z1,z⟩
  rw[e1,e2];lia
def wt:List Nat->Nat
 |[]=>0
 |n::ns=>(if n=2 then 1 else 2)+wt ns
theorem KG(hs:0<st):mK h (ud m st n)<=if n=2 then 1 else 2:=by
 have c:=Ck (h:=h) (st:=st) (L:=(List.range m).filter fun h=>decide (h / st % n+1<n)) (oI.sublist vq);refine aZ c ?_;by_cases e:n=2
 .rw[ai e];by_cases c1:h∈(List.range m).filter fun h=>decide (h / st % n+1<n)
  .rw[ai c1,ap]
   .lia
   .rintro⟨z1,z2⟩;have d1:h / st % n+1<n:=dA (bw.mp c1).2;have d2:(h-st) / st % n+1<n:=dA (bw.mp z2).2;have d3:h / st=(h-st) / st+1:=by
     have:=Nat.add_div_right (h-st) hs;rw[show h-st+st=h by lia] at this;exact this
    obtain⟨_,d4⟩:=mL d2;rw[<-d3] at d4;lia
  .rw[ap c1];split <;> lia
 .rw[ap e];split <;> split <;> lia
theorem GD:∀ {ns:List Nat} {st:Nat},0<st->(∀x∈ns,0<x)->mK h (bx m st ns)<=wt ns
 |[],_,_,_=>aW _
 |n::ns,st,hs,hn=>by
  show mK h (ud m st n++bx m (st*n) ns)<=_+wt ns;rw[qb];have h1:=KG (m:=m) (n:=n) (h:=h) hs;have h2:=GD (m:=m) (h:=h) (ns:=ns) (st:=st*n) (oP hs (hn n bN)) fun x hx=>hn x (bL _ hx);lia
theorem GE:∀ {ns:List Nat},(∀x∈ns,2<=x)->3 ^ wt ns<=pr ns*pr ns
 |[],_=>aW _
 |n::ns,hn=>by
  have ih:=GE (ns:=ns) fun x hx=>hn x (bL _ hx);have h2:=hn n bN;show 3 ^ ((if n=2 then 1 else 2)+wt ns)<=n*pr ns*(n*pr ns);rw[Nat.pow_add,Nat.mul_mul_mul_comm];refine zG ?_ ih;by_cases c:n=2
  .rw[ai c,c];decide
  .rw[ap c];have:3<=n:=by lia
   exact zG this this
theorem SZ(hn:∀x∈ns,2<=x)(hp:pr ns<=32):wt ns<=8:=by
 refine vf fun z=>?_;have h1:3 ^ 9<=3 ^ wt ns:=Nat.pow_le_pow_right (by decide) (by lia);have h2:=GE hn;have h3:pr ns*pr ns<=32*32:=zG hp hp;have h4:(3:Nat) ^ 9=19683:=by decide
 lia
theorem GG{ns:List Nat}(hn:∀x∈ns,2<=x)(h0:ns≠[])(hp:pr ns<=32):i_ (pr ns) (ng ((jA ns).map qM)):=by
 have Ov:∀x∈ns,0<x:=fun x hx=>by have:=hn x hx;lia
 have q:∀q∈jA ns,q.1<q.2/\q.2<pr ns:=fun q hq=>by
  obtain⟨a,b⟩:=pK.mp hq;exact SY Ov b a
 have n1:2<=pr ns:=by
  cases ns with
  |nil=>exact absurd rfl h0
  |cons n ns=>
   have h2:=hn n bN;have:∀ {l:List Nat},(∀x∈l,2<=x)->1<=pr l:=fun {l}=>by
    induction l with
    |nil=>intro _;exact aW _
    |cons x l ih=>intro hl;exact oP (by have:=hl x bN;lia) (ih fun y hy=>hl y (bL _ hy))
   have h3:=this (l:=ns) fun x hx=>hn x (bL _ hx);show 2<=n*pr ns;exact aZ h2 (yN n h3)
 have mem:∀t∈ng ((jA ns).map qM),∃q∈jA ns,t=qM q\/t=Cg (qM q):=fun t ht=>by
  rcases fU.mp ht with z|z
  .obtain⟨q,hq,e⟩:=aQ.mp z;exact⟨q,hq,.inl e.symm⟩
  .obtain⟨q,hq,e⟩:=aQ.mp z;exact⟨q,hq,.inr (by rw[e])⟩
 have rg:∀t∈ng ((jA ns).map qM),((0<=t.1/\t.1<pr ns)/\(0<=t.2/\t.2<pr ns))/\t.1≠t.2:=fun t ht=>by
  obtain⟨p,hq,e⟩:=mem t ht;obtain⟨a,b⟩:=q p hq;rcases e with rfl|rfl
  .exact⟨⟨⟨by show (0:Int)<=(p.1:Int);lia,by show (p.1:Int)<(pr ns:Int);lia⟩,by show (0:Int)<=(p.2:Int);lia,by show (p.2:Int)<(pr ns:Int);lia⟩,by show ((p.1:Nat):Int)≠(p.2:Nat);lia⟩
  .exact⟨⟨⟨by show (0:Int)<=(p.2:Int);lia,by show (p.2:Int)<(pr ns:Int);lia⟩,by show (0:Int)<=(p.1:Int);lia,by show (p.1:Int)<(pr ns:Int);lia⟩,by show ((p.2:Nat):Int)≠(p.1:Nat);lia⟩
 have nd:(ng ((jA ns).map qM)).Nodup:=DZ (D7 (xV (by decide) hn)) fun u hu=>by
  obtain⟨p,hq,rfl⟩:=aQ.mp hu;have:=(q p hq).1;show (p.1:Int)<(p.2:Int);lia
 refine⟨n1,hp,nd,fun t ht=>(rg t ht).1,fun t ht=>(rg t ht).2,fun h=>?_,fun h=>?_,fun a b ha hb=>?_⟩
 .rw[<-(KD (ps:=(jA ns).map qM)).filter (fun t=>decide (t.1=h)) |>.length_eq,List.filter_map,aV];rfl
 .by_cases c:0<=h/\h<pr ns
  .have:=GD (m:=pr ns) (h:=h.toNat) (ns:=ns) (st:=1) (by decide) Ov;have e:=Ch (h:=h.toNat) (qs:=jA ns);rw[Int.toNat_of_nonneg c.1] at e;rw[e];exact aZ this (SZ hn hp)
  .have e:(ng ((jA ns).map qM)).filter (fun t=>decide (t.1=h))=[]:=List.filter_eq_nil_iff.mpr fun t ht e=>c ((show t.1=h from dA e) ▸ (rg t ht).1.1);rw[e];exact cE _
 .have JX:∀v,v<pr ns->(∃k,jy (ng ((jA ns).map qM)) k 0 v)/\∃k,jy (ng ((jA ns).map qM)) k v 0:=by
   intro v;induction v using Nat.strongRecOn with
   |ind v ih=>
    intro hv;rcases y_ v with e|e
    .subst e;exact⟨⟨0,rfl⟩,0,rfl⟩
    .obtain⟨u,hu,uu⟩:=GC Ov e hv;obtain⟨⟨k,w⟩,l,w'⟩:=ih u hu (by lia);have t:T (ng ((jA ns).map qM)) u v:=fU.mpr (.inl (aQ.mpr ⟨(u,v),pK.mpr ⟨by show u<pr ns;lia,uu⟩,rfl⟩));have t':T (ng ((jA ns).map qM)) v u:=KB t;exact⟨⟨k+1,u,w,t⟩,l+1,jy.cons t' w'⟩
  obtain⟨_,k,w⟩:=JX a ha;obtain⟨⟨l,w'⟩,_⟩:=JX b hb;exact⟨_,w.trans w'⟩
end jW
namespace ue
open PySem L2
def fV(i:Nat):Stmt:=PySem.Challenge.pw_neverwait_k45_lanes_hand_on.main.body.getD i (.Pass ⟨0,0,0,0⟩)
abbrev AE:Stmt:=fV 9
abbrev wr:Stmt:=fV 10
abbrev AF:Stmt:=fV 11
abbrev Ow:Stmt:=fV 13
structure Bl(mg:Str->Option Value):Prop where
 Ox:mg "isinstance"=none
 int:mg "int"=none
 bool:mg "bool"=none
 tup:mg "tuple"=none
 lst:mg "list"=none
 str:mg "str"=none
 set:mg "set"=none
 len:mg "len"=none
 range:mg "range"=none
 sorted:mg "sorted"=none
 any:mg "any"=none
 max:mg "max"=none
 min:mg "min"=none
 aa4:mg "ValueError"=none
 all:mg "all"=none
def GJ(K:PySem.W.Frag)(H:Hp)(x:V):Prop:=∃t,QW K H x t/\(PySem.W.kitOne K t (.type "int")=some false\/(PySem.W.kitOne K t (.type "int")=some true/\PySem.W.kitOne K t (.type "bool")=some true))
theorem qc:PySem.W.kitOne K (.type "int") (.type "int")=some true:=by kernel_rfl
theorem nY:PySem.W.kitOne K (.type "int") (.type "bool")=some false:=by kernel_rfl
inductive Wh (K:PySem.W.Frag) (H:Hp):V->Option Int->Prop where
 |int (i:Int):Wh K H (.int i) (some i)
 |no {x:V} (h:GJ K H x):Wh K H x none
def qN(K:PySem.W.Frag):Sp:=fun vs H Q _=>∃x o,vs=[x]/\Wh K H x o/\Q (.bl o.isSome) H
section
variable {P:Program} {w:World} {K:PySem.W.Frag} {mg:Str->Option Value} {base:Heap}
theorem KH:aA ["thing"] ["thing"] (am AE):=⟨rfl,rfl,rfl,by decide +kernel,rfl,by decide +kernel,by decide +kernel⟩
theorem GK(F:eN K "is_whole" "is_whole" AE f fd)(B:Bl mg):bj P w K mg base ba 1 f fd ["thing"] (qN K):=by
 refine F.ok KH (fun vs H Q E h=>?_) (fun dt A outer s H vs Q E hr h=>?_)
 .obtain⟨x,o,rfl,_⟩:=h;rfl
 .obtain⟨x,o,rfl,W,k⟩:=h;refine⟨_,ak (aI (mr (aG ij (by rfl) B.Ox qU (aa (pv 0) (aa (js (v:=.ty "int") rfl B.int PyProof.Rows.boot_int rfl) af)))
   (o5 (Nu (aG ij (by rfl) B.Ox qU (aa (pv 0) (aa (js (v:=.ty "bool") rfl B.bool PyProof.Rows.boot_bool rfl) af))))))),?_⟩
  cases W with
  |int i=>
   refine⟨_,rfl,_,_,_,.type "int",true,rfl,⟨rfl,qc⟩,.of (.int _),true,rfl,?_⟩;exact⟨_,rfl,_,_,_,.type "int",false,rfl,⟨rfl,nY⟩,.of (.int _),false,rfl,k⟩
  |no h=>
   obtain⟨t,ty,h|⟨h1,h2⟩⟩:=h
   .exact⟨_,rfl,_,_,_,t,false,rfl,⟨rfl,h⟩,ty,false,rfl,k⟩
   .refine⟨_,rfl,_,_,_,t,true,rfl,⟨rfl,h1⟩,ty,true,rfl,?_⟩;exact⟨_,rfl,_,_,_,t,true,rfl,⟨rfl,h2⟩,ty,true,rfl,k⟩
def a9(o:Option Int)(lo hi:Int):Bool:=match o with
 |some i=>decide (lo<=i)&&decide (i<=hi)
 |none=>false
def kW(K:PySem.W.Frag):Sp:=fun vs H Q _=>∃x o lo hi,vs=[x,.int lo,.int hi]/\Wh K H x o/\Q (.bl (a9 o lo hi)) H
theorem GN:aA ["thing","least","most"] ["thing","least","most"] (am wr):=⟨rfl,rfl,rfl,by decide +kernel,rfl,by decide +kernel,by decide +kernel⟩
theorem D8(F:eN K "is_whole_within" "is_whole_within" wr f fd)(W:cy P w K mg base ba 1 "is_whole" ["thing"] (qN K)):bj P w K mg base ba 2 f fd ["thing","least","most"] (kW K):=by
 refine F.ok GN (fun vs H Q E h=>?_) (fun dt A outer s H vs Q E hr h=>?_)
 .obtain⟨x,o,lo,hi,rfl,_⟩:=h;rfl
 .obtain⟨x,o,lo,hi,rfl,wh,k⟩:=h;refine⟨_,ak (aI (mr (aw W hr aF (aa (pv 0) af)) (o5 (Fs Fp Fp (pv 1) (pv 0) (pv 2))))),?_⟩;refine⟨_,rfl,x,o,rfl,wh,?_⟩;cases wh with
  |no h=>exact⟨false,rfl,k⟩
  |int i=>
   refine⟨true,rfl,_,rfl,_,rfl,_,_,rfl,rfl,_,rfl,?_⟩;show if decide (lo<=i)=true then _ else _
   have k':Q (.bl (decide (lo<=i)&&decide (i<=hi))) H:=k;by_cases h:lo<=i
   .rw[decide_eq_true h] at k' |-;exact⟨_,rfl,_,_,rfl,rfl,k'⟩
   .rw[dP h] at k' |-;exact k'
def lu(K:PySem.W.Frag):Sp:=fun vs H Q _=>∃x o n,vs=[.int n,x]/\Wh K H x o/\Q (.bl (a9 o 0 (n-1))) H
theorem KJ:aA ["many","thing"] ["many","thing"] (am AF):=⟨rfl,rfl,rfl,by decide +kernel,rfl,by decide +kernel,by decide +kernel⟩
theorem GQ(F:eN K "is_house" "is_house" AF f fd)(W:cy P w K mg base ba 2 "is_whole_within" ["thing","least","most"] (kW K)):bj P w K mg base ba 3 f fd ["many","thing"] (lu K):=by
 refine F.ok KJ (fun vs H Q E h=>?_) (fun dt A outer s H vs Q E hr h=>?_)
 .obtain⟨x,o,n,rfl,_⟩:=h;rfl
 .obtain⟨x,o,n,rfl,wh,k⟩:=h;refine⟨_,ak (aI (aw W hr aF (aa (pv 1) (aa aB (aa (bu mx (pv 0) aB) af))))),?_⟩;exact⟨_,rfl,_,rfl,_,_,rfl,rfl,x,o,0,n-1,rfl,wh,k⟩
inductive Rw (K:PySem.W.Frag) (H:Hp):V->Option (List V)->Prop where
 |tup {p:Addr} {xs:List V} (h:H p=some (.tup xs)):Rw K H (.ref p) (some xs)
 |no {x:V} {t:Value} (ty:QW K H x t) (h:PySem.W.kitOne K t (.type "tuple")=some false):Rw K H x none
def GR(o:Option (List V))(m:Int):Bool:=match o with
 |some xs=>decide ((xs.length:Int)=m)
 |none=>false
theorem wu:PySem.W.kitOne K (.type "tuple") (.type "tuple")=some true:=by kernel_rfl
def uQ(K:PySem.W.Frag):Sp:=fun vs H Q _=>∃x o m,vs=[x,.int m]/\Rw K H x o/\Q (.bl (GR o m)) H
theorem S0:aA ["thing","length"] ["thing","length"] (am Ow):=⟨rfl,rfl,rfl,by decide +kernel,rfl,by decide +kernel,by decide +kernel⟩
theorem Oy(F:eN K "is_row" "is_row" Ow f fd)(B:Bl mg):bj P w K mg base ba 1 f fd ["thing","length"] (uQ K):=by
 refine F.ok S0 (fun vs H Q E h=>?_) (fun dt A outer s H vs Q E hr h=>?_)
 .obtain⟨x,o,m,rfl,_⟩:=h;rfl
 .obtain⟨x,o,m,rfl,W,k⟩:=h;refine⟨_,ak (aI (mr (aG ij (by rfl) B.Ox qU (aa (pv 0) (aa (js (v:=.ty "tuple") rfl B.tup jI rfl) af)))
   (o5 (ju iY (aG aJ (by rfl) B.len dS (aa (pv 0) af)) (pv 1) (be _))))),?_⟩
  cases W with
  |@tup p xs h=>
   refine⟨_,rfl,_,_,_,.type "tuple",true,rfl,⟨rfl,wu⟩,.of (.tup h),true,rfl,?_⟩;refine⟨_,rfl,_,_,rfl,.inr (bz.of h),_,rfl,rfl,?_⟩;have e:decide (V.int ((xs.length:Nat):Int)=V.int m)=decide (((xs.length:Nat):Int)=m):=by simp
   rw[e];exact k
  |no ty h=>exact⟨_,rfl,_,_,_,_,false,rfl,⟨rfl,h⟩,ty,false,rfl,k⟩
end
theorem cx(s:az H H')(hD:H D=none):az H (upd H' D o):=fun b u e=>by rw[al (aq e hD)];exact s b u e
abbrev IV(ns:List Int):List V:=ns.map V.int
abbrev NV(ns:List Nat):List V:=ns.map fun (x:Nat)=>V.int (x:Int)
theorem lQ(G:St->Hp->Prop)(hr:∀σ H,G σ H->u D σ H)(ht:∀N:St->Hp->Prop,(∀σ H,G σ H->N σ H)->t { D with nx:=N } σ H):RD t u D σ H:=ht _ hr
abbrev Zs:=List (Addr×(Int×Int))
abbrev ML(u:Int×Int):HO:=.tup [.int u.1,.int u.2]
def zr(zs:Zs):List V:=zs.map fun z=>V.ref z.1
def zp(zs:Zs):List (Int×Int):=zs.map (·.2)
def PO(H:Hp)(zs:Zs):Prop:=∀z∈zs,H z.1=some (ML z.2)
theorem pL:zr (a++b)=zr a++zr b:=dR
theorem uR:zp (a++b)=zp a++zp b:=dR
theorem kX:(zr a).length=a.length:=aV _
theorem dk:(zp a).length=a.length:=aV _
theorem qO:zr a=(a.map (·.1)).map V.ref:=by unfold zr;rw[fu];rfl
theorem ww{zs:Zs}{i:Nat}{x:V}(h:(zr zs)[i]?=some x):∃z,zs[i]?=some z/\x=.ref z.1:=by
 unfold zr at h;rw[bv] at h;cases e:zs[i]? with
 |none=>rw[e] at h;cases h
 |some z=>rw[e] at h;exact⟨z,rfl,(bi h).symm⟩
theorem PO.nil:PO H []:=fun z hz=>(nomatch hz)
theorem PO.same(h:PO H zs)(s:az H H'):PO H' zs:=fun z hz=>s _ _ (h z hz)
theorem PO.putL(h:PO H zs)(e:H D=some (.lst xs)):PO (upd H D o) zs:=fun z hz=>by
 have:=h z hz;rw[al (by rintro rfl;rw[e] at this;cases this)];exact this
theorem PO.putN(h:PO H zs)(e:H D=none):PO (upd H D o) zs:=h.same (ao e)
theorem PO.append(h:PO H a)(h':PO H b):PO H (a++b):=fun z hz=>(cR.mp hz).elim (h z) (h' z)
theorem PO.one(h:H p=some (ML u)):PO H [(p,u)]:=fun z hz=>by rw[cI.mp hz];exact h
theorem xW{zs:Zs}{i:Nat}(h:i<zs.length):(zs.map (·.1)).getD i 0=zs[i].1:=by
 rw[cg,bv,cJ h];rfl
theorem Cm(h:i<zs.length):(zp zs).getD i (0,0)=zs[i].2:=by
 unfold zp;rw[cg,bv,cJ h];rfl
theorem Oz{K:PySem.W.Frag}{Jd:Bool}{H:Hp}{p l:Addr}{u:Int×Int}{zs:Zs}{Q:VK}(hp:H p=some (ML u))(hl:H l=some (.lst (zr zs)))(ho:PO H zs)(q:Q (.bl (if Jd then !decide (u∈zp zs) else decide (u∈zp zs))) H):Ot K Jd (.ref p) (.ref l) H Q:=
 ⟨p,l,u,zs.map (·.1),zp zs,rfl,rfl,bz.of hp,bh.of (by rw[<-qO];exact hl),by rw[aV,dk],fun i hi=>by
  rw[dk] at hi;rw[xW hi,Cm hi];exact bz.of (ho _ (iF hi)),q⟩
theorem D9{H:Hp}{zs:Zs}(ho:PO H zs){as:List Addr}(h:as.Perm (zs.map (·.1))):∃uS:Zs,uS.Perm zs/\as=uS.map (·.1):=by
 classical
 let f:Addr->Int×Int:=fun a=>match H a with
  |some (.tup [.int x,.int y])=>(x,y)
  |_=>(0,0)
 have e:(zs.map (·.1)).map (fun a=>(a,f a))=zs:=by
  rw[fu];conv=>rhs;rw[<-jm zs]
  refine jJ fun z hz=>?_;have:=ho z hz;show (z.1,f z.1)=z;have e2:f z.1=z.2:=by
   show (match H z.1 with|some (.tup [.int x,.int y])=>(x,y)|_=>(0,0))=z.2;rw[this]
  rw[e2]
 refine⟨as.map fun a=>(a,f a),?_,?_⟩
 .have:=h.map (fun a=>(a,f a));rw[e] at this;exact this
 .rw[fu];exact(jm as).symm
abbrev Ord(us:List (Int×Int)):Prop:=us=us
theorem KM{K:PySem.W.Frag}{H:Hp}{l:Addr}{zs:Zs}{Q:VK}(hl:H l=some (.lst (zr zs)))(ho:PO H zs)(hz:zs.length<=4096)(hb:∀u∈zp zs,0<=u.2/\u.2<64)(q:∀ (D:Addr) (uS:Zs),H D=none->uS.Perm zs->Ord (zp uS)->Q (.ref D) (upd H D (.lst (zr uS)))):Gv K [.ref l] H Q:=by
 refine⟨l,zs.map (·.1),rfl,bh.of (by rw[<-qO];exact hl),fun a ha=>?_,by rw[aV];exact hz,fun D yC hD hp=>?_⟩
 .obtain⟨z,hz,rfl⟩:=aQ.mp ha;exact⟨_,_,bz.of (ho z hz)⟩
 .obtain⟨uS,h1,rfl⟩:=D9 ho hp;rw[<-qO];exact q D uS hD h1 rfl
theorem GU{K:PySem.W.Frag}{a D:Addr}{Ji:Zs}{g:TG}{tt:TT}{te:TE}{cK:Hp->Prop}{σB:St}{H0:Hp}(F:Int×Int->Int×Int)(cF:St->Prop)(ha:H0 a=some (.lst (zr Ji)))(hp0:PO H0 Ji)(hD:H0 D=none)(hn:Ji.length<=100000)(h0:cF σB)(hs:∀z σ H (R:V->St->Hp->Prop) (Kf:St->Hp->Prop),z∈Ji->cF σ->H z.1=some (ML z.2)->(∀σ2 p,cF σ2->H p=none->R (.ref p) σ2 (upd H p (ML (F z.2))))->g (.ref z.1) σ H fun σ2 H2=>tt σ2 H2 fun b H3=>if b=true then te σ2 H3 fun v H4=>R v σ2 H4 else Kf σ2 H3)(hd:∀zs H,az H0 H->H D=some (.lst (zr zs))->PO H zs->zp zs=(zp Ji).map F->(∀z∈zs,H0 z.1=none)->cK H):iG (Fh K a) g tt te D cK σB (upd H0 D (.lst [])):=by
 refine gX (xs:=zr Ji) (fun i ys σ H=>cF σ/\az H0 H/\H D=some (.lst ys)/\∃zs:Zs,ys=zr zs/\PO H zs/\zp zs=((zp Ji).take i).map F/\∀z∈zs,H0 z.1=none) ⟨h0,ao hD,ag,[],rfl,PO.nil,rfl,fun z hz=>nomatch hz⟩ (fun i ys σ H _ z=>bh.of (z.2.1 _ _ ha)) ?_ ?_
 .rintro i x ys σ H Kt Kf hx ⟨sh,sm,lR,zs,rfl,po,ep,fr⟩ kt kf;obtain⟨z,hz,rfl⟩:=ww hx;have hi:i<Ji.length:=(cQ.mp hz).1;have MN:z∈Ji:=cB hz;have hl:zs.length=i:=by rw[<-dk,ep,aV,j6,dk];lia
  refine hs z σ H Kt Kf MN sh (sm _ _ (hp0 z MN)) (fun σ2 p wz hp=>?_)
  .have nD:D≠p:=aq lR hp;refine kt _ _ _ (by rw[al nD];exact lR) (by rw[kX,hl];exact bK hi (aZ hn (by decide))) ⟨wz,cx (sm.trans (ao hp)) hD,ag,zs++[(p,F z.2)],?_,?_,?_,?_⟩
   .rw[pL];rfl
   .refine PO.putL (xs:=zr zs) ?_ (by rw[al nD];exact lR);exact(po.putN hp).append (PO.one ag)
   .have e2:(zp Ji)[i]?=some z.2:=by unfold zp;rw[bv,hz];rfl
    rw[uR,ep,iD,e2,Option.toList_some,dR];rfl
   .intro z hz;rcases cR.mp hz with z'|z'
    .exact fr z z'
    .rw[cI.mp z'];exact sm.free hp
 .rintro ys σ H ⟨_,sm,lR,zs,rfl,po,ep,fr⟩;rw[kX,<-dk,et] at ep;exact hd zs H sm lR po ep fr
open jW
abbrev Cn:Stmt:=eJ (fV 29) 0
abbrev GV:Stmt:=eJ (fV 29) 1
abbrev OA:Stmt:=eJ (fV 29) 3
abbrev AG:Stmt:=eJ (fV 29) 8
structure Er(K:PySem.W.Frag)(mg:Str->Option Value)(x:Str)(C:Addr):Prop where
 at_:mg x=some (.ref C)
 ok:ql K C
theorem KN:¬ (("house_count":Str)="tie_list"):=by decide +kernel
theorem XM:¬ (("house_count":Str)="out_lists"):=by decide +kernel
theorem n14:¬ (("house_count":Str)="distances"):=by decide +kernel
theorem n34:¬ (("out_lists":Str)="distances"):=by decide +kernel
def uf(n:Int)(tl ol ds:Addr):List (Str×V):=cY "distances" (.ref ds) (cY "out_lists" (.ref ol) (cY "tie_list" (.ref tl) (cY "house_count" (.int n) [])))
theorem Co(n:Int)(tl ol ds:Addr):(uf n tl ol ds).lookup ("house_count":Str)=some (.int n):=by
 unfold uf;rw[aX,ap n14,aX,ap XM,aX,ap KN,aX,ai rfl]
theorem wA(n:Int)(tl ol ds:Addr){m:Str}(h1:¬ m="house_count")(h2:¬ m="tie_list")(h3:¬ m="out_lists")(h4:¬ m="distances"):(uf n tl ol ds).lookup m=none:=by
 unfold uf;rw[aX,ap h4,aX,ap h3,aX,ap h2,aX,ap h1];all_goals rfl
theorem KO(n:Int)(tl ol ds:Addr):(uf n tl ol ds).lookup ("out_lists":Str)=some (.ref ol):=by
 unfold uf;rw[aX,ap n34,aX,ai rfl]
def iW(H:Hp)(L:Addr->Prop)(l:Addr)(n:Nat)(r:Nat->List Nat):Prop:=∃bs:List Addr,H l=some (.lst (bs.map V.ref))/\(∀b∈bs,L b)/\Holds H bs n (fun h=>.lst (NV (r h)))
theorem iW.keep(R:iW H L l n r)(hl:L l)(k:∀b o,L b->H b=some o->H' b=some o):iW H' L l n r:=
 let ⟨bs,a,b,c⟩:=R
 ⟨bs,k _ _ hl a,b,c.mono fun j hj e=>k _ _ (b _ (by rw[cg,cJ (by rw[c.1];exact hj)];exact iF _)) e⟩
theorem iW.row(R:iW H L l n r)(hh:h<n):∃ (bs:List Addr) (b:Addr),H l=some (.lst (bs.map V.ref))/\(bs.map V.ref)[h]?=some (V.ref b)/\H b=some (.lst (NV (r h)))/\L b:=by
 obtain⟨bs,a,b,c⟩:=R;have hl:h<bs.length:=by rw[c.1];exact hh
 refine⟨bs,bs[h],a,by rw[bv,cJ hl];rfl,?_,b _ (iF _)⟩;have:=c.2 h hh;rw[cg,cJ hl] at this;exact this
def KP(H:Hp)(L:Addr->Prop)(tl:Addr)(ts:Ts):Prop:=L tl/\∃zs:Zs,H tl=some (.lst (zr zs))/\PO H zs/\(∀z∈zs,L z.1)/\(zp zs).Perm ts/\Ord (zp zs)
theorem KP.keep(h:KP H L tl ts)(k:∀b o,L b->H b=some o->H' b=some o):KP H' L tl ts:=
 let ⟨a,zs,b,c,d,e⟩:=h;⟨a,zs,k _ _ a b,fun z hz=>k _ _ (d z hz) (c z hz),d,e⟩
structure ff(C:Addr)(H:Hp)(L:Addr->Prop)(p:Addr)(n:Nat)(ts:Ts):Prop where
 pM:i_ n ts
 ob:∃dx tl ol ds,H p=some (.ins C dx (uf n tl ol ds))/\L ol/\L ds/\iW H L ol n (dG n ts)/\iW H L ds n (fun h=>(List.range n).map (MG ts h))/\KP H L tl ts
theorem ff.keep(N:ff C H L p n ts)(k:∀b o,L b->H b=some o->H' b=some o)(kp:∀o,H p=some o->H' p=some o):ff C H' L p n ts:=
 let ⟨dx,tl,ol,ds,a,l1,l2,b,c,d⟩:=N.ob
 ⟨N.pM,dx,tl,ol,ds,kp _ a,l1,l2,b.keep l1 k,c.keep l2 k,d.keep k⟩
theorem ff.same(N:ff C H L p n ts)(s:az H H'):ff C H' L p n ts:=N.keep (fun b o _ e=>s b o e) (fun o e=>s _ o e)
structure NT(K:PySem.W.Frag)(mg:Str->Option Value)(C:Addr):Prop where
 cl:EK K C
 nH:gy K C "house_count"
 nT:gy K C "tie_list"
 nO:gy K C "out_lists"
 nD:gy K C "distances"
 XN:mg "Net"=some (.ref C)
structure fk(P:Program)(w:World)(K:PySem.W.Frag)(mg:Str->Option Value)(base:Heap)(CX:xf)(k:Nat)(C:Addr)(x:Str)(ps:List Str)(sp:Sp):Prop where
 ex:∃f fd,JM K C x f/\i6 K fd ps []/\bj P w K mg base CX k f fd ps sp
section
variable {P:Program} {w:World} {K:PySem.W.Frag} {mg:Str->Option Value} {base:Heap}
theorem KQ:aA ["self","thing"] ["self","thing"] (am AG):=⟨rfl,rfl,rfl,by decide +kernel,rfl,by decide +kernel,by decide +kernel⟩
def qP(K:PySem.W.Frag)(C CE:Addr):Sp:=fun vs H Q E=>∃ (L:Addr->Prop) (p:Addr) (n:Nat) (ts:Ts) (x:V) (o:Option Int),vs=[.ref p,x]/\ff C H L p n ts/\Wh K H x o/\(a9 o 0 ((n:Int)-1)=false->E (.ref CE) none H)/\(a9 o 0 ((n:Int)-1)=true->Q .bA H)
theorem GW{f C CE:Addr}{fd:FuncData}(F:eN K "check_house" "Net.check_house" AG f fd)(T:NT K mg C)(e:Er K mg "NoHouse" CE)(HH:cy P w K mg base ba 3 "is_house" ["many","thing"] (lu K)):
  bj P w K mg base (iy P w) 4 f fd ["self","thing"] (qP K C CE):=by
 refine F.Mo KQ (fun vs H Q E h=>?_) (fun dt A outer s H vs Q E hr h=>?_)
 .obtain⟨L,p,n,ts,x,o,rfl,_⟩:=h;rfl
 .obtain⟨L,p,n,ts,x,o,rfl,N,wh,k1,k2⟩:=h;obtain⟨dx,tl,ol,ds,h1,_⟩:=N.ob;refine⟨_,ak (bW (de (c_ (aw HH hr aF (aa (gC (pv 0) rfl) (aa (pv 1) af))))) (ak (kM (q:=fun H1=>E (.ref CE) none H1) rfl e.ok rfl e.at_ (aa rP af) (fun _ _ _ _ _ _ _ I m q=>kK I m q))) aN),?_⟩;refine⟨_,rfl,p,C,dx,_,_,rfl,h1,T.cl,T.nH,Co _ _ _ _,_,rfl,x,o,n,rfl,wh,_,rfl,?_⟩;cases hw:a9 o 0 ((n:Int)-1) with
  |false=>exact gD ⟨by show 1<=sizeLine;decide,k1 hw⟩
  |true=>exact eX (k2 hw)
theorem S7(n:Int)(tl ol ds:Addr):(uf n tl ol ds).lookup ("check_house":Str)=none:=wA n tl ol ds (by decide +kernel) (by decide +kernel) (by decide +kernel) (by decide +kernel)
theorem aY:(NV xs).length=xs.length:=aV _
theorem fJ{o:Option Int}{n:Nat}(h:a9 o 0 ((n:Int)-1)=true):∃i:Nat,i<n/\o=some (i:Int):=by
 cases o with
 |none=>cases h
 |some i=>
  unfold a9 at h;simp at h;exact⟨i.toNat,by lia,by congr 1;lia⟩
theorem dv{i n:Nat}(h:i<n):a9 (some (i:Int)) 0 ((n:Int)-1)=true:=by unfold a9;simp;lia
def Cp(K:PySem.W.Frag)(C CE:Addr)(ans:Hp->Nat->Ts->Nat->VK->Prop):Sp:=fun vs H Q E=>∃ (L:Addr->Prop) (p:Addr) (n:Nat) (ts:Ts) (x:V) (o:Option Int),vs=[.ref p,x]/\ff C H L p n ts/\Wh K H x o/\(a9 o 0 ((n:Int)-1)=false->E (.ref CE) none H)/\∀i:Nat,i<n->o=some (i:Int)->ans H n ts i Q
theorem S_:aA ["self","house"] ["self","house"] (am OA):=⟨rfl,rfl,rfl,by decide +kernel,rfl,by decide +kernel,by decide +kernel⟩
def KR:Hp->Nat->Ts->Nat->VK->Prop:=fun H n ts i Q=>∀r H',az H H'->H r=none->H' r=some (.lst (NV (dG n ts i)))->Q (.ref r) H'
theorem pN{H:Hp}{x:V}{i:Int}(h:Wh K H x (some i)):x=.int i:=by cases h;rfl
theorem OB{f C CE:Addr}{fd:FuncData}(F:eN K "out" "Net.out" OA f fd)(T:NT K mg C)(B:Bl mg)(M:fk P w K mg base (iy P w) 4 C "check_house" ["self","thing"] (qP K C CE)):
  bj P w K mg base (iy P w) 5 f fd ["self","house"] (Cp K C CE KR):=by
 obtain⟨fM,V4,mM,bM,GM⟩:=M.ex;refine F.Mo S_ (fun vs H Q E h=>?_) (fun dt A outer s H vs Q E hr h=>?_)
 .obtain⟨L,p,n,ts,x,o,rfl,_⟩:=h;rfl
 .obtain⟨L,p,n,ts,x,o,rfl,N,wh,k1,k2⟩:=h;obtain⟨dx,tl,ol,ds,h1,_,_,R,_⟩:=N.ob;refine⟨_,ah (bq (cP (pv 0) T.cl mM GM hr bM .nil (uD (E':=E) fun _ _ _ z=>z) (aa (pv 1) af)))
   (ak (aI (cf nJ (by rfl) B.lst qX (aa (bg bD (gC (pv 0) rfl) (pv 1) (fun _ _=>rfl)) af)))),?_⟩
  refine⟨_,rfl,p,dx,_,rfl,h1,S7 _ _ _ _,_,rfl,L,p,n,ts,x,o,rfl,N,wh,k1,fun hw=>?_⟩;obtain⟨i,hi,rfl⟩:=fJ hw;obtain rfl:=pN wh;obtain⟨bs,b,r1,r2,r3,_⟩:=R.row hi;exact⟨_,rfl,p,C,dx,_,_,rfl,h1,T.cl,T.nO,KO _ _ _ _,_,rfl,ol,_,_,_,rfl,rfl,bh.of r1,aD r2,b,_,rfl,.inl (bh.of r3),fun l hl=>k2 i hi rfl l _ (ao hl) hl ag⟩
end
open PySem L2 jW
abbrev AH:Stmt:=fV 30
abbrev OC:Stmt:=fV 31
abbrev OD:Stmt:=fV 32
section
variable {P:Program} {w:World} {K:PySem.W.Frag} {mg:Str->Option Value} {base:Heap}
abbrev OE:Stmt:=fV 12
theorem Ta:aA ["many","one","other"] ["many","one","other"] (am OE):=⟨rfl,rfl,rfl,by decide +kernel,rfl,by decide +kernel,by decide +kernel⟩
def GX:Sp:=fun vs H Q _=>∃ (n a b:Int),vs=[.int n,.int a,.int b]/\0<=a/\a<n/\0<=b/\b<n/\a≠b/\Q (.bl true) H
theorem OF(F:eN K "are_unlike_houses" "are_unlike_houses" OE f fd)(HH:cy P w K mg base ba 3 "is_house" ["many","thing"] (lu K)):
  bj P w K mg base ba 4 f fd ["many","one","other"] GX:=by
 refine F.ok Ta (fun vs H Q E h=>?_) (fun dt A outer s H vs Q E hr h=>?_)
 .obtain⟨n,a,b,rfl,_⟩:=h;rfl
 .obtain⟨n,a,b,rfl,a1,a2,b1,b2,mC,k⟩:=h;refine⟨_,ak (aI (mr (aw HH hr aF (aa (pv 0) (aa (pv 1) af))) (mr (aw HH hr aF (aa (pv 0) (aa (pv 2) af))) (o5 (ju xp (pv 1) (pv 2) (be _)))))),?_⟩;refine⟨_,rfl,_,rfl,_,_,n,rfl,.int a,_,rfl,?_⟩;rw[ai (show a9 (some a) 0 (n-1)=true by unfold a9;simp;lia)];refine⟨_,rfl,_,rfl,_,_,n,rfl,.int b,_,rfl,?_⟩;rw[ai (show a9 (some b) 0 (n-1)=true by unfold a9;simp;lia)];refine⟨_,rfl,_,rfl,rfl,?_⟩;have e:(!decide (V.int a=V.int b))=true:=by simp[mC]
  rw[e];exact k
theorem Tb:aA ["many","thing"] ["many","thing"] (am OC):=⟨rfl,rfl,rfl,by decide +kernel,rfl,by decide +kernel,by decide +kernel⟩
def GZ:Sp:=fun vs H Q _=>∃ (n:Int) (p:Addr) (a b:Int),vs=[.int n,.ref p]/\H p=some (.tup [.int a,.int b])/\0<=a/\a<n/\0<=b/\b<n/\a≠b/\Q (.bl true) H
theorem OG(F:eN K "is_tie" "is_tie" OC f fd)(R:cy P w K mg base ba 1 "is_row" ["thing","length"] (uQ K))(U:cy P w K mg base ba 4 "are_unlike_houses" ["many","one","other"] GX):
  bj P w K mg base ba 5 f fd ["many","thing"] GZ:=by
 refine F.ok Tb (fun vs H Q E h=>?_) (fun dt A outer s H vs Q E hr h=>?_)
 .obtain⟨n,p,a,b,rfl,_⟩:=h;rfl
 .obtain⟨n,p,a,b,rfl,hp,a1,a2,b1,b2,mC,k⟩:=h;refine⟨_,ak (aI (mr (aw R (hr.mono (by decide)) aF (aa (pv 1) (aa aB af)))
   (o5 (aw U hr aF (aa (pv 0) (aa (bg cp (pv 1) aB (fun _ _=>rfl)) (aa (bg cp (pv 1) aB (fun _ _=>rfl)) af))))))),?_⟩
  refine⟨_,rfl,_,_,_,rfl,.tup hp,true,rfl,?_⟩;exact⟨_,rfl,_,rfl,p,_,_,_,rfl,rfl,bz.of hp,aD (j:=0) rfl,_,rfl,p,_,_,_,rfl,rfl,bz.of hp,aD (j:=1) rfl,n,a,b,rfl,a1,a2,b1,b2,mC,k⟩
theorem Cq:aA ["many","ties","tie"] ["many","ties"] (am AH):=⟨rfl,rfl,rfl,by decide +kernel,rfl,by decide +kernel,by decide +kernel⟩
theorem xX:PySem.W.kitOne K (.type "list") (.type "list")=some true:=by kernel_rfl
structure fK(H:Hp)(l:Addr)(n:Nat)(zs:Zs):Prop where
 pM:i_ n (zp zs)
 at_:H l=some (.lst (zr zs))
 po:PO H zs
theorem fK.same(h:fK H l n zs)(s:az H H'):fK H' l n zs:=⟨h.pM,s _ _ h.at_,h.po.same s⟩
def lw:Sp:=fun vs H Q _=>∃ (n:Nat) (l:Addr) (zs:Zs),vs=[.int n,.ref l]/\fK H l n zs/\∀H',az H H'->Q .bA H'
theorem G0(F:eN K "check_ties" "check_ties" AH f fd)(B:Bl mg)(gF:∃t,mg "FEWEST_HOUSES"=some (.int 2 t))(gM:∃t,mg "MOST_HOUSES"=some (.int 32 t))(W:cy P w K mg base ba 2 "is_whole_within" ["thing","least","most"] (kW K))(T:cy P w K mg base ba 5 "is_tie" ["many","thing"] GZ):
  bj P w K mg base ba 6 f fd ["many","ties"] lw:=by
 obtain⟨tF,gF⟩:=gF;obtain⟨tM,gM⟩:=gM;refine F.ok Cq (fun vs H Q E h=>?_) (fun dt A outer s H vs Q E hr h=>?_)
 .obtain⟨n,l,zs,rfl,_⟩:=h;rfl
 .refine⟨_,ah (bW (de (c_ (aw W (hr.mono (by decide)) aF (aa (pv 0) (aa (jr (v:=.int 2) rfl gF ⟨_,rfl⟩) (aa (jr (v:=.int 32) rfl gM ⟨_,rfl⟩) af)))))) cS aN)
   (ah (bW (de (c_ (aG ij (by rfl) B.Ox qU (aa (pv 1) (aa (js (v:=.ty "list") rfl B.lst qX rfl) af))))) cS aN)
   (ah (bZ du rfl (bC (pv 1)) (au (i:=2) Cq.nd rfl (Or.inl rfl)) (ak (bW (de (c_ (aw T hr aF (aa (pv 0) (aa (pv 2) af))))) cS aN)))
   (ak (bW (aK xp (aG xE (by rfl) B.len dS (aa (cf (DA rfl (by have:=hr.un;show (A.deeper _).units+8<_;lia)) (by rfl) B.set PyProof.Rows.boot_set (aa (pv 1) af)) af)) (aG aJ (by rfl) B.len dS (aa (pv 1) af)) (be _)) cS aN)))),?_⟩
  obtain⟨n,l,zs,rfl,tt,k⟩:=h;obtain⟨fi,hl,po⟩:=id tt;have n1:=fi.n1;have n2:=fi.n2;refine⟨_,rfl,_,_,2,32,rfl,.int n,_,rfl,?_⟩;rw[show a9 (some (n:Int)) 2 32=true by unfold a9;simp;lia];refine eX ?_;refine⟨_,rfl,_,_,_,.type "list",true,rfl,⟨rfl,xX⟩,.of (.lst hl),_,rfl,eX ?_⟩;refine⟨_,rfl,l,rfl,⟨_,bh.of hl⟩,dU (K:=K) (a:=l) (xs:=zr zs) (fun i σ H2=>H2=H/\∃v,σ=[some (.int n),some (.ref l),v]) ⟨rfl,none,rfl⟩ (fun i σ H2 _ ⟨e,_⟩=>by rw[e];exact bh.of hl) ?_ ?_⟩
  .rintro i x σ H2 hx ⟨rfl,v,rfl⟩;obtain⟨z,hz,rfl⟩:=ww hx;have MN:z∈zs:=cB hz;have hzp:z.2∈zp zs:=aQ.mpr ⟨z,MN,rfl⟩;have r:=fi.rg _ hzp;exact⟨_,rfl,_,rfl,n,_,_,_,rfl,po z MN,r.1.1,r.1.2,r.2.1,r.2.2,fi.ne _ hzp,_,rfl,eX ⟨rfl,_,rfl⟩⟩
  .rintro σ H2 ⟨rfl,v,rfl⟩;have cG:(zp zs).length<=256:=fi.len;refine⟨_,rfl,l,zs.map (·.1),zp zs,rfl,bh.of (by rw[<-qO];exact hl),by rw[aV,dk],fun i hi=>?_,fi.nd,fun y hy=>?_,by lia,fun D hD=>?_⟩
   .rw[dk] at hi;rw[xW hi,Cm hi];exact bz.of (po _ (iF hi))
   .have r:=fi.rg _ hy;lia
   .have nl:l≠D:=aq hl hD;refine⟨D,_,rfl,ag,by lia,_,rfl,l,zr zs,rfl,.inl (bh.of (by rw[al nl];exact hl)),rfl,_,rfl,?_⟩;have ez:(!decide (V.int (((zp zs).length:Nat):Int)=V.int (((zr zs).length:Nat):Int)))=false:=by rw[dk,kX];simp
    rw[ez];exact eX (k _ (ao hD))
end
abbrev xY:Stmt:=fV 33
section
variable {P:Program} {w:World} {K:PySem.W.Frag} {mg:Str->Option Value} {base:Heap}
theorem pO(S:St->Prop)(p q:Int×Int->Int)(h:Int)(hD:H D=none)(hl:H l=some (.lst (zr zs)))(po:PO H zs)(hn:zs.length<=1000)(s0:S σB)(hg:∀z σ H2 (Kt:V->St->Hp->Prop) (Kf:St->Hp->Prop),z∈zs->S σ->H2 z.1=some (ML z.2)->(∀σ2,S σ2->p z.2=h->Kt (.int (q z.2)) σ2 H2)->(∀σ2,S σ2->p z.2≠h->Kf σ2 H2)->
   g (.ref z.1) σ H2 fun σ2 H2=>tt σ2 H2 fun b H3=>if b=true then te σ2 H3 fun v H4=>Kt v σ2 H4 else Kf σ2 H3)(hd:cK (upd H D (.lst (IV (((zp zs).filter fun y=>decide (p y=h)).map q))))):iG (Fh K l) g tt te D cK σB (upd H D (.lst [])):=by
 have nl:l≠D:=aq hl hD;have tk:∀ {i:Nat} {z:Addr×(Int×Int)},zs[i]?=some z->(zp zs).take (i+1)=(zp zs).take i++[z.2]:=fun {i z} hz=>by
  rw[iD,show (zp zs)[i]?=some z.2 by unfold zp;rw[bv,hz];rfl];rfl
 refine gX (xs:=zr zs) (fun i ys σ H2=>S σ/\ys=IV ((((zp zs).take i).filter fun y=>decide (p y=h)).map q)/\H2=upd H D (.lst ys)) ⟨s0,by simp,rfl⟩ (fun i ys σ H2 _ ⟨_,_,e⟩=>by rw[e];exact bh.of (by rw[al nl];exact hl)) ?_ ?_
 .rintro i x ys σ H2 Kt Kf hx ⟨hS,ey,rfl⟩ kt kf;obtain⟨z,hz,rfl⟩:=ww hx;have MN:z∈zs:=cB hz;have hp:=po z MN;have na:z.1≠D:=aq hp hD;have hi:i<zs.length:=(cQ.mp hz).1;refine hg z σ _ Kt Kf MN hS (by rw[al na];exact hp) (fun σ2 s2 e=>?_) (fun σ2 s2 e=>?_)
  .refine kt _ _ _ ag ?_ ⟨s2,?_,?_⟩
   .rw[ey,aV,aV];exact dN (gZ _ _) (dN (List.length_take_le _ _) (bK (show i<1000 by lia) (by decide)))
   .rw[ey,tk hz,jK,dR];have:decide (p z.2=h)=true:=by simp[e]
    simp[eT,this]
   .rw[qD]
  .refine kf _ _ ⟨s2,?_,rfl⟩;have:decide (p z.2=h)=false:=by simp[e]
   rw[ey,tk hz,jK];simp[eT,this]
 .rintro ys σ H2 ⟨_,ey,rfl⟩;rw[kX,<-dk,et] at ey;rw[ey];exact hd
theorem Q8:(["one","other","house"]:List Str).Nodup:=by decide +kernel
theorem Cr:aA ["many","ties","house","leading_out","leading_in"] ["many","ties"] (am OD):=⟨rfl,rfl,rfl,by decide +kernel,rfl,by decide +kernel,by decide +kernel⟩
theorem OH(F:eN K "check_balance" "check_balance" OD f fd)(B:Bl mg)(gM:∃t,mg "MOST_TIES_OUT"=some (.int 8 t)):
  bj P w K mg base ba 1 f fd ["many","ties"] lw:=by
 obtain⟨tM,gM⟩:=gM;refine F.ok Cr (fun vs H Q E h=>?_) (fun dt A outer s H vs Q E hr h=>?_)
 .obtain⟨n,l,zs,rfl,_⟩:=h;rfl
 .obtain⟨n,l,zs,rfl,T,k⟩:=h;have fi:=T.pM;have n1:=fi.n1;have n2:=fi.n2;have cG:zs.length<=256:=by have:=fi.len;rw[dk] at this;exact this
  refine'⟨_,ak (bZ du rfl (ce rfl B.range (aa (pv 0) af)) (au (i:=2) Cr.nd rfl (Or.inr rfl))
   (ah (aO (i:=3) Cr.nd rfl (Or.inl rfl) (aG aJ (by rfl) B.len dS (aa ?c1 af)))
   (ah (aO (i:=4) Cr.nd rfl (Or.inl rfl) (aG aJ (by rfl) B.len dS (aa ?c2 af)))
   (ah (bW (aK xp (pv 3) (pv 4) (be _)) cS aN)
   (ak (bW (aK Br (pv 3) (jr (v:=.int 8) rfl gM ⟨_,rfl⟩) (be _)) cS aN)))))),?_⟩
  case c1=>
   refine' d9 (g:=De K 2 (kH (cq 0) (kH (cq 1) Dd))) (NB:=["one","other","house"]) (src:=[none,none,some 2]) (cw (by kernel_rfl)) rfl (bC (pv 1)) ?g ?t ?e;case g=>exact fun cl C s₃ H₃ fp=>gw (n:=2) rfl (aR (au (i:=0) Q8 rfl (Or.inl rfl) (Or.inr rfl)) (aR (au (i:=1) Q8 rfl (Or.inl rfl) (Or.inr rfl)) eI))
   case t=>exact fun cl C s₃ H₃ fp=>dD (aK iY (pv 0) (pv 2) (be _))
   case e=>exact fun cl C s₃ H₃ fp=>pv 0
  case c2=>
   refine' d9 (g:=De K 2 (kH (cq 0) (kH (cq 1) Dd))) (NB:=["one","other","house"]) (src:=[none,none,some 2]) (cw (by kernel_rfl)) rfl (bC (pv 1)) ?g ?t ?e;case g=>exact fun cl C s₃ H₃ fp=>gw (n:=2) rfl (aR (au (i:=0) Q8 rfl (Or.inl rfl) (Or.inr rfl)) (aR (au (i:=1) Q8 rfl (Or.inl rfl) (Or.inr rfl)) eI))
   case t=>exact fun cl C s₃ H₃ fp=>dD (aK iY (pv 1) (pv 2) (be _))
   case e=>exact fun cl C s₃ H₃ fp=>pv 1
  refine⟨_,rfl,n,rfl,by lia,by lia,d8 (n:=n) (lo:=0) (fun i σ H2=>az H H2/\∃a b c,σ=[some (.int n),some (.ref l),a,b,c]) ⟨az.refl _,none,none,none,rfl⟩ ?_ ?_⟩
  .rintro i σ H2 hi ⟨sm,a,b,c,rfl⟩;have T2:=T.same sm;refine⟨_,rfl,l,rfl,⟨_,bh.of T2.at_⟩,fun D hD=>pO (fun σ=>∃a b,σ=[a,b,some (.int (0+(i:Int)))]) (·.1) (·.1) (0+(i:Int)) hD T2.at_ T2.po (by lia) ⟨_,_,rfl⟩ ?_ ?_⟩
   .rintro z σ H3 Kt Kf hj ⟨x,y,rfl⟩ ha kt kf;refine⟨z.1,_,rfl,bz.of ha,rfl,_,_,rfl,_,_,rfl,rfl,?_⟩;refine⟨_,rfl,_,rfl,rfl,_,rfl,?_⟩;refine gG (fun e=>?_) (fun e=>?_)
    .exact⟨_,rfl,kt _ ⟨_,_,rfl⟩ (by simpa using e)⟩
    .exact kf _ ⟨_,_,rfl⟩ (by simpa using e)
   .refine⟨D,_,rfl,.inl (bh.of ag),?_⟩;have D_:=cx (o:=.lst (IV (((zp zs).filter fun y=>decide (y.1=0+(i:Int))).map (·.1)))) (sm.trans (az.refl _)) (H:=H) (by cases z:H D with|none=>rfl|some o=>rw[sm _ _ z] at hD;cases hD);have T3:=T.same D_;refine⟨_,rfl,l,rfl,⟨_,bh.of T3.at_⟩,fun D' hD'=>pO (fun σ=>∃a b,σ=[a,b,some (.int (0+(i:Int)))]) (·.2) (·.2) (0+(i:Int)) hD' T3.at_ T3.po (by lia) ⟨_,_,rfl⟩ ?_ ?_⟩
    .rintro z σ H3 Kt Kf hj ⟨x,y,rfl⟩ ha kt kf;refine⟨z.1,_,rfl,bz.of ha,rfl,_,_,rfl,_,_,rfl,rfl,?_⟩;refine⟨_,rfl,_,rfl,rfl,_,rfl,?_⟩;refine gG (fun e=>?_) (fun e=>?_)
     .exact⟨_,rfl,kt _ ⟨_,_,rfl⟩ (by simpa using e)⟩
     .exact kf _ ⟨_,_,rfl⟩ (by simpa using e)
    .refine⟨D',_,rfl,.inl (bh.of ag),?_⟩;rw[eU] at *;have q1:(IV (((zp zs).filter fun y=>decide (y.1=(i:Int))).map (·.1))).length=(IV (((zp zs).filter fun y=>decide (y.2=(i:Int))).map (·.2))).length:=by
      rw[aV,aV,aV,aV];exact fi.bal i
     have q2:(IV (((zp zs).filter fun y=>decide (y.1=(i:Int))).map (·.1))).length<=8:=by
      rw[aV,aV];exact fi.most i
     refine⟨_,rfl,_,rfl,rfl,_,rfl,?_⟩;rw[<-q1];rw[show (!decide (V.int (((IV (((zp zs).filter fun y=>decide (y.1=(i:Int))).map (·.1))).length:Nat):Int)=V.int (((IV (((zp zs).filter fun y=>decide (y.1=(i:Int))).map (·.1))).length:Nat):Int)))=false by simp];refine eX ?_;refine⟨_,rfl,_,_,rfl,rfl,_,rfl,?_⟩;rw[show decide ((((IV (((zp zs).filter fun y=>decide (y.1=(i:Int))).map (·.1))).length:Nat):Int) > 8)=false by rw[vh];lia];exact eX ⟨D_.trans (ao hD'),_,_,_,rfl⟩
  .rintro σ H2 ⟨sm,a,b,c,rfl⟩;exact k H2 sm
end
def KS:Expr:=match (cu xY).getD 1 (.Pass ⟨0,0,0,0⟩) with
 |.Return (some (.Call _ _ (k::_) _)) _=>k.value
 |_=>.Name "x" ⟨0,0,0,0⟩
def KU:Arguments:=match KS with
 |.Lambda a _ _ _=>a
 |_=>{ posonlyargs:=[],args:=[],vararg:=none,kwonlyargs:=[],kw_defaults:=[],kwarg:=none,defaults:=[] }
def KW:Expr:=match KS with
 |.Lambda _ b _ _=>b
 |e=>e
def Tc:Scope:=match KS with
 |.Lambda _ _ s _=>s
 |_=>{ kind:=.function,names:=[],isGenerator:=false,isCoroutine:=false }
def OI:Pos:=match KS with
 |.Lambda _ _ _ p=>p
 |_=>⟨0,0,0,0⟩
def MQ:Str:=("houses_out":Str)++".<locals>."++"<lambda>"
abbrev nZ(Pt:Addr)(H:Hp):Prop:=nR OI MQ Pt H
def uT(Pt:Addr)(H H':Hp):Prop:=∀b o,H b=some o->b≠Pt->H' b=some o
theorem uT.of(a:az H H'):uT Pt H H':=fun c o h _=>a c o h
theorem nZ.not(t:nZ Pt H)(h:H b=some o)(n:∀ps,o≠.on ps):b≠Pt:=by
 rintro rfl;rcases t with z|⟨c,z,_⟩ <;> · rw[h] at z;exact n _ (bi z)
theorem nZ.same(t:nZ Pt H)(e:az H H'):nZ Pt H':=by
 rcases t with z|⟨c,z,y⟩
 .exact .inl (e _ _ z)
 .exact .inr ⟨c,e _ _ z,e _ _ y⟩
theorem KY{n a b h:Int}(hn:0<n)(a0:0<=a)(a1:a<n)(b0:0<=b)(b1:b<n)(e:(a-h) % n=(b-h) % n):a=b:=by
 have h1:=Int.emod_emod_of_dvd (a-h) (Int.dvd_refl n);have q:(a-b) % n=0:=by
  have:a-b=(a-h)-(b-h):=by lia
  rw[this,Int.sub_emod,e,Int.sub_self,Int.zero_emod]
 obtain⟨c,hc⟩:=Int.dvd_of_emod_eq_zero q;have c0:c=0:=by
  rcases Int.lt_trichotomy c 0 with z|z|z
  .have:n*c<=n*(-1):=EW (by lia) (by lia);lia
  .exact z
  .have:n*1<=n*c:=EW (by lia) (by lia);lia
 rw[c0] at hc;lia
theorem ug{ts:Ts}{h:Int}(nd:ts.Nodup):((ts.filter fun y=>decide (y.1=h)).map (·.2)).Nodup:=by
 refine L2.pB (nd.filter _) fun x hx y hy e=>?_;have a:=(bw.mp hx).2;have b:=(bw.mp hy).2;simp at a b;exact eK (a.trans b.symm) e
theorem Ea{n:Nat}{ts:Ts}{h:Nat}(F:i_ n ts)(hh:h<n){out:List Int}(ko:Of (h:Int) (n:Int) ((ts.filter fun y=>decide (y.1=(h:Int))).map (·.2)) out):out.map V.int=NV (dG n ts h):=by
 obtain⟨ps,hp,rfl,hs⟩:=ko;have DE:(ps.map (·.2)).Perm ((ts.filter fun y=>decide (y.1=(h:Int))).map (·.2)):=by
  have:=hp.map (·.2);rw[fu] at this;refine this.trans (vH ?_);conv=>rhs;rw[<-jm ((ts.filter fun y=>decide (y.1=(h:Int))).map (·.2))]
  rfl
 have mem:∀z,z∈ps.map (·.2)↔((h:Int),z)∈ts:=fun z=>by
  rw[DE.mem_iff,aQ];constructor
  .rintro⟨y,hy,rfl⟩;obtain⟨y1,y2⟩:=bw.mp hy;have:y.1=(h:Int):=by simpa using y2
   rw[<-this];exact y1
  .intro hz;exact⟨_,bw.mpr ⟨hz,by simp⟩,rfl⟩
 have nd:(ps.map (·.2)).Nodup:=DE.nodup_iff.mpr (ug F.nd);have key:∀q∈ps,q.1=(q.2-(h:Int)) % (n:Int):=fun q hq=>by
  obtain⟨z,_,e⟩:=aQ.mp (hp.mem_iff.mp hq);rw[<-e]
 have hn:(0:Int)<n:=by have:=F.n1;lia
 have sorted:(ps.map (·.2)).Pairwise fun x y=>(x-(h:Int)) % (n:Int)<(y-(h:Int)) % (n:Int):=by
  refine jL.mpr ?_;have nd2:=jL.mp nd;refine(hs.and nd2).imp_of_mem fun {x y} hx hy Q5=>?_;have l1:=Q5.1;rw[key x hx,key y hy] at l1;have ax:=F.rg _ ((mem x.2).mp (aQ.mpr ⟨x,hx,rfl⟩));have ay:=F.rg _ ((mem y.2).mp (aQ.mpr ⟨y,hy,rfl⟩));have ne:(x.2-(h:Int)) % (n:Int)≠(y.2-(h:Int)) % (n:Int):=fun z=>Q5.2 (KY hn ax.2.1 ax.2.2 ay.2.1 ay.2.2 z);lia
 have e:ps.map (·.2)=(dG n ts h).map fun (o:Nat)=>(o:Int):=by
  refine qa (k:=fun z=>(z-(h:Int)) % (n:Int)) sorted ?_ fun z=>?_
  .refine jL.mpr ?_;exact p_ hh
  .rw[mem,aQ];constructor
   .intro hz;have r:=F.rg _ hz;refine⟨z.toNat,(eG F hh).mpr ?_,by lia⟩;show (((h:Nat):Int),((z.toNat:Nat):Int))∈ts;rw[show ((z.toNat:Nat):Int)=z by lia];exact hz
   .rintro⟨o,ho,rfl⟩;exact(eG F hh).mp ho
 rw[e,fu];rfl
section
variable {P:Program} {w:World} {K:PySem.W.Frag} {mg:Str->Option Value} {base:Heap}
theorem G4:aA ["many","ties","house","others"] ["many","ties","house"] (am xY):=⟨rfl,rfl,rfl,by decide +kernel,rfl,by decide +kernel,by decide +kernel⟩
def wB(Pt:Addr):Sp:=fun vs H Q _=>∃ (n:Nat) (l:Addr) (h:Nat) (zs:Zs),vs=[.int n,.ref l,.int h]/\h<n/\fK H l n zs/\nZ Pt H/\
 ∀ (r:Addr) (H':Hp),nZ Pt H'->uT Pt H H'->H r=none->H' r=some (.lst (NV (dG n (zp zs) h)))->Q (.ref r) H'
theorem KZ(F:Aq K "houses_out" "houses_out" xY f fd c)(B:Bl mg)(kb:K.In base)(hb:wc mg base)(hc:PySem.W.codeHdIn K c Pt=true):
  bj P w K mg base ba 1 f fd ["many","ties","house"] (wB Pt):=by
 refine F.ok G4 (fun vs H Q E h=>?_) (fun A outer s H vs Q E hr h=>?_)
 .obtain⟨n,l,h,zs,rfl,_⟩:=h;rfl
 .obtain⟨n,l,h,zs,rfl,hh,T,tb,k⟩:=h;have fi:=T.pM;have n1:=fi.n1;have cG:zs.length<=256:=by have:=fi.len;rw[dk] at this;exact this
  have LS:Sw (jv ba P w K mg base ["many","ties","house","others"] "houses_out" (am xY) f (.ref c) A outer s H E).Mi MQ KU KW Tc "other" "house" "many" 2 0:=
   ⟨⟨_,_,_,_,_,rfl⟩,fun _ _ _ _ _=>rfl,rfl,rfl,rfl,rfl,rfl,rfl,rfl,by decide +kernel,by decide +kernel,by decide +kernel,rfl,rfl,rfl,by decide,⟨by decide,by decide⟩,⟨by decide,by decide⟩⟩
  refine'⟨_,ah (dg (i:=3) (g:=De K 2 (kH (cq 0) (kH (cq 1) Dd))) (NB:=["one","other","house"]) (src:=[none,none,some 2]) (cw (by kernel_rfl)) rfl (bC (pv 1)) ?g ?t ?e G4.nd rfl rfl rfl)
   (ak (aI (DD (Ao LS hr) rfl B.sorted yL (aa (pv 3) af) (JP (Oe (NB:=["other","house","many"]) (src:=[none,some 2,some 0]) (J_ kb hb hc) (cw (by kernel_rfl))) NH)))),?_⟩
  case g=>exact fun cl C s₃ H₃ fp=>gw (n:=2) rfl (aR (au (i:=0) Q8 rfl (Or.inl rfl) (Or.inr rfl)) (aR (au (i:=1) Q8 rfl (Or.inl rfl) (Or.inr rfl)) eI))
  case t=>exact fun cl C s₃ H₃ fp=>dD (aK iY (pv 0) (pv 2) (be _))
  case e=>exact fun cl C s₃ H₃ fp=>pv 1
  refine⟨_,rfl,l,rfl,⟨_,bh.of T.at_⟩,fun D hD=>pO (fun σ=>∃a b,σ=[a,b,some (.int (h:Int))]) (·.1) (·.2) (h:Int) hD T.at_ T.po (by lia) ⟨_,_,rfl⟩ ?_ ?_⟩
  .rintro z σ H3 Kt Kf hj ⟨x,y,rfl⟩ ha kt kf;refine⟨z.1,_,rfl,bz.of ha,rfl,_,_,rfl,_,_,rfl,rfl,?_⟩;refine⟨_,rfl,_,rfl,rfl,_,rfl,?_⟩;refine gG (fun e=>?_) (fun e=>?_)
   .exact⟨_,rfl,kt _ ⟨_,_,rfl⟩ (by simpa using e)⟩
   .exact kf _ ⟨_,_,rfl⟩ (by simpa using e)
  .generalize Jc:((zp zs).filter fun y=>decide (y.1=(h:Int))).map (·.2)=os;have F6:os.length<=8:=by rw[<-Jc,aV];exact fi.most h
   have sm:az H (upd H D (.lst (IV os))):=ao hD;refine⟨_,rfl,tb.same sm,fun f' c' H2 t2' ml Nq J4=>?_⟩;have t2:nZ Pt H2:=t2';have iA:H2 D=some (.lst (IV os)):=ml _ _ ag ((tb.same sm).not ag (by intro ps z;cases z));refine⟨D,f',c',os,h,n,rfl,rfl,bh.of iA,(by lia),J4,Nq,rfl,rfl,by lia,fun r out EO ko=>?_⟩;rw[<-Jc] at ko;rw[Ea fi hh ko];have D_:az H2 (upd H2 r (.lst (NV (dG n (zp zs) h)))):=ao EO;refine k r _ (t2.same D_) (fun b o e hb=>D_ _ _ (ml b o (sm _ _ e) hb)) ?_ ag;cases z:H r with
   |none=>rfl
   |some o=>
    by_cases hP:r=Pt
    .rcases t2 with q|⟨_,q,_⟩ <;> · rw[<-hP,EO] at q;cases q
    .rw[ml r o (sm _ _ z) hP] at EO;cases EO
end
abbrev G6:Stmt:=fV 34
abbrev AI:Stmt:=fV 35
def lI(n:Nat)(R:List Nat)(f:Nat->Nat):List V:=(List.range n).map fun x=>if x∈R then V.int ((f x:Nat):Int) else .bA
theorem kY:(lI n R f).length=n:=by unfold lI;rw[aV,fm]
theorem kZ(h:x<n):(lI n R f)[x]?=some (if x∈R then V.int ((f x:Nat):Int) else .bA):=by
 unfold lI;rw[bv,List.getElem?_range h];rfl
theorem AJ(hs:s<n):(List.replicate n V.bA).set s (V.int 0)=lI n [s] (fun _=>0):=by
 apply rj;intro x;by_cases hx:x<n
 .rw[kZ hx];by_cases e:x=s
  .subst e;rw[qZ (by rw[l4];exact hx),ai (by simp)];rfl
  .rw[vo (fun z=>e z.symm),List.getElem?_replicate,ai hx,ap (by simp[e])]
 .rw[j4 (by rw[vE,l4];lia),j4 (by rw[kY];lia)]
theorem G7(hv:v<n):(lI n R f).set v (V.int ((k:Nat):Int))=lI n (R++[v]) (put f v k):=by
 apply rj;intro x;by_cases hx:x<n
 .rw[kZ hx];by_cases e:x=v
  .subst e;rw[qZ (by rw[kY];exact hx),ai (by simp),kT]
  .rw[vo (fun z=>e z.symm),kZ hx,gI e];by_cases h:x∈R
   .rw[ai h,ai (ny _ h)]
   .rw[ap h,ap (fun z=>(cR.mp z).elim h fun z=>e (by simpa using z))]
 .rw[j4 (by rw[vE,kY];lia),j4 (by rw[kY];lia)]
def Td(σ:St):Nat:=match σ[4]? with
 |some (some (V.int z))=>z.toNat
 |_=>0
theorem nbO:(["others"]:List Str).Nodup:=by decide +kernel
def sJ(H:Hp)(ol:Addr)(n:Nat)(ts:Ts):Prop:=∃bs:List Addr,H ol=some (.lst (bs.map V.ref))/\Holds H bs n (fun h=>.lst (NV (dG n ts h)))
theorem sJ.same(x:sJ H ol n ts)(e:az H H'):sJ H' ol n ts:=let ⟨bs,a,b⟩:=x;⟨bs,e _ _ a,b.mono fun _ _ z=>e _ _ z⟩
theorem MR{as:List Addr}{i:Nat}{x:V}(h:(as.map V.ref)[i]?=some x):i<as.length/\x=.ref (as.getD i 0):=by
 rw[bv] at h;cases e:as[i]? with
 |none=>rw[e] at h;cases h
 |some a=>
  rw[e] at h;refine⟨(cQ.mp e).1,?_⟩;rw[cg,e];exact(bi h).symm
section
variable {P:Program} {w:World} {K:PySem.W.Frag} {mg:Str->Option Value} {base:Heap}
theorem mQ:aA ["out_lists","start","distances","reached","at","house","other"] ["out_lists","start"] (am G6):=⟨rfl,rfl,rfl,by decide +kernel,rfl,by decide +kernel,by decide +kernel⟩
def wC:Sp:=fun vs H Q _=>∃ (ol:Addr) (n s:Nat) (ts:Ts),vs=[.ref ol,.int s]/\i_ n ts/\s<n/\sJ H ol n ts/\
 ∀ (r:Addr) (H':Hp),az H H'->H r=none->H' r=some (.lst (NV ((List.range n).map (MG ts s))))->Q (.ref r) H'
theorem K0{f:Addr}{fd:FuncData}(F:eN K "distances_from" "distances_from" G6 f fd)(B:Bl mg):bj P w K mg base ba 1 f fd ["out_lists","start"] wC:=by
 refine F.ok mQ (fun vs H Q E h=>?_) (fun dt A outer s H vs Q E hr h=>?_)
 .obtain⟨ol,n,s,ts,rfl,_⟩:=h;rfl
 .obtain⟨ol,n,st,ts,rfl,fi,hs,O,k⟩:=h;have n1:=fi.n1;have n2:=fi.n2;refine'⟨_,ah (dg (i:=2) (g:=cq 0) (NB:=["others"]) (src:=[none]) (cw (by kernel_rfl)) rfl (bC (pv 0)) ?g ?t ?e mQ.nd rfl rfl rfl)
   (ah (ic aB (mv (pv 2) (pv 1) ge))
   (ah (aO (i:=3) mQ.nd rfl (Or.inl rfl) (dX (aa (pv 1) af)))
   (ah (aO (i:=4) mQ.nd rfl (Or.inl rfl) aB)
   (ah (Fg du (aK rS (pv 4) (aG aJ (by rfl) B.len dS (aa (pv 3) af)) (be _))
    (ah (aO (i:=5) mQ.nd rfl (Or.inl rfl) (bg bD (pv 3) (pv 4) (fun _ _=>rfl)))
    (ah (bZ du rfl (bC (bg bD (pv 0) (pv 5) (fun _ _=>rfl))) (au (i:=6) mQ.nd rfl (Or.inl rfl))
     (ak (bW (aK o_ (bg bD (pv 2) (pv 6) (fun _ _=>rfl)) dC (be _))
      (ah (ic (bu eM (bg bD (pv 2) (pv 5) (fun _ _=>rfl)) aB) (mv (pv 2) (pv 6) ge))
      (ak (bq (ig gY jH jG cL (pv 3) (aa (pv 6) af))))) aN)))
    (ak (o6 (i:=4) mQ.nd rfl (Or.inl rfl) aB zO)))))
   (ak (aI (pv 2))))))),?_⟩
  case g=>exact fun cl C s₃ H₃ fp=>au (i:=0) nbO rfl (Or.inl rfl) (Or.inr rfl)
  case t=>exact fun cl C s₃ H₃ fp=>fQ
  case e=>exact fun cl C s₃ H₃ fp=>dC
  obtain⟨bs,F6,XO,QX⟩:=id O;refine⟨_,rfl,ol,rfl,⟨_,bh.of F6⟩,fun D hD=>?_⟩;have nol:ol≠D:=aq F6 hD;refine gX (xs:=bs.map V.ref) (fun i ys σ H2=>(∃a,σ=[a])/\ys=List.replicate i V.bA/\H2=upd H D (.lst ys)) ⟨⟨_,rfl⟩,rfl,rfl⟩ (fun i ys σ H2 _ ⟨_,_,e⟩=>by rw[e];exact bh.of (by rw[al nol];exact F6)) ?_ ?_
  .rintro i x ys σ H2 Kt Kf hx ⟨⟨a,rfl⟩,rfl,rfl⟩ kt kf;have hi:=(MR hx).1;refine kt _ _ _ ag ?_ ⟨⟨_,rfl⟩,?_,by rw[qD]⟩
   .rw[l4];exact bK hi (by rw[XO];exact aZ n2 (by decide))
   .rw[yV]
  .rintro ys σ H2 ⟨_,rfl,rfl⟩;rw[aV,XO];refine⟨_,rfl,_,rfl,D,_,st,st,rfl,rfl,ag,by rw[l4];exact gR hs,?_⟩;rw[qD,AJ hs];refine⟨_,rfl,by show 1<=sizeLine;decide,fun R hR=>?_⟩;have V5:D≠R:=aq (H:=upd H D (.lst (lI n [st] (fun _=>0)))) ag hR;have XQ:H R=none:=by rw[al V5.symm] at hR;exact hR
   refine Fk (fun σ H2=>∃ (i:Nat) (Rs:List Nat) (f:Nat->Nat),i<=Rs.length/\DX n ts st i Rs f/\(∃a b,σ=[some (.ref ol),some (.int st),some (.ref D),some (.ref R),some (.int (i:Int)),a,b])/\az H H2/\H2 D=some (.lst (lI n Rs f))/\H2 R=some (.lst (NV Rs)))
    (fun σ _=>n-Td σ) ⟨0,[st],fun _=>0,cE _,DX.start hs,⟨none,none,rfl⟩,cx (ao hD) XQ,?_,ag⟩ ?_ ?_
   .rw[al V5,ag]
   .rintro σ H2 ⟨i,Rs,f,hi,Bf,⟨a,b,rfl⟩,sm,iA,XR⟩;have hRn:Rs.length<=n:=jz Bf.nd Bf.lt;refine⟨_,rfl,_,rfl,R,_,rfl,.inl (bh.of XR),_,_,rfl,rfl,_,rfl,?_⟩;rw[aY];by_cases pH:i<Rs.length
    .rw[show decide ((i:Int)<((Rs.length:Nat):Int))=true by simp;lia];refine gD ?_;have hu:Rs[i]?=some Rs[i]:=cJ pH;generalize Rs[i]=u at hu;have K3:u<n:=Bf.lt u (cB hu);have huR:(NV Rs)[i]?=some (.int (u:Int)):=by rw[bv,hu];rfl
     refine⟨_,rfl,_,rfl,R,_,_,_,rfl,rfl,bh.of XR,aD huR,?_⟩;have MU:(bs.map V.ref)[u]?=some (.ref (bs.getD u 0)):=by
      rw[bv,cg,cJ (by rw[XO];exact K3)];rfl
     have Tf:=sm _ _ (QX _ K3);refine⟨_,rfl,_,rfl,ol,_,_,_,rfl,rfl,bh.of (sm _ _ F6),aD MU,_,rfl,⟨_,bh.of Tf⟩,?_⟩;have nbD:bs.getD u 0≠D:=aq (QX _ K3) hD;have nbR:bs.getD u 0≠R:=aq (QX _ K3) XQ;refine dU (K:=K) (xs:=NV (dG n ts u)) (fun j σ H3=>∃ (qr:List Nat) (f':Nat->Nat),DX n ts st i qr f'/\qr[i]?=some u/\(∀v∈(dG n ts u).take j,v∈qr/\f' v<=f' u+1)/\
      (∃b,σ=[some (.ref ol),some (.int st),some (.ref D),some (.ref R),some (.int (i:Int)),some (.int (u:Int)),b])/\az H H3/\H3 D=some (.lst (lI n qr f'))/\H3 R=some (.lst (NV qr)))
      ⟨Rs,f,Bf,hu,fun v hv=>by simp at hv,⟨_,rfl⟩,sm,iA,XR⟩ (fun j σ H3 _ ⟨_,_,_,_,_,_,MV,_⟩=>bh.of (MV _ _ (QX _ K3))) ?_ ?_
     .rintro j x σ H3 hx ⟨qr,f',K4,BL,dn,⟨b',rfl⟩,MV,sK,Jh⟩;rw[bv] at hx;cases hv:(dG n ts u)[j]? with
      |none=>rw[hv] at hx;cases hx
      |some v=>
       rw[hv] at hx;obtain rfl:V.int ((v:Nat):Int)=x:=bi hx;have hvm:v∈dG n ts u:=cB hv;have V6:v<n:=Kz fi K3 hvm;have tuv:T ts u v:=(eG fi K3).mp hvm;have tk:(dG n ts u).take (j+1)=(dG n ts u).take j++[v]:=by rw[iD,hv];rfl
       have Tg:u∈qr:=cB BL;refine⟨_,rfl,_,rfl,D,_,_,_,rfl,rfl,bh.of sK,aD (kZ V6),rfl,_,rfl,?_⟩;by_cases OJ:v∈qr
       .rw[ai OJ];refine eX ⟨qr,f',K4,BL,fun x hx=>?_,⟨_,rfl⟩,MV,sK,Jh⟩;rw[tk] at hx;rcases cR.mp hx with z|z
        .exact dn x z
        .simp at z;subst z;exact⟨OJ,K4.bd u BL _ OJ⟩
       .rw[ap OJ];refine gD ?_;have hg2:(lI n qr f')[u]?=some (.int ((f' u:Nat):Int)):=by rw[kZ K3,ai Tg]
        refine⟨_,rfl,_,rfl,D,_,_,_,rfl,rfl,bh.of sK,aD hg2,_,_,rfl,rfl,_,rfl,_,rfl,D,_,_,_,rfl,rfl,sK,by rw[kY];exact gR V6,?_⟩;have e1:(lI n qr f').set v (.int (((f' u:Nat):Int)+1))=lI n (qr++[v]) (put f' v (f' u+1)):=by
         rw[show ((f' u:Nat):Int)+1=((f' u+1:Nat):Int) by lia,G7 V6]
        rw[e1];have xU:(upd H3 D (.lst (lI n (qr++[v]) (put f' v (f' u+1))))) R=some (.lst (NV qr)):=by rw[al V5.symm];exact Jh
        have Th:qr.length<=n:=jz K4.nd K4.lt;refine⟨_,rfl,.inl ⟨rfl,_,bh.of xU⟩,_,rfl,R,_,_,rfl,rfl,xU,by rw[aY];exact bK (show qr.length<33 by lia) (by decide),?_⟩;have ER:i<qr.length:=(cQ.mp BL).1;have nuv:u≠v:=fun z=>OJ (z ▸ Tg);refine⟨qr++[v],put f' v (f' u+1),K4.add BL V6 tuv OJ,by rw[pT ER];exact BL,fun x hx=>?_,⟨_,rfl⟩,cx (cx MV hD) XQ,?_,?_⟩
        .rw[gI nuv];rw[tk] at hx;rcases cR.mp hx with z|z
         .obtain⟨q1,q2⟩:=dn x z;exact⟨ny _ q1,by rw[gI (fun (z:x=v)=>OJ (z ▸ q1))];exact q2⟩
         .simp at z;subst z;exact⟨by simp,by rw[kT];exact aW _⟩
        .rw[al V5,ag]
        .rw[ag];show _=some (HO.lst (NV (qr++[v])));rw[show NV (qr++[v])=NV qr++[.int (v:Int)] by unfold NV;rw[dR];rfl]
     .rintro σ H3 ⟨qr,f',K4,BL,dn,⟨b',rfl⟩,MV,sK,Jh⟩;rw[aY,et] at dn;have ER:i<qr.length:=(cQ.mp BL).1;have Th:qr.length<=n:=jz K4.nd K4.lt;refine⟨_,rfl,_,_,rfl,rfl,⟨⟨i+1,qr,f',ER,K4.next BL (fun v t=>dn v ((eG fi K3).mpr t)),⟨_,_,rfl⟩,MV,sK,Jh⟩,?_⟩⟩;show n-((i:Int)+1).toNat<n-(i:Int).toNat;lia
    .rw[show decide ((i:Int)<((Rs.length:Nat):Int))=false by rw[vh];lia];have e:lI n Rs f=NV ((List.range n).map (MG ts st)):=by
      unfold lI NV;rw[fu];refine jJ fun x hx=>?_;obtain⟨q1,q2⟩:=Bf.done fi (by lia) (cU.mp hx);rw[ai q1,q2];rfl
     rw[e] at iA;refine eX ⟨_,rfl,k D H2 sm hD iA⟩
   .rintro σ H2 Q1 Q2 imp ⟨v,e1,v2,e2,p,ys,e3,e4,i1,i2,e5,e6,kk,e7,q⟩;exact⟨v,e1,v2,e2,p,ys,e3,e4,i1,i2,e5,e6,kk,e7,imp _ _ q⟩
end
theorem Ti:(["row"]:List Str).Nodup:=by decide +kernel
section
variable {P:Program} {w:World} {K:PySem.W.Frag} {mg:Str->Option Value} {base:Heap}
theorem K5:aA ["distances"] ["distances"] (am AI):=⟨rfl,rfl,rfl,by decide +kernel,rfl,by decide +kernel,by decide +kernel⟩
def wD:Sp:=fun vs H Q _=>∃ (l:Addr) (ds:List Addr) (n:Nat) (o:Nat->List V),vs=[.ref l]/\H l=some (.lst (ds.map V.ref))/\n<=32/\Holds H ds n (fun j=>.lst (o j))/\(∀j,j<n->∀x∈o j,∃i,x=.int i)/\∀H',az H H'->Q .bA H'
theorem G8(F:eN K "check_reached" "check_reached" AI f fd)(B:Bl mg):bj P w K mg base ba 1 f fd ["distances"] wD:=by
 refine F.ok K5 (fun vs H Q E h=>?_) (fun dt A outer s H vs Q E hr h=>?_)
 .obtain⟨l,ds,n,o,rfl,_⟩:=h;rfl
 .obtain⟨l,ds,n,o,rfl,hl,n2,hh,hx,k⟩:=h;refine'⟨_,ak (bW (c_ (aG (DB rfl) (by rfl) B.any PyProof.Rows.boot_any (aa ?c af))) cS aN),?_⟩;case c=>
   refine' d9 (g:=cq 0) (te:=nB (VJ K false) (tC .bA) (bf 0)) (NB:=["row"]) (src:=[none]) (cw (by kernel_rfl)) rfl (bC (pv 0)) ?g ?t ?e;case g=>exact fun cl C s₃ H₃ fp=>au (i:=0) Ti rfl (Or.inl rfl) (Or.inr rfl)
   case t=>exact fun cl C s₃ H₃ fp=>fQ
   case e=>exact fun cl C s₃ H₃ fp=>ju fE dC (pv 0) rfl
  refine⟨_,rfl,l,rfl,⟨_,bh.of hl⟩,fun D hD=>?_⟩;have nl:l≠D:=aq hl hD;refine gX (xs:=ds.map V.ref) (fun i ys σ H2=>(∃a,σ=[a])/\ys=(List.replicate i false).map V.bl/\H2=upd H D (.lst ys)) ⟨⟨_,rfl⟩,rfl,rfl⟩ (fun i ys σ H2 _ ⟨_,_,e⟩=>by rw[e];exact bh.of (by rw[al nl];exact hl)) ?_ ?_
  .rintro i x ys σ H2 Kt Kf hxi ⟨⟨a,rfl⟩,rfl,rfl⟩ kt kf;obtain⟨hi,rfl⟩:=MR hxi;rw[hh.1] at hi;have hd:=hh.2 i hi;have nd:ds.getD i 0≠D:=aq hd hD;have q1:(o i).all ie=true:=jO.mpr fun x d7=>by obtain⟨z,rfl⟩:=hx i hi x d7;rfl
   have q2:BI .bA (o i)=false:=by
    unfold BI;rw[zh];intro x d7;obtain⟨z,rfl⟩:=hx i hi x d7;exact fun z=>by cases z
   refine⟨_,rfl,_,_,rfl,.inl (bh.of (by rw[al nd];exact hd)),rfl,q1,?_⟩;refine kt _ _ _ ag ?_ ⟨⟨_,rfl⟩,?_,by rw[qD]⟩
   .rw[aV,l4];exact bK hi (aZ n2 (by decide))
   .rw[yV,dR,q2];rfl
  .rintro ys σ H2 ⟨_,rfl,rfl⟩;refine⟨D,_,rfl,bh.of ag,_,rfl,?_⟩;have e:(List.replicate (ds.map V.ref).length false).any id=false:=by
    rw[zh];intro x d7;rw[(List.mem_replicate.mp d7).2];decide
   rw[e];exact eX (k _ (ao hD))
end
theorem nb2:(["one","other"]:List Str).Nodup:=by decide +kernel
theorem Tj:(["house","many","ties"]:List Str).Nodup:=by decide +kernel
theorem XS:(["house","self"]:List Str).Nodup:=by decide +kernel
def lS(p Pt:Addr)(H H':Hp):Prop:=∀b o,H b=some o->b≠p->b≠Pt->H' b=some o
theorem fK.mono(h:fK H l n zs)(e:lS p Pt H H')(hp:H p=some (.ins C dx fs))(tb:nZ Pt H):fK H' l n zs:=
 ⟨h.pM,e _ _ h.at_ (bG h.at_ hp (by intro z;cases z)) (tb.not h.at_ (by intro ps z;cases z)),fun z hz=>e _ _ (h.po z hz) (bG (h.po z hz) hp (by intro z;cases z)) (tb.not (h.po z hz) (by intro ps z;cases z))⟩
theorem nZ.mono(t:nZ Pt H)(e:∀b o,H b=some o->b≠p->H' b=some o)(hp:H p=some (.ins C dx fs)):nZ Pt H':=by
 rcases t with z|⟨c,z,y⟩
 .exact .inl (e _ _ z (bG z hp (by intro q;cases q)))
 .exact .inr ⟨c,e _ _ z (bG z hp (by intro q;cases q)),e _ _ y (bG y hp (by intro q;cases q))⟩
theorem nZ.full(t:nZ Pt H):H Pt≠none:=by
 rcases t with z|⟨c,z,y⟩ <;> rw[z] <;> intro q <;> cases q
theorem lS.free(s:lS p Pt H H')(hp:H' p≠none)(tb:nZ Pt H')(h:H' r=none):H r=none:=by
 cases z:H r with
 |none=>rfl
 |some o=>
  by_cases e1:r=p
  .subst e1;exact absurd h hp
  .by_cases e2:r=Pt
   .subst e2;exact absurd h tb.full
   .rw[s r o z e1 e2] at h;cases h
theorem Tk(h:k [] H):mz σ H k:=h
theorem fg{H:Hp}{p:Addr}{o:HO}(h:H p=some o):H p≠none:=by rw[h];intro z;cases z
section
variable {P:Program} {w:World} {K:PySem.W.Frag} {mg:Str->Option Value} {base:Heap}
theorem OK:aA ["self","many","ties"] ["self","many","ties"] (am Cn):=⟨rfl,rfl,rfl,by decide +kernel,rfl,by decide +kernel,by decide +kernel⟩
def AK(C Pt:Addr):Sp:=fun vs H Q E=>∃ (p dx:Addr) (n:Nat) (l:Addr) (zs:Zs),vs=[.ref p,.int n,.ref l]/\H p=some (.ins C dx [])/\fK H l n zs/\nZ Pt H/\
  ∀H',ff C H' (fun a=>H a=none) p n (zp zs)->nZ Pt H'->lS p Pt H H'->Q .bA H'
theorem K6{f C Pt:Addr}{fd:FuncData}(F:eN K "__init__" "Net.__init__" Cn f fd)(T:NT K mg C)(B:Bl mg)(CT:cy P w K mg base ba 6 "check_ties" ["many","ties"] lw)(CB:cy P w K mg base ba 1 "check_balance" ["many","ties"] lw)(HO':cy P w K mg base ba 1 "houses_out" ["many","ties","house"] (wB Pt))(DF:cy P w K mg base ba 1 "distances_from" ["out_lists","start"] wC)(CR:cy P w K mg base ba 1 "check_reached" ["distances"] wD):
  bj P w K mg base ba 7 f fd ["self","many","ties"] (AK C Pt):=by
 refine F.ok OK (fun vs H Q E h=>?_) (fun dt A outer s H vs Q E hr h=>?_)
 .obtain⟨p,dx,n,l,zs,rfl,_⟩:=h;rfl
 .have AL:bQ 1 _:=hr.mono (by decide);refine'⟨_,ah (bq (aw CT hr aF (aa (pv 1) (aa (pv 2) af))))
   (ah (bq (aw CB AL aF (aa (pv 1) (aa (pv 2) af))))
   (ah (pf (pv 0) (pv 1) rfl)
   (ah (pf (pv 0) (aG Ax (by rfl) B.sorted yL (aa ?c1 af)) rfl)
   (ah (pf (pv 0) ?c2 rfl)
   (ah (pf (pv 0) ?c3 rfl)
   (ak (bq (aw CR AL aF (aa (gC (pv 0) rfl) af))))))))),?_⟩
  case c1=>
   refine' d9 (g:=De K 2 (kH (cq 0) (kH (cq 1) Dd))) (te:=NF (dq (bf 0) (dq (bf 1) mz))) (NB:=["one","other"]) (src:=[none,none]) (cw (by kernel_rfl)) rfl (bC (pv 2)) ?g ?t ?e;case g=>exact fun cl C s₃ H₃ fp=>gw (n:=2) rfl (aR (au (i:=0) nb2 rfl (Or.inl rfl) (Or.inr rfl)) (aR (au (i:=1) nb2 rfl (Or.inl rfl) (Or.inr rfl)) eI))
   case t=>exact fun cl C s₃ H₃ fp=>fQ
   case e=>exact fun cl C s₃ H₃ fp=>iS (aa (pv 0) (aa (pv 1) af))
  case c2=>
   refine' d9 (g:=cq 0) (te:=nE (wB Pt) [] E0 (dq (bf 1) (dq (bf 2) (dq (bf 0) mz)))) (NB:=["house","many","ties"]) (src:=[none,some 1,some 2]) (cw (by kernel_rfl)) rfl (ce rfl B.range (aa (pv 1) af)) ?g ?t ?e;case g=>exact fun cl C s₃ H₃ fp=>au (i:=0) Tj rfl (Or.inl rfl) (Or.inr rfl)
   case t=>exact fun cl C s₃ H₃ fp=>fQ
   case e=>exact fun cl C s₃ H₃ fp=>aw HO' AL aF (aa (pv 1) (aa (pv 2) (aa (pv 0) af)))
  case c3=>
   refine' d9 (g:=cq 0) (te:=nE wC [] E0 (dq (RT K (bf 1) "out_lists") (dq (bf 0) mz))) (NB:=["house","self"]) (src:=[none,some 0]) (cw (by kernel_rfl)) rfl (ce rfl B.range (aa (pv 1) af)) ?g ?t ?e;case g=>exact fun cl C s₃ H₃ fp=>au (i:=0) XS rfl (Or.inl rfl) (Or.inr rfl)
   case t=>exact fun cl C s₃ H₃ fp=>fQ
   case e=>exact fun cl C s₃ H₃ fp=>aw DF AL aF (aa (gC (pv 1) rfl) (aa (pv 0) af))
  obtain⟨p,dx,n,l,zs,rfl,hp,TT,tb,k⟩:=h;have fi:=TT.pM;have n1:=fi.n1;have n2:=fi.n2;have cG:zs.length<=256:=by have:=fi.len;rw[dk] at this;exact this
  refine⟨_,rfl,_,rfl,n,l,zs,rfl,TT,fun H1 s1=>?_⟩;refine⟨_,rfl,_,rfl,n,l,zs,rfl,TT.same s1,fun H2 s2=>?_⟩;have jZ:az H H2:=s1.trans s2;refine⟨_,rfl,_,rfl,p,C,dx,[],rfl,jZ _ _ hp,T.cl,T.nH,(by show 0<1000;decide),?_⟩
  let G1:Hp:=upd H2 p (.ins C dx (cY "house_count" (.int n) []))
  have d1:lS p Pt H G1:=fun b o e h1 _=>by show upd _ _ _ _=_;rw[al h1];exact jZ _ _ e
  have V7:G1 p=some (.ins C dx (cY "house_count" (.int n) [])):=ag;have XT:fK G1 l n zs:=TT.mono d1 hp tb;have XU:nZ Pt G1:=tb.mono (fun b o e h1=>by show upd _ _ _ _=_;rw[al h1];exact jZ _ _ e) hp;refine⟨_,rfl,l,rfl,⟨_,bh.of XT.at_⟩,fun D hD=>?_⟩;refine GU (fun y=>y) (fun σ=>∃a b,σ=[a,b]) XT.at_ XT.po hD (by lia) ⟨_,_,rfl⟩ ?_ ?_
  .rintro z σ H3 R Kf hz ⟨a,b,rfl⟩ ha kk;refine⟨_,_,rfl,bz.of ha,rfl,_,_,rfl,_,_,rfl,rfl,?_⟩;exact⟨_,rfl,_,rfl,by show 2<=sizeLine;decide,fun t ht=>kk _ _ ⟨_,_,rfl⟩ ht⟩
  .intro zs2 H3 sm sK Tl ez fr2;rw[List.map_id'] at ez;have hl2:zs2.length=zs.length:=by rw[<-dk,ez,dk]
   refine Tk ?_;refine KM sK Tl (by lia) (fun u hu=>by have:=(fi.rg u (ez ▸ hu)).2;lia) fun tl Q9 XV pm ord=>?_;have XW:H tl=none:=d1.free (fg V7) XU (sm.free XV);have Jb:∀z∈Q9,H z.1=none:=fun z hz=>d1.free (fg V7) XU (fr2 z (pm.mem_iff.mp hz));have XX:H3 p=some (.ins C dx (cY "house_count" (.int n) [])):=sm _ _ V7;have OL:p≠tl:=aq XX XV;refine⟨_,rfl,p,C,dx,_,rfl,by rw[al OL];exact XX,T.cl,T.nT,by show 1<1000;decide,?_⟩
   let G2:Hp:=upd (upd H3 tl (.lst (zr Q9))) p (.ins C dx (cY "tie_list" (.ref tl) (cY "house_count" (.int n) [])))
   have q2:∀b o,H3 b=some o->b≠p->G2 b=some o:=fun b o e h1=>by
    show upd _ _ _ _=_;rw[al h1,al (aq e XV)];exact e
   have d2:lS p Pt H G2:=fun b o e h1 h2=>q2 _ _ (sm _ _ (d1 _ _ e h1 h2)) h1;have g2t:G2 tl=some (.lst (zr Q9)):=by show upd _ _ _ _=_;rw[al OL.symm,ag]
   have XY:PO G2 Q9:=fun z hz=>q2 _ _ (Tl z (pm.mem_iff.mp hz)) (bG (Tl z (pm.mem_iff.mp hz)) XX (by intro z;cases z));have OM:G2 p=some (.ins C dx (cY "tie_list" (.ref tl) (cY "house_count" (.int n) []))):=ag;have TT2:fK G2 l n zs:=TT.mono d2 hp tb;have ON:nZ Pt G2:=XU.mono (fun b o e h1=>q2 _ _ (sm _ _ e) h1) V7;refine⟨_,rfl,n,rfl,by lia,by lia,fun D2 iA=>?_⟩;refine ik (n:=n) (lo:=0) (fun i ys σ H4=>(∃a,σ=[a,some (.int n),some (.ref l)])/\∃bs:List Addr,ys=bs.map V.ref/\(∀b∈bs,H b=none)/\Holds H4 bs i (fun h=>.lst (NV (dG n (zp zs) h)))/\uT Pt G2 H4/\nZ Pt H4/\H4 D2=some (.lst ys)/\∀b∈bs,b≠D2)
    ⟨⟨_,rfl⟩,[],rfl,(fun _ h=>nomatch h),Holds.nil,uT.of (ao iA),ON.same (ao iA),ag,(fun _ h=>nomatch h)⟩ ?_ ?_
   .rintro i ys σ H4 Kt Kf hi ⟨⟨a,rfl⟩,bs,rfl,XZ,hb,G9,Q_,xZ,X0⟩ kt kf;have TT4:fK H4 l n zs:=TT2.mono (p:=p) (fun b o e _ h2=>G9 _ _ e h2) OM ON;have Ra:=G9 _ _ OM (ON.not OM (by intro ps z;cases z));refine⟨_,rfl,_,rfl,_,rfl,n,l,i,zs,by rw[eU];rfl,hi,TT4,Q_,fun r H5 t5 tO Jj V8=>?_⟩;have X1:H r=none:=lS.free (fun b o e h1 h2=>G9 _ _ (d2 _ _ e h1 h2) h2) (fg Ra) Q_ Jj;have V9:H5 D2=some (.lst (bs.map V.ref)):=tO _ _ xZ (Q_.not xZ (by intro ps z;cases z));have Tn:r≠D2:=by rintro rfl;rw[xZ] at Jj;cases Jj
    have lT:∀b o pD,H5 b=some o->b≠D2->(upd H5 D2 pD) b=some o:=fun b o pD e h=>by rw[al h];exact e
    refine kt _ _ _ V9 (by rw[aV,hb.1];exact bK hi (aZ n2 (by decide))) ⟨⟨_,rfl⟩,bs++[r],by rw[dR];rfl,?_,?_,?_,?_,ag,?_⟩
    .intro b jT;rcases cR.mp jT with z|z
     .exact XZ b z
     .rw[cI.mp z];exact X1
    .refine Holds.snoc (hb.mono fun j hj e=>?_) (lT _ _ _ V8 Tn);refine lT _ _ _ (tO _ _ e (Q_.not e (by intro ps z;cases z))) (X0 _ ?_);rw[cg,cJ (by rw[hb.1];exact hj)];exact iF _
    .intro b o e h;exact lT _ _ _ (tO _ _ (G9 _ _ e h) h) (aq e iA)
    .rcases t5 with z|⟨c,z,y⟩
     .exact .inl (lT _ _ _ z (bG z V9 (by intro q;cases q)))
     .exact .inr ⟨c,lT _ _ _ z (bG z V9 (by intro q;cases q)),lT _ _ _ y (bG y V9 (by intro q;cases q))⟩
    .intro b jT;rcases cR.mp jT with z|z
     .exact X0 b z
     .rw[cI.mp z];exact Tn
   .rintro ys σ H4 ⟨_,bs,rfl,XZ,hb,G9,Q_,xZ,X0⟩;have Ra:H4 p=some (.ins C dx (cY "tie_list" (.ref tl) (cY "house_count" (.int n) []))):=G9 _ _ OM (ON.not OM (by intro ps z;cases z));have X2:H D2=none:=d2.free (fg OM) ON iA;refine⟨_,rfl,p,C,dx,_,rfl,Ra,T.cl,T.nO,by have h1:=dW "tie_list" (V.ref tl) (cY "house_count" (V.int n) []);have h2:=dW "house_count" (V.int n) [];simp at h2;lia,?_⟩
    let G3:Hp:=upd H4 p (.ins C dx (cY "out_lists" (.ref D2) (cY "tie_list" (.ref tl) (cY "house_count" (.int n) []))))
    have q3:∀b o,H4 b=some o->b≠p->G3 b=some o:=fun b o e h1=>by show upd _ _ _ _=_;rw[al h1];exact e
    have OO:G3 p=some (.ins C dx (cY "out_lists" (.ref D2) (cY "tie_list" (.ref tl) (cY "house_count" (.int n) [])))):=ag;have d3:lS p Pt H G3:=fun b o e h1 h2=>q3 _ _ (G9 _ _ (d2 _ _ e h1 h2) h2) h1;have X3:nZ Pt G3:=Q_.mono q3 Ra;have V_:Holds G3 bs n (fun h=>.lst (NV (dG n (zp zs) h))):=hb.mono fun j hj e=>q3 _ _ e (bG e Ra (by intro z;cases z));have X4:G3 D2=some (.lst (bs.map V.ref)):=q3 _ _ xZ (bG xZ Ra (by intro z;cases z));have O3:sJ G3 D2 n (zp zs):=⟨bs,X4,V_⟩
    refine⟨_,rfl,n,rfl,by lia,by lia,fun D3 Eb=>?_⟩;refine ik (n:=n) (lo:=0) (fun i ys σ H6=>(∃a,σ=[a,some (.ref p)])/\∃ds:List Addr,ys=ds.map V.ref/\(∀b∈ds,H b=none)/\Holds H6 ds i (fun s=>.lst (NV ((List.range n).map (MG (zp zs) s))))/\az G3 H6/\H6 D3=some (.lst ys)/\∀b∈ds,b≠D3)
     ⟨⟨_,rfl⟩,[],rfl,(fun _ h=>nomatch h),Holds.nil,ao Eb,ag,(fun _ h=>nomatch h)⟩ ?_ ?_
    .rintro i ys σ H6 Kt Kf hi ⟨⟨a,rfl⟩,ds,rfl,X5,hd,K7,sL,RQ⟩ kt kf;refine⟨_,rfl,p,C,dx,_,_,rfl,K7 _ _ OO,T.cl,T.nO,by rw[aX,ai rfl],_,rfl,D2,n,i,zp zs,by rw[eU];rfl,fi,hi,O3.same K7,fun r H7 X6 Tp hr7=>?_⟩;have e7D:H7 D3=some (.lst (ds.map V.ref)):=X6 _ _ sL;have Tn:r≠D3:=by rintro rfl;rw[sL] at Tp;cases Tp
     have X1:H r=none:=lS.free (fun b o e h1 h2=>K7 _ _ (d3 _ _ e h1 h2)) (fg (K7 _ _ OO)) (X3.same K7) Tp;have lT:∀b o pD,H7 b=some o->b≠D3->(upd H7 D3 pD) b=some o:=fun b o pD e h=>by rw[al h];exact e
     refine kt _ _ _ e7D (by rw[aV,hd.1];exact bK hi (aZ n2 (by decide))) ⟨⟨_,rfl⟩,ds++[r],by rw[dR];rfl,?_,?_,?_,ag,?_⟩
     .intro b jT;rcases cR.mp jT with z|z
      .exact X5 b z
      .rw[cI.mp z];exact X1
     .refine Holds.snoc (hd.mono fun j hj e=>?_) (lT _ _ _ hr7 Tn);refine lT _ _ _ (X6 _ _ e) (RQ _ ?_);rw[cg,cJ (by rw[hd.1];exact hj)];exact iF _
     .intro b o e;exact lT _ _ _ (X6 _ _ (K7 _ _ e)) (aq e Eb)
     .intro b jT;rcases cR.mp jT with z|z
      .exact RQ b z
      .rw[cI.mp z];exact Tn
    .rintro ys σ H6 ⟨_,ds,rfl,X5,hd,K7,sL,RQ⟩;have Tq:=K7 _ _ OO;refine⟨_,rfl,p,C,dx,_,rfl,Tq,T.cl,T.nD,by have h1:=dW "tie_list" (V.ref tl) (cY "house_count" (V.int n) []);have h2:=dW "house_count" (V.int n) [];have h3:=dW "out_lists" (V.ref D2) (cY "tie_list" (V.ref tl) (cY "house_count" (V.int n) []));simp at h2;lia,?_⟩;have q4:∀b o u,H6 b=some o->b≠p->(upd H6 p u) b=some o:=fun b o u e h1=>by rw[al h1];exact e
     refine⟨_,rfl,p,C,dx,_,_,rfl,ag,T.cl,T.nD,by rw[aX,ai rfl],D3,ds,n,fun s=>NV ((List.range n).map (MG (zp zs) s)),rfl,q4 _ _ _ sL (bG sL Tq (by intro z;cases z)),n2,hd.mono fun j hj e=>q4 _ _ _ e (bG e Tq (by intro z;cases z)),fun j hj x hx=>?_,fun H8 s8=>?_⟩
     .obtain⟨y,hy,rfl⟩:=aQ.mp hx;exact⟨_,rfl⟩
     .have up:∀b o,G3 b=some o->b≠p->H8 b=some o:=fun b o e h1=>s8 _ _ (q4 _ _ _ (K7 _ _ e) h1);have X7:H D3=none:=d3.free (fg OO) X3 Eb;have upT:∀b o,G2 b=some o->b≠p->b≠Pt->H8 b=some o:=fun b o e h1 h2=>up _ _ (q3 _ _ (G9 _ _ e h2) h1) h1;refine k H8 ⟨fi,dx,tl,D2,D3,s8 _ _ ag,X2,X7,⟨bs,up _ _ X4 (bG X4 OO (by intro z;cases z)),XZ,V_.mono fun j hj e=>up _ _ e (bG e OO (by intro z;cases z))⟩,
       ⟨ds,s8 _ _ (q4 _ _ _ sL (bG sL Tq (by intro z;cases z))),X5,hd.mono fun j hj e=>s8 _ _ (q4 _ _ _ e (bG e Tq (by intro z;cases z)))⟩,
       ⟨XW,Q9,upT _ _ g2t OL.symm (ON.not g2t (by intro ps z;cases z)),fun z hz=>upT _ _ (XY z hz) (bG (XY z hz) OM (by intro z;cases z)) (ON.not (XY z hz) (by intro ps z;cases z)),Jb,((show (zp Q9).Perm (zp zs2) from pm.map _).trans (vH ez)),ord⟩⟩ ?_ fun b o e h1 h2=>up _ _ (d3 _ _ e h1 h2) h1
      exact X3.mono up OO
end
theorem gU:NV xs++[.int (x:Int)]=NV (xs++[x]):=by unfold NV;rw[dR];rfl
theorem qd{xs:List Nat}{i:Nat}{x:V}(h:(NV xs)[i]?=some x):∃y,xs[i]?=some y/\x=.int (y:Int):=by
 unfold NV at h;rw[bv] at h;cases e:xs[i]? with
 |none=>rw[e] at h;cases h
 |some z=>rw[e] at h;exact⟨z,rfl,(bi h).symm⟩
end ue
namespace L2
open PySem PySem.Spec PyProof.Rows
section
variable {X:Cx}
def Wa(X:Cx)(H:Hp)(d:Nat)(x y:V):Prop:=∀ (ae:List (Addr×Obj)) (s:Shared) (σ:St) (A:Around) (u v:Value),aE X ae σ H s->A.units+d<cLine->bn x u->bn y v->SeqAt.EqAt A s u v true
theorem Ec(I:aE X ae σ H s)(hu:A.units+d<cLine)(rx:aP xs us)(ry:aP ys vs)(he:∀i,i<xs.length->i<ys.length->Wa X H d (xs.getD i .bA) (ys.getD i .bA)):∀j (h1:j<us.toArray.size) (h2:j<vs.toArray.size),SeqAt.EqAt A s us.toArray[j] vs.toArray[j] true:=by
 intro j h1 h2;have j1:j<xs.length:=by rw[rx.length];simpa using h1
 have j2:j<ys.length:=by rw[ry.length];simpa using h2
 have e1:xs[j]?=some (xs.getD j .bA):=by rw[cg,cJ j1];rfl
 have e2:ys[j]?=some (ys.getD j .bA):=by rw[cg,cJ j2];rfl
 obtain⟨u,sq,ru⟩:=rx.get e1;obtain⟨v,Oa,rv⟩:=ry.get e2;have eu:us.toArray[j]=u:=by
  have:us[j]?=some us.toArray[j]:=by simp at h1 |-
  rw[sq] at this;exact(bi this).symm
 have ev:vs.toArray[j]=v:=by
  have:vs[j]?=some vs.toArray[j]:=by simp at h2 |-
  rw[Oa] at this;exact(bi this).symm
 rw[eu,ev];exact he j j1 j2 ae s σ A u v I hu ru rv
theorem G_:(List.range n).all (fun _=>true)=true:=jO.mpr fun _ _=>rfl
def X8(X:Cx)(Jd:Bool)(d:Nat):R2:=fun x y H Q=>∃p q xs ys,x=.ref p/\y=.ref q/\bz X.K H p xs/\bz X.K H q ys/\xs.length=ys.length/\(∀i,i<xs.length->i<ys.length->Wa X H d (xs.getD i .bA) (ys.getD i .bA))/\Q (.bl (!Jd)) H
theorem Cs{d:Nat}(hu:X.A.units+(d+1)<cLine):lH X (compareOp .NotEq) (X8 X true d):=by
 intro ae s σ H x y v u Q I rx ry h;obtain⟨p,q,xs,ys,rfl,rfl,hp,hq,hl,he,k⟩:=h;obtain rfl:v=Value.ref p:=rx;obtain rfl:u=Value.ref q:=ry;obtain⟨us,r1,p1,_⟩:=I.tuple hp;obtain⟨vs,r2,p2,_⟩:=I.tuple hq;have e:(us.toArray.size==vs.toArray.size)=true:=by simp only[cC];rw[<-r1.length,<-r2.length,hl];simp
 refine SeqAt.RcNeAt.tuples (e:=fun _=>true) (show s.heap.IsTuple p us.toArray from p1) (show s.heap.IsTuple q vs.toArray from p2) (by lia) (Ec I (by show X.A.units+1+d<cLine;lia) r1 r2 he) _ _ _ _ ⟨.bl _,H,I,rfl,?_⟩;rw[G_,e];exact k
end
end L2
namespace ue
open PySem L2 jW
section
variable {P:Program} {w:World} {K:PySem.W.Frag} {mg:Str->Option Value} {base:Heap}
theorem OP:aA ["self"] ["self"] (am GV):=⟨rfl,rfl,rfl,by decide +kernel,rfl,by decide +kernel,by decide +kernel⟩
def AM(C:Addr):Sp:=fun vs H Q _=>∃ (L:Addr->Prop) (p:Addr) (n:Nat) (ts:Ts),vs=[.ref p]/\ff C H L p n ts/\Q (.int n) H
theorem K8{f C:Addr}{fd:FuncData}(F:eN K "many" "Net.many" GV f fd)(T:NT K mg C):bj P w K mg base ba 1 f fd ["self"] (AM C):=by
 refine F.ok OP (fun vs H Q E h=>?_) (fun dt A outer s H vs Q E hr h=>?_)
 .obtain⟨L,p,n,ts,rfl,_⟩:=h;rfl
 .obtain⟨L,p,n,ts,rfl,N,k⟩:=h;obtain⟨dx,tl,ol,ds,h1,_⟩:=N.ob;refine⟨_,ak (aI (gC (pv 0) rfl)),?_⟩;exact⟨_,rfl,p,C,dx,_,_,rfl,h1,T.cl,T.nH,Co _ _ _ _,k⟩
end
end ue
namespace L2
open PySem PySem.Spec PyProof.Rows
theorem AN{X:Cx}:RI X .Mult (fun x y H Q=>∃i j,x=.int i/\y=.int j/\Fl i j/\Q (.int (i*j)) H):=by
 intro ae s σ H x y v u Q I r1 r2 h;obtain⟨i,j,e1,e2,c,q⟩:=h;subst e1;subst e2;obtain⟨t,rfl⟩:=r1;obtain⟨t',rfl⟩:=r2;exact imul_int ⟨.int _,H,I.tok _,⟨_,rfl⟩,q⟩ c.ok
end L2
namespace ue
open PySem L2 jW
abbrev Ha:Stmt:=fV 40
abbrev wE:Stmt:=fV 41
abbrev wF:Stmt:=fV 43
abbrev wG:Stmt:=fV 44
abbrev Hb:Stmt:=fV 45
def uU(ns:List Nat):Nat:=ns.foldl (·*·) 1
theorem AO{ns:List Nat}{x:Nat}:uU (ns++[x])=uU ns*x:=by unfold uU;rw[l_];rfl
theorem Hd{ns:List Nat}:uU ns=pr ns:=by
 have go:∀ (l:List Nat) (a:Nat),l.foldl (·*·) a=a*pr l:=fun l=>by
  induction l with
  |nil=>intro a;exact(kq a).symm
  |cons x l ih=>intro a;rw[f8,ih];show a*x*pr l=a*(x*pr l);rw[mf]
 unfold uU;rw[go,vT]
theorem iW.weak{H:Hp}{L L':Addr->Prop}{l:Addr}{n:Nat}{r:Nat->List Nat}(R:iW H L l n r)(h:∀a,L a->L' a):iW H L' l n r:=let ⟨bs,a,b,c⟩:=R;⟨bs,a,fun x hx=>h _ (b x hx),c⟩
theorem ff.weak{C:Addr}{H:Hp}{L L':Addr->Prop}{p:Addr}{n:Nat}{ts:Ts}(N:ff C H L p n ts)(h:∀a,L a->L' a):ff C H L' p n ts:=
 let ⟨dx,tl,ol,ds,a,l1,l2,b,c,d1,zs,d2,d3,d4,d5⟩:=N.ob
 ⟨N.pM,dx,tl,ol,ds,a,h _ l1,h _ l2,b.weak h,c.weak h,h _ d1,zs,d2,d3,fun z hz=>h _ (d4 z hz),d5⟩
def qe(H:Hp)(D:Addr)(ts:Ts)(H2:Hp):Prop:=az H H2/\∃zs:Zs,H2 D=some (.lst (zr zs))/\PO H2 zs/\zp zs=ts
theorem qe.add{H H2:Hp}{D t:Addr}{ts:Ts}{u:Int×Int}{zs:Zs}(hD:H D=none)(sm:az H H2)(h1:H2 D=some (.lst (zr zs)))(po:PO H2 zs)(ez:zp zs=ts)(ht:H2 t=none):qe H D (ts++[u]) (upd (upd H2 t (ML u)) D (.lst (zr zs++[.ref t]))):=by
 have nD:D≠t:=aq h1 ht;refine⟨cx (sm.trans (ao ht)) hD,zs++[(t,u)],by rw[ag,pL];rfl,?_,?_⟩
 .refine PO.putL (xs:=zr zs) ?_ (by rw[al nD];exact h1);exact(po.putN ht).append (PO.one ag)
 .rw[uR,ez];rfl
section
variable {P:Program} {w:World} {K:PySem.W.Frag} {mg:Str->Option Value} {base:Heap}
abbrev He(C Pt:Addr)(H:Hp)(n:Nat)(ts:Ts)(Q:VK):Prop:=∀ (p:Addr) (H':Hp),H p=none->ff C H' (fun a=>H a=none) p n ts->nZ Pt H'->uT Pt H H'->Q (.ref p) H'
theorem k8:aA ["many","pairs","ties","pair","one","other"] ["many","pairs"] (am wE):=⟨rfl,rfl,rfl,by decide +kernel,rfl,by decide +kernel,by decide +kernel⟩
def sO(C Pt:Addr):Sp:=fun vs H Q _=>∃ (n:Nat) (l:Addr) (zs:Zs),vs=[.int n,.ref l]/\H l=some (.lst (zr zs))/\PO H zs/\i_ n (ng (zp zs))/\nZ Pt H/\He C Pt H n (ng (zp zs)) Q
theorem Ed{f C Pt fI:Addr}{fd ET:FuncData}(F:eN K "pairs_net" "pairs_net" wE f fd)(B:Bl mg)(T:NT K mg C)(M:Mk K C fI)(bI:i6 K ET ["self","many","ties"] [])(GI:bj P w K mg base ba 7 fI ET ["self","many","ties"] (AK C Pt))(R:cy P w K mg base ba 1 "is_row" ["thing","length"] (uQ K)):
  bj P w K mg base ba 9 f fd ["many","pairs"] (sO C Pt):=by
 refine F.ok k8 (fun vs H Q E h=>?_) (fun dt A outer s H vs Q E hr h=>?_)
 .obtain⟨n,l,zs,rfl,_⟩:=h;rfl
 .obtain⟨n,l,zs,rfl,hl,po,fi,tb,k⟩:=h;have h1:bQ 1 _:=hr.mono (by decide);refine⟨_,ah (bW (de (c_ (aG ij (by rfl) B.Ox qU (aa (pv 1) (aa (js (v:=.ty "list") rfl B.lst qX rfl) af))))) cS aN)
   (ah (aO (i:=2) k8.nd rfl (Or.inl rfl) (dX af))
   (ah (bZ du rfl (bC (pv 1)) (au (i:=3) k8.nd rfl (Or.inl rfl))
    (ah (bW (de (c_ (aw R h1 aF (aa (pv 3) (aa aB af))))) cS aN)
    (ah (ic (pv 3) (gw (n:=2) rfl (aR (au (i:=4) k8.nd rfl (Or.inl rfl)) (aR (au (i:=5) k8.nd rfl (Or.inl rfl)) eI))))
    (ah (bq (ig gY jH jG cL (pv 2) (aa (iS (aa (pv 4) (aa (pv 5) af))) af)))
    (ak (bq (ig gY jH jG cL (pv 2) (aa (iS (aa (pv 5) (aa (pv 4) af))) af))))))))
   (ak (aI (Bw M GI hr rfl T.XN bI .nil aF (aa (pv 0) (aa (pv 2) af))))))),?_⟩
  have cG:2*zs.length<=256:=by have:=fi.len;rw[wm,dk] at this;exact this
  refine⟨_,rfl,_,_,_,.type "list",true,rfl,⟨rfl,xX⟩,.of (.lst hl),_,rfl,eX ?_⟩;refine⟨by show 0<=sizeLine;decide,fun D hD=>?_⟩;refine⟨_,rfl,l,rfl,⟨_,bh.of (ao hD _ _ hl)⟩,dU (K:=K) (xs:=zr zs) (fun i σ H2=>(∃x3 x4 x5,σ=[some (.int n),some (.ref l),some (.ref D),x3,x4,x5])/\qe H D (ng ((zp zs).take i)) H2) ⟨⟨_,_,_,rfl⟩,ao hD,[],ag,PO.nil,rfl⟩ (fun i σ H2 _ z=>bh.of (z.2.1 _ _ hl)) ?_ ?_⟩
  .rintro i x σ H2 hx ⟨⟨x3,x4,x5,rfl⟩,D_,ys,hy,X9,ey⟩;obtain⟨z,hz,rfl⟩:=ww hx;have hi:i<zs.length:=(cQ.mp hz).1;have ha:=D_ _ _ (po z (cB hz));have Tr:ys.length<=256:=by rw[<-dk,ey,wm,j6,dk];lia
   refine⟨_,rfl,_,_,_,rfl,.tup ha,_,rfl,eX ?_⟩;refine⟨_,rfl,_,_,rfl,bz.of ha,rfl,_,_,rfl,_,_,rfl,rfl,?_⟩;refine⟨_,rfl,.inl ⟨rfl,_,bh.of hy⟩,_,rfl,_,rfl,by show 2<=sizeLine;decide,fun t ht=>?_⟩;refine⟨D,_,_,rfl,rfl,ao ht _ _ hy,by rw[kX];exact dN Tr (by decide),?_⟩;obtain⟨MV,ys3,X_,Tl,ey3⟩:=qe.add (u:=z.2) hD D_ hy X9 ey ht;have Ya:ys3.length=ys.length+1:=by rw[<-dk,ey3,<-ey,dF,dk];rfl
   generalize upd (upd H2 t _) D _=H3 at *;refine⟨_,rfl,.inl ⟨rfl,_,bh.of X_⟩,_,rfl,_,rfl,by show 2<=sizeLine;decide,fun t2 Rb=>?_⟩;refine⟨D,_,_,rfl,rfl,ao Rb _ _ X_,by rw[kX,Ya];exact dN (zk Tr) (by decide),⟨_,_,_,rfl⟩,?_⟩;have P4:=qe.add (u:=Cg z.2) hD MV X_ Tl ey3 Rb;have e2:(zp zs)[i]?=some z.2:=by unfold zp;rw[bv,hz];rfl
   rw[iD,e2,Option.toList_some,AC];rw[cT] at P4;exact P4
  .rintro σ H2 ⟨⟨x3,x4,x5,rfl⟩,D_,ys,hy,X9,ey⟩;rw[kX,<-dk,et] at ey;refine⟨_,rfl,_,rfl,fun px dx nx Yb Yc=>?_⟩;have sN:az H2 (upd (upd H2 dx (.own px)) px (.ins C dx [])):=(ao (o:=.own px) Yb).trans (ao (D:=px) (o:=.ins C dx []) (by rw[al Yc.symm];exact nx));have gpx:(upd (upd H2 dx (.own px)) px (.ins C dx [])) px=some (.ins C dx []):=ag;have sM:=D_.trans sN;generalize upd (upd H2 dx (.own px)) px (.ins C dx [])=HM at *;have TM:fK HM D n ys:=⟨by rw[ey];exact fi,sN _ _ hy,X9.same sN⟩
   refine⟨px,dx,n,D,ys,rfl,gpx,TM,tb.same sM,fun H7 N7 t7 s7=>⟨rfl,?_⟩⟩;have npx:H px=none:=D_.free nx;rw[ey] at N7;exact k px H7 npx (N7.weak fun a ha=>sM.free ha) t7 fun b o e h=>s7 _ _ (sM _ _ e) (aq e npx) h
theorem uV{o:Option Int}{a b:Nat}(h:a9 o a b=true):∃n:Nat,a<=n/\n<=b/\o=some (n:Int):=by
 cases o with
 |none=>cases h
 |some i=>
  unfold a9 at h;simp at h;exact⟨i.toNat,by lia,by lia,by congr 1;lia⟩
theorem He.same{C Pt:Addr}{H H1:Hp}{n:Nat}{ts:Ts}{Q:VK}(k:He C Pt H n ts Q)(s:az H H1):He C Pt H1 n ts Q:=fun p H' hp N t st=>k p H' (s.free hp) (N.weak fun a ha=>s.free ha) t fun b o e h=>st _ _ (s _ _ e) h
end
inductive Sd (K:PySem.W.Frag) (H:Hp):V->Option (List (Option Int))->Prop where
 |tup {p:Addr} {xs:List V} {os:List (Option Int)} (h:H p=some (.tup xs)) (hl:xs.length=os.length) (e:∀ (i:Nat) x o,xs[i]?=some x->os[i]?=some o->Wh K H x o):Sd K H (.ref p) (some os)
 |no {x:V} {t:Value} (ty:QW K H x t) (h:PySem.W.kitOne K t (.type "tuple")=some false):Sd K H x none
def jX(os:List (Option Int)):List Nat:=os.map fun o=>(o.getD 0).toNat
def box:Option (List (Option Int))->Option (List Nat)
 |none=>none
 |some os=>if decide (1<=os.length)&&(decide (os.length<=5)&&(os.all (fun o=>a9 o 2 8)&&decide (pr (jX os)<=32))) then some (jX os) else none
theorem Hf{os:List (Option Int)}{ns:List Nat}(h:box (some os)=some ns):ns=jX os/\1<=ns.length/\ns.length<=5/\(∀x∈ns,2<=x/\x<=8)/\pr ns<=32/\os=ns.map fun (n:Nat)=>some (n:Int):=by
 unfold box at h;dsimp only at h;by_cases c:(decide (1<=os.length)&&(decide (os.length<=5)&&(os.all (fun o=>a9 o 2 8)&&decide (pr (jX os)<=32))))=true
 .rw[ai c] at h;simp only[fq,ji,jO] at c;obtain⟨c1,c2,c3,c4⟩:=c;obtain rfl:=bi h;have ex:∀o∈os,∃n:Nat,2<=n/\n<=8/\o=some (n:Int):=fun o ho=>uV (a:=2) (b:=8) (c3 o ho);refine⟨rfl,by unfold jX;rw[aV];exact c1,by unfold jX;rw[aV];exact c2,fun x hx=>?_,c4,?_⟩
  .obtain⟨o,ho,rfl⟩:=aQ.mp hx;obtain⟨n,n1,n2,rfl⟩:=ex o ho;exact⟨by show 2<=(n:Int).toNat;lia,by show (n:Int).toNat<=8;lia⟩
  .unfold jX;rw[fu];conv=>lhs;rw[<-jm os]
   refine jJ fun o ho=>?_;obtain⟨n,n1,n2,rfl⟩:=ex o ho;show some (n:Int)=some (((n:Int).toNat:Nat):Int);exact congrArg some (by lia)
 .rw[ap c] at h;cases h
section
variable {P:Program} {w:World} {K:PySem.W.Frag} {mg:Str->Option Value} {base:Heap}
theorem wH:aA ["numbers","result","number"] ["numbers"] (am Hb):=⟨rfl,rfl,rfl,by decide +kernel,rfl,by decide +kernel,by decide +kernel⟩
def sP(K:PySem.W.Frag):Sp:=fun vs H Q _=>∃ (a:Addr) (ns:List Nat),vs=[.ref a]/\bz K H a (NV ns)/\(∀x∈ns,x<=1000)/\Q (.int (pr ns)) H
theorem K_{f:Addr}{fd:FuncData}(F:eN K "product" "product" Hb f fd):bj P w K mg base ba 1 f fd ["numbers"] (sP K):=by
 refine F.ok wH (fun vs H Q E h=>?_) (fun dt A outer s H vs Q E hr h=>?_)
 .obtain⟨a,ns,rfl,_⟩:=h;rfl
 .obtain⟨a,ns,rfl,hS,hx,k⟩:=h;refine⟨_,ah (aO (i:=1) wH.nd rfl (Or.inl rfl) aB)
   (ah (bZ du rfl (mw (pv 0)) (au (i:=2) wH.nd rfl (Or.inl rfl)) (ak (o6 (i:=1) wH.nd rfl (Or.inl rfl) (pv 2) AN)))
   (ak (aI (pv 1)))),?_⟩
  refine⟨_,rfl,a,rfl,⟨_,hS⟩,ln (K:=K) (xs:=NV ns) (fun i σ H2=>H2=H/\∃x,σ=[some (.ref a),some (.int (uU (ns.take i))),x]) ⟨rfl,_,rfl⟩ (fun i σ H2 _ z=>by rw[z.1];exact hS) ?_ ?_⟩
  .rintro i x σ H2 d7 ⟨rfl,y,rfl⟩;obtain⟨v,hv,rfl⟩:=qd d7;have h1:=hx v (cB hv);refine⟨_,rfl,_,rfl,_,_,rfl,rfl,.inr ⟨by lia,by lia⟩,rfl,some (.int v),?_⟩;have tk:ns.take (i+1)=ns.take i++[v]:=by rw[iD,hv];rfl
   rw[tk,AO];rfl
  .rintro σ H2 ⟨rfl,x,rfl⟩;rw[aY,et,Hd];exact⟨_,rfl,k⟩
end
end ue
namespace jW
def MW(m:Nat)(ns:List Nat)(i:Nat):List (Nat×Nat):=(List.range i).flatMap fun j=>ud m (pr (ns.take j)) (ns.getD j 0)
theorem lU{α:Type}{f:Nat->List α}{n:Nat}:(List.range (n+1)).flatMap f=(List.range n).flatMap f++f n:=by
 rw[kh,List.flatMap_append];simp
theorem jB:∀ {ns:List Nat} {x:Nat},pr (ns++[x])=pr ns*x
 |[],x=>by show x*1=1*x;lia
 |n::ns,x=>by show n*pr (ns++[x])=n*pr ns*x;rw[jB,mf]
theorem Hg{m:Nat}:∀ {ns:List Nat} {st:Nat},bx m st ns=(List.range ns.length).flatMap fun j=>ud m (st*pr (ns.take j)) (ns.getD j 0)
 |[],st=>rfl
 |n::ns,st=>by
  show ud m st n++bx m (st*n) ns=_;rw[cD,vj,List.flatMap_cons,Hg (ns:=ns)];congr 1
  .show ud m st n=ud m (st*1) n;rw[kq]
  .rw[List.flatMap_map];congr 1;funext j;show _=ud m (st*(n*pr (ns.take j))) (ns.getD j 0);rw[mf]
end jW
namespace ue
open PySem L2 jW
section
variable {P:Program} {w:World} {K:PySem.W.Frag} {mg:Str->Option Value} {base:Heap}
theorem sQ{os:List (Option Int)}(h:(decide (1<=os.length)&&(decide (os.length<=5)&&(os.all (fun o=>a9 o 2 8)&&decide (pr (jX os)<=32))))=false):box (some os)=none:=by
 unfold box;dsimp only;rw[h];rfl
theorem OQ{os:List (Option Int)}(h:(decide (1<=os.length)&&(decide (os.length<=5)&&(os.all (fun o=>a9 o 2 8)&&decide (pr (jX os)<=32))))=true):box (some os)=some (jX os):=by
 unfold box;dsimp only;rw[h];rfl
theorem Sd.nums{H:Hp}{p:Addr}{os:List (Option Int)}{xs:List V}(h:H p=some (.tup xs))(hl:xs.length=os.length)(e:∀ (i:Nat) x o,xs[i]?=some x->os[i]?=some o->Wh K H x o)(ha:os.all (fun o=>a9 o 2 8)=true):xs=NV (jX os)/\∀x∈jX os,2<=x/\x<=8:=by
 have ex:∀o∈os,∃n:Nat,2<=n/\n<=8/\o=some (n:Int):=fun o ho=>uV (a:=2) (b:=8) (jO.mp ha o ho);refine⟨rj fun i=>?_,fun x hx=>?_⟩
 .unfold NV jX;rw[bv,bv];cases c:xs[i]? with
  |none=>
   have:os[i]?=none:=by
    rw[E7] at c |-;lia
   rw[this];rfl
  |some x=>
   have hi:i<os.length:=by have:=(cQ.mp c).1;lia
   have c2:os[i]?=some os[i]:=cJ hi;obtain⟨n,n1,n2,e3⟩:=ex os[i] (iF hi);have wh:=e i x _ c c2;rw[c2,e3] at *;obtain rfl:=pN wh;show some (V.int (n:Int))=some (V.int (((n:Int).toNat:Nat):Int));rw[j9]
 .obtain⟨o,ho,rfl⟩:=aQ.mp hx;obtain⟨n,n1,n2,rfl⟩:=ex o ho;exact⟨by show 2<=(n:Int).toNat;lia,by show (n:Int).toNat<=8;lia⟩
theorem x0:aA ["sides","side"] ["sides"] (am wF):=⟨rfl,rfl,rfl,by decide +kernel,rfl,by decide +kernel,by decide +kernel⟩
def sR(K:PySem.W.Frag)(CS:Addr):Sp:=fun vs H Q E=>∃ (x:V) (o:Option (List (Option Int))),vs=[x]/\Sd K H x o/\(box o=none->E (.ref CS) none H)/\(∀ns,box o=some ns->Q .bA H)
theorem Ee{f CS:Addr}{fd:FuncData}(F:eN K "check_sides" "check_sides" wF f fd)(B:Bl mg)(e:Er K mg "NoShape" CS)(gM:∃t,mg "MOST_SIDES"=some (.int 5 t))(gS:∃t,mg "SHORTEST_SIDE"=some (.int 2 t))(gL:∃t,mg "LONGEST_SIDE"=some (.int 8 t))(gH:∃t,mg "MOST_HOUSES"=some (.int 32 t))(W:cy P w K mg base ba 2 "is_whole_within" ["thing","least","most"] (kW K))(PR:cy P w K mg base ba 1 "product" ["numbers"] (sP K)):bj P w K mg base (iy P w) 3 f fd ["sides"] (sR K CS):=by
 obtain⟨tM,gM⟩:=gM;obtain⟨tS,gS⟩:=gS;obtain⟨tL,gL⟩:=gL;obtain⟨tH,gH⟩:=gH;refine F.Mo x0 (fun vs H Q E h=>?_) (fun dt A outer s H vs Q E hr h=>?_)
 .obtain⟨x,o,rfl,_⟩:=h;rfl
 .obtain⟨x,o,rfl,sd,k1,k2⟩:=h;have h1:bQ 1 _:=hr.mono (by decide);refine⟨_,ah (bW (PW.pt (xm (de (c_ (aG ij (by rfl) B.Ox qU (aa (pv 0) (aa (js (v:=.ty "tuple") rfl B.tup jI rfl) af))))) (rQ (de (c_ (aw W hr aF (aa (aG aJ (by rfl) B.len dS (aa (pv 0) af)) (aa aB (aa (jr (v:=.int 5) rfl gM ⟨_,rfl⟩) af))))))))) (ak (kM (q:=fun H1=>E (.ref CS) none H1) rfl e.ok rfl e.at_ (aa rP af) (fun _ _ _ _ _ _ _ I m q=>kK I m q))) aN)
   (ah (bZ NU rfl (mw (pv 0)) (au (i:=1) x0.nd rfl (Or.inl rfl)) (ak (bW (de (c_ (aw W hr aF (aa (pv 1) (aa (jr (v:=.int 2) rfl gS ⟨_,rfl⟩) (aa (jr (v:=.int 8) rfl gL ⟨_,rfl⟩) af)))))) (ak (kM (q:=fun H1=>E (.ref CS) none H1) rfl e.ok rfl e.at_ (aa rP af) (fun _ _ _ _ _ _ _ I m q=>kK I m q))) aN)))
   (ak (bW (aK Br (aw PR h1 aF (aa (pv 0) af)) (jr (v:=.int 32) rfl gH ⟨_,rfl⟩) (be _)) (ak (kM (q:=fun H1=>E (.ref CS) none H1) rfl e.ok rfl e.at_ (aa rP af) (fun _ _ _ _ _ _ _ I m q=>kK I m q))) aN))),?_⟩
  cases sd with
  |no ty h=>exact⟨_,rfl,_,_,_,_,false,rfl,⟨rfl,h⟩,ty,_,rfl,gD ⟨by show 1<=sizeLine;decide,k1 rfl⟩⟩
  |@tup p xs os hp hl ew=>
   refine⟨_,rfl,_,_,_,.type "tuple",true,rfl,⟨rfl,wu⟩,.of (.tup hp),_,rfl,eX ?_⟩;refine⟨_,rfl,p,xs,rfl,.inr (bz.of hp),_,_,1,5,rfl,.int _,_,rfl,?_⟩;cases hw:a9 (some ((xs.length:Nat):Int)) 1 5 with
   |false=>
    refine gD ⟨by show 1<=sizeLine;decide,k1 (sQ ?_)⟩;unfold a9 at hw;simp at hw;by_cases c:1<=os.length
    .rw[decide_eq_true c,dP (show ¬ os.length<=5 by lia)];rfl
    .rw[dP c];rfl
   |true=>
    have yD:1<=os.length/\os.length<=5:=by unfold a9 at hw;simp at hw;lia
    refine eX ⟨_,rfl,p,rfl,⟨_,bz.of hp⟩,ln (K:=K) (xs:=xs) (fun i σ H2=>H2=H/\(∃v,σ=[some (.ref p),v])/\∀j o,j<i->os[j]?=some o->a9 o 2 8=true) ⟨rfl,⟨_,rfl⟩,fun j o hj=>absurd hj (by lia)⟩ (fun i σ H2 _ z=>by rw[z.1];exact bz.of hp) ?_ ?_⟩
    .rintro i v σ H2 hv ⟨rfl,⟨v',rfl⟩,pH⟩;have hi:i<os.length:=by have:=(cQ.mp hv).1;lia
     have ho:os[i]?=some os[i]:=cJ hi;refine⟨_,rfl,_,_,2,8,rfl,ew i v _ hv ho,_,rfl,?_⟩;cases hc:a9 os[i] 2 8 with
     |false=>
      refine gD ⟨by show 1<=sizeLine;decide,k1 (sQ ?_)⟩;have:os.all (fun o=>a9 o 2 8)=false:=by
       rw[List.all_eq_false];exact⟨os[i],iF hi,by rw[hc];decide⟩
      rw[decide_eq_true yD.1,decide_eq_true yD.2,this];rfl
     |true=>
      refine eX ⟨rfl,⟨_,rfl⟩,fun j o hj Tt=>?_⟩;by_cases c:j=i
      .subst c;rw[ho] at Tt;obtain rfl:=bi Tt;exact hc
      .exact pH j o (by lia) Tt
    .rintro σ H2 ⟨rfl,⟨v',rfl⟩,pH⟩;have ha:os.all (fun o=>a9 o 2 8)=true:=jO.mpr fun o ho=>by
      obtain⟨j,hj,rfl⟩:=oC.mp ho;exact pH j _ (by lia) (cJ hj)
     obtain⟨ex,hx⟩:=Sd.nums hp hl ew ha;subst ex;refine⟨_,rfl,p,jX os,rfl,bz.of hp,fun x d7=>by have:=hx x d7;lia,_,_,rfl,rfl,_,rfl,?_⟩;refine gG (fun c=>?_) (fun c=>?_)
     .have c':(32:Int)<((pr (jX os):Nat):Int):=by simpa using c
      refine⟨by show 1<=sizeLine;decide,k1 (sQ ?_)⟩;rw[decide_eq_true yD.1,decide_eq_true yD.2,ha,dP (by lia)];rfl
     .have c':¬ (32:Int)<((pr (jX os):Nat):Int):=by simpa using c
      exact k2 _ (OQ (by rw[decide_eq_true yD.1,decide_eq_true yD.2,ha,decide_eq_true (by lia)];rfl))
end
theorem n5{A B:Prop}{b:Bool}(hb:b=true)(h:A):if b=true then A else B:=by rw[ai hb];exact h
theorem gP{A B:Prop}{b:Bool}(hb:b=false)(h:B):if b=true then A else B:=by rw[ap (by rw[hb];decide)];exact h
theorem Hh{m st n:Nat}:ud (m+1) st n=ud m st n++(if m / st % n+1<n then [(m,m+st)] else []):=by
 unfold ud;rw[kh,jK,dR,eT];by_cases c:m / st % n+1<n
 .rw[ai (decide_eq_true c),ai c];rfl
 .rw[ap (by simpa using c),ap c];rfl
theorem mR:∀ {ns:List Nat} {i:Nat},(∀x∈ns,1<=x)->pr (ns.take i)<=pr ns
 |[],i,_=>by rw[List.take_nil];exact aW _
 |n::ns,0,h=>by
  show 1<=n*pr ns;have:∀ {l:List Nat},(∀x∈l,1<=x)->1<=pr l:=fun {l}=>by
   induction l with
   |nil=>intro _;exact aW _
   |cons x l ih=>intro hl;exact oP (hl x bN) (ih fun y hy=>hl y (bL _ hy))
  exact this (l:=n::ns) h
 |n::ns,i+1,h=>by
  show n*pr (ns.take i)<=n*pr ns;exact oF n (mR fun x hx=>h x (bL _ hx))
section
variable {P:Program} {w:World} {K:PySem.W.Frag} {mg:Str->Option Value} {base:Heap}
theorem ja:aA ["sides","pairs","step","side","house"] ["sides"] (am wG):=⟨rfl,rfl,rfl,by decide +kernel,rfl,by decide +kernel,by decide +kernel⟩
def sS:Sp:=fun vs H Q _=>∃ (a:Addr) (ns:List Nat),vs=[.ref a]/\H a=some (.tup (NV ns))/\ns.length<=5/\(∀x∈ns,2<=x/\x<=8)/\pr ns<=32/\∀ (r:Addr) (zs:Zs) (H':Hp),az H H'->H r=none->H' r=some (.lst (zr zs))->PO H' zs->zp zs=(jA ns).map qM->Q (.ref r) H'
theorem Ef{f:Addr}{fd:FuncData}(F:eN K "box_pairs" "box_pairs" wG f fd)(B:Bl mg)(PR:cy P w K mg base ba 1 "product" ["numbers"] (sP K)):bj P w K mg base ba 2 f fd ["sides"] sS:=by
 refine F.ok ja (fun vs H Q E h=>?_) (fun dt A outer s H vs Q E hr h=>?_)
 .obtain⟨a,ns,rfl,_⟩:=h;rfl
 .obtain⟨a,ns,rfl,ha,hl,hn,hm,k⟩:=h;refine⟨_,ah (aO (i:=1) ja.nd rfl (Or.inl rfl) (dX af))
   (ah (aO (i:=2) ja.nd rfl (Or.inl rfl) aB)
   (ah (bZ du rfl (mw (pv 0)) (au (i:=3) ja.nd rfl (Or.inl rfl))
    (ah (bZ du rfl (ce rfl B.range (aa (aw PR hr aF (aa (pv 0) af)) af)) (au (i:=4) ja.nd rfl (Or.inl rfl))
     (ak (bW (aK rS (bu eM (bu jt (bu qF (pv 4) (pv 2)) (pv 3)) aB) (pv 3) (be _))
      (ak (bq (ig gY jH jG cL (pv 1) (aa (iS (aa (pv 4) (aa (bu eM (pv 4) (pv 2)) af))) af)))) aN)))
    (ak (o6 (i:=2) ja.nd rfl (Or.inl rfl) (pv 3) AN))))
   (ak (aI (pv 1))))),?_⟩
  refine⟨by show 0<=sizeLine;decide,fun D hD=>?_⟩;have s0:=ao (o:=.lst []) hD;have hn1:∀x∈ns,1<=x:=fun x hx=>by have:=hn x hx;lia
  refine⟨_,rfl,a,rfl,⟨_,bz.of (s0 _ _ ha)⟩,ln (K:=K) (xs:=NV ns) (fun i σ H2=>(∃x3 x4,σ=[some (.ref a),some (.ref D),some (.int ((pr (ns.take i):Nat):Int)),x3,x4])/\qe H D ((MW (pr ns) ns i).map qM) H2) ⟨⟨_,_,rfl⟩,s0,[],ag,PO.nil,rfl⟩ (fun i σ H2 _ z=>bz.of (z.2.1 _ _ ha)) ?_ ?_⟩
  .rintro i x σ H2 hx ⟨⟨x3,x4,rfl⟩,P2⟩;obtain⟨n,hv,rfl⟩:=qd hx;have hi:i<ns.length:=(cQ.mp hv).1;have hnn:=hn n (cB hv);have iw:=mR (ns:=ns) (i:=i) hn1;have aa5:1<=pr (ns.take i):=by
    have:=mR (ns:=ns.take i) (i:=0) fun x hx=>hn1 x (l6 hx);exact this
   have gd:ns.getD i 0=n:=by rw[cg,hv];rfl
   have tk:ns.take (i+1)=ns.take i++[n]:=by rw[iD,hv];rfl
   rw[tk,jB];have eB:MW (pr ns) ns (i+1)=MW (pr ns) ns i++ud (pr ns) (pr (ns.take i)) n:=by unfold MW;rw[lU,gd]
   rw[eB];generalize pr (ns.take i)=st at *;refine⟨_,rfl,a,ns,rfl,bz.of (P2.1 _ _ ha),fun x hx=>by have:=hn x hx;lia,?_⟩;refine⟨((pr ns:Nat):Int),rfl,by lia,by lia,d8 (n:=pr ns) (lo:=0) (fun j σ H4=>(∃x4,σ=[some (.ref a),some (.ref D),some (.int (st:Int)),some (.int (n:Int)),x4])/\qe H D ((MW (pr ns) ns i++ud j st n).map qM) H4) ⟨⟨_,rfl⟩,by rw[show ud 0 st n=[] from rfl,oK];exact P2⟩ ?_ ?_⟩
   .rintro j σ H4 hj ⟨⟨x4',rfl⟩,G9,zs4,Wb,po4,Yd⟩;have hdv:((0:Int)+(j:Int)) / (st:Int) % (n:Int)+1=(((j / st % n+1:Nat)):Int):=by rw[eU];rfl
    refine⟨_,rfl,_,rfl,_,_,rfl,rfl,⟨by lia,by lia⟩,_,rfl,_,_,rfl,rfl,(by show (0:Int)<(n:Int);lia),_,_,rfl,rfl,_,rfl,_,_,rfl,rfl,_,rfl,?_⟩;rw[hdv,Hh];by_cases c:j / st % n+1<n
    .rw[ai c];refine n5 (decide_eq_true (by lia)) ?_;rw[eU];refine⟨_,rfl,.inl ⟨rfl,_,bh.of Wb⟩,_,rfl,_,rfl,_,rfl,_,_,rfl,rfl,by show 2<=sizeLine;decide,fun t ht=>?_⟩;have Ye:zs4.length<=1000:=by
      have e:=congrArg List.length Yd;rw[dk,aV,dF] at e;have z1:∀m' s' n',(ud m' s' n').length<=m':=fun m' s' n'=>by unfold ud;rw[aV];exact aZ (gZ _ _) (by simp)
      have z2:∀i',(MW (pr ns) ns i').length<=i'*32:=fun i'=>by
       induction i' with
       |zero=>exact aW _
       |succ i' ih=>unfold MW at ih |-;rw[lU,dF,Nat.succ_mul];have:=z1 (pr ns) (pr (ns.take i')) (ns.getD i' 0);lia
      have:=z2 i;have:=z1 j st n;lia
     refine⟨D,_,_,rfl,rfl,ao ht _ _ Wb,by rw[kX];exact dN Ye (by decide),⟨_,rfl⟩,?_⟩;have P5:=qe.add (u:=qM (j,j+st)) hD G9 Wb po4 Yd ht;rw[<-cT,dR (l₂:=[(j,j+st)])];exact P5
    .rw[ap c,oK];refine gP (dP (by lia)) ⟨⟨_,rfl⟩,G9,zs4,Wb,po4,Yd⟩
   .rintro σ H4 ⟨⟨x4',rfl⟩,P4⟩;exact⟨_,rfl,_,rfl,_,_,rfl,rfl,.inr ⟨by lia,by lia⟩,⟨_,_,rfl⟩,P4⟩
  .rintro σ H2 ⟨⟨x3,x4,rfl⟩,D_,zs,hz,po,ez⟩;refine⟨_,rfl,k D zs H2 D_ hD hz po ?_⟩;rw[ez,aY];unfold jA MW;rw[Hg];simp only[vT]
theorem OR:aA ["sides"] ["sides"] (am Ha):=⟨rfl,rfl,rfl,by decide +kernel,rfl,by decide +kernel,by decide +kernel⟩
def AQ(K:PySem.W.Frag)(C Pt CS:Addr):Sp:=fun vs H Q E=>∃ (x:V) (o:Option (List (Option Int))),vs=[x]/\Sd K H x o/\nZ Pt H/\(box o=none->E (.ref CS) none H)/\(∀ns,box o=some ns->He C Pt H (pr ns) (ng ((jA ns).map qM)) Q)
theorem La{f C Pt CS:Addr}{fd:FuncData}(F:eN K "box_net" "box_net" Ha f fd)(CSd:cy P w K mg base (iy P w) 3 "check_sides" ["sides"] (sR K CS))(PN:cy P w K mg base ba 9 "pairs_net" ["many","pairs"] (sO C Pt))(PR:cy P w K mg base ba 1 "product" ["numbers"] (sP K))(BP:cy P w K mg base ba 2 "box_pairs" ["sides"] sS):
  bj P w K mg base (iy P w) 10 f fd ["sides"] (AQ K C Pt CS):=by
 refine F.Mo OR (fun vs H Q E h=>?_) (fun dt A outer s H vs Q E hr h=>?_)
 .obtain⟨x,o,rfl,_⟩:=h;rfl
 .obtain⟨x,o,rfl,sd,tb,k1,k2⟩:=h;have h1:bQ 1 _:=hr.mono (by decide);have h2:bQ 2 _:=hr.mono (by decide);have h3:bQ 3 _:=hr.mono (by decide);refine⟨_,ah (bq (aw CSd h3 (uD (E':=E) fun _ _ _ z=>z) (aa (pv 0) af)))
   (ak (aI (aw PN hr aF (aa (aw PR h1 aF (aa (pv 0) af)) (aa (aw BP h2 aF (aa (pv 0) af)) af))))),?_⟩
  refine⟨_,rfl,x,o,rfl,sd,k1,fun ns hb=>?_⟩;cases sd with
  |no ty h=>cases hb
  |@tup p xs os hp hl ew=>
   obtain⟨e1,l1,l2,hn,hm,eo⟩:=Hf hb;have ha:os.all (fun o=>a9 o 2 8)=true:=jO.mpr fun o ho=>by
    rw[eo] at ho;obtain⟨n,VC,rfl⟩:=aQ.mp ho;have:=hn n VC;unfold a9;simp;lia
   obtain⟨ex,_⟩:=Sd.nums hp hl ew ha;rw[<-e1] at ex;subst ex;refine⟨_,rfl,p,ns,rfl,bz.of hp,fun x hx=>by have:=hn x hx;lia,?_⟩;refine⟨_,rfl,p,ns,rfl,hp,l2,hn,hm,fun r zs H2 s2 EU Eg po ez=>?_⟩;refine⟨pr ns,r,zs,rfl,Eg,po,?_,tb.same s2,?_⟩
   .rw[ez];exact GG (fun x hx=>(hn x hx).1) (by rintro rfl;simp at l1) hm
   .rw[ez];exact(k2 ns hb).same s2
end
end ue
namespace L2
open PySem PySem.Spec PyProof.Rows
theorem Hi{K:PySem.W.Frag}{a D:Addr}{xs:List V}{g:TG}{tt:TT}{te:TE}{cK:Hp->Prop}{σB:St}{H0:Hp}(Pv:Nat->List V->St->Hp->Prop)(h0:Pv 0 [] σB H0)(hl:∀i ys σ H,i<=xs.length->Pv i ys σ H->bz K H a xs)(hs:∀i x ys σ H (Kt:V->St->Hp->Prop) (Kf:St->Hp->Prop),xs[i]?=some x->Pv i ys σ H->
   (∀v σ2 H4,H4 D=some (.lst ys)->ys.length<sizeLine->Pv (i+1) (ys++[v]) σ2 (upd H4 D (.lst (ys++[v])))->Kt v σ2 H4)->(∀σ2 H3,Pv (i+1) ys σ2 H3->Kf σ2 H3)->
   g x σ H fun σ2 H2=>tt σ2 H2 fun b H3=>if b=true then te σ2 H3 fun v H4=>Kt v σ2 H4 else Kf σ2 H3)(hd:∀ys σ H,Pv xs.length ys σ H->cK H):iG (QO K a) g tt te D cK σB H0:=by
 refine⟨fun i m σ H=>m=xs.length-i/\i<=xs.length/\∃ys,Pv i ys σ H,⟨xs.length,by simp,cE _,[],h0⟩,?_⟩;rintro i m σ H ⟨rfl,hi,ys,p⟩;have q:=hl i ys σ H hi p;by_cases df:i<xs.length
 .refine .inr ⟨⟨xs,xs[i],q,by simp[df]⟩,?_⟩;rintro x H' ⟨rfl,y⟩;exact hs i x ys σ _ (fun v σ2 H4=>∃ys,H4 D=some (.lst ys)/\ys.length<sizeLine/\∃m',m'<xs.length-i/\m'=xs.length-(i+1)/\i+1<=xs.length/\∃pD,Pv (i+1) pD σ2 (upd H4 D (.lst (ys++[v]))))
   (fun σ2 H3=>∃m',m'<xs.length-i/\m'=xs.length-(i+1)/\i+1<=xs.length/\∃pD,Pv (i+1) pD σ2 H3) (y xs q) p
   (fun v σ2 H4 z1 z2 z3=>⟨ys,z1,z2,_,by lia,rfl,df,_,z3⟩) (fun σ2 H3 z=>⟨_,by lia,rfl,df,_,z⟩)
 .have e:i=xs.length:=by lia
  subst e;exact .inl ⟨⟨xs,q,aW _⟩,hd ys σ H p⟩
section
variable {X:Cx}
theorem n6{prog:Program}{w:World}{A:Around}{E:Value->Shared->Prop}{s:Shared}{t sl:Addr}{items:Array Value}{vl vu:Value}{lo hi:Option Int}{Q:Value->Shared->Prop}(ht:IsTup s.heap t items)(hs:s.heap.IsSliceOf sl vl vu .none)(pl:IsPart vl lo)(pu:IsPart vu hi)(hw:HT.fN items.size 0 lo=0/\HT.fN items.size items.size hi=items.size)(h:Q (.ref t) s):wpAny (model prog w) A (getItem (.ref t) (.ref sl)) Q E s:=by
 obtain⟨os,Jc,VI,RY⟩:=id hs;have WL:s.TypeIs (.ref sl) "slice":=⟨os,Jc,VI⟩
 unfold getItem;try with_reducible refine f9 ?_
 first|refine aj (wpAny_pure ?_)|skip
 refine aj (wpAny_sequenceKey ht.typeIs (by decide) ?_);refine aj (lN (name:=Str.ofString "__getitem__") ht.typeIs ul
  (g_ ul ht.typeIs entry_tuple_getitem ?_ (args_tuple_getitem _ _)))
 show wpAny _ _ (Builtin.Tuple.tupleItemsOf (.ref t) >>= _) _ _ s;refine aj (tupleItemsOf_ ht ?_);refine aj (vU WL ?_);rw[ai (by decide)];refine aj (HT.i7 hs pl pu ?_);have Yf:(((HT.fN items.size 0 lo:Nat):Int)==0&&(1:Int)==1&&(HT.fN items.size items.size hi-HT.fN items.size 0 lo)==items.size)=true:=by
  rw[hw.1,hw.2];simp
 show wpAny _ _ (if (((HT.fN items.size 0 lo:Nat):Int)==0&&(1:Int)==1&&(HT.fN items.size items.size hi-HT.fN items.size 0 lo)==items.size)=true then _ else _) _ _ s;rw[ai Yf];refine aj (Q:=_) (m:=Builtin.Tuple.tupleIsExact (.ref t)) ?_;unfold Builtin.Tuple.tupleIsExact;refine aj (vU ht.typeIs ?_);refine wpAny_pure ?_;rw[ai (by decide)];exact aj (wpAny_rule (wpAny_pure ⟨_,rfl,wpAny_pure h⟩))
def Tv:V->Option Int->Option Int->Hp->VK->Prop:=fun x lo hi H Q=>∃a xs,x=.ref a/\H a=some (.tup xs)/\∀r H',az H H'->H' r=some (.tup (vY xs lo hi))->Q (.ref r) H'
theorem Hj{xs:List V}{lo hi:Option Int}(hw:HT.fN xs.length 0 lo=0/\HT.fN xs.length xs.length hi=xs.length):vY xs lo hi=xs:=by
 unfold vY;rw[hw.1,hw.2,Nat.sub_zero,zI,et]
theorem Ct:WM X Tv:=by
 intro ae s σ H x v vl vu lo hi sl Q I rx hs pl pu h;obtain⟨a,xs,rfl,hx,q⟩:=h;by_cases hw:HT.fN xs.length 0 lo=0/\HT.fN xs.length xs.length hi=xs.length
 .cases rx;obtain⟨its,r,ht,hz⟩:=I.tuple (bz.of hx);have cG:its.toArray.size=xs.length:=by rw[cC];exact r.length.symm
  refine⟨"tuple",_,ul.lookup,ht.typeIs,?_⟩;exact n6 ht hs pl pu (by rw[cG];exact hw) ⟨.ref a,H,I,rfl,q a H (az.refl _) (by rw[Hj hw];exact hx)⟩
 .exact NK ae s σ H _ v vl vu lo hi sl Q I rx hs pl pu ⟨a,xs,rfl,bz.of hx,hw,fun p hp=>q p _ (ao hp) ag⟩
end
end L2
namespace jW
def ck:List Nat->Nat->List Nat
 |[],_=>[]
 |n::ns,h=>(h % n)::ck ns (h / n)
theorem d_:∀ {ns:List Nat} {h:Nat},(ck ns h).length=ns.length
 |[],_=>rfl
 |n::ns,h=>by show (ck ns (h / n)).length+1=ns.length+1;rw[d_]
theorem sU:∀ {ns:List Nat} {n h:Nat},ck (ns++[n]) h=ck ns h++[h / pr ns % n]
 |[],n,h=>by show [h % n]=[h / 1 % n];rw[oQ]
 |m::ns,n,h=>by
  show (h % m)::ck (ns++[n]) (h / m)=(h % m)::(ck ns (h / m)++[h / (m*pr ns) % n]);rw[sU,lY]
theorem mU:∀ {ns:List Nat} {h i:Nat},(∀x∈ns,0<x)->i<ns.length->(ck ns h).getD i 0<ns.getD i 0
 |[],_,_,_,hi=>absurd hi (jQ _)
 |n::ns,h,0,hn,_=>jn h (hn n bN)
 |n::ns,h,i+1,hn,hi=>mU (ns:=ns) (h:=h / n) (i:=i) (fun x hx=>hn x (bL _ hx)) (lX hi)
def yE:List Nat->List Nat->Nat
 |n::ns,d::ds=>d+n*yE ns ds
 |_,_=>0
theorem x_:∀ {ns ds:List Nat} {n d:Nat},ns.length=ds.length->yE (ns++[n]) (ds++[d])=yE ns ds+pr ns*d
 |[],[],n,d,_=>by show d+n*0=0+1*d;lia
 |m::ns,e::ds,n,d,h=>by
  show e+m*yE (ns++[n]) (ds++[d])=e+m*yE ns ds+m*pr ns*d;rw[x_ (km h),iR,mf,rE]
theorem qQ:∀ {ns:List Nat} {h:Nat},h<pr ns->yE ns (ck ns h)=h
 |[],h,hh=>by have hh:h<1:=hh;show 0=h;lia
 |n::ns,h,hh=>by
  show h % n+n*yE ns (ck ns (h / n))=h;rw[qQ (yU hh),Nat.mod_add_div]
theorem Cu:∀ {ns ds:List Nat} {k v:Nat},ns.length=ds.length->k<ds.length->yE ns (ds.set k v)+pr (ns.take k)*ds.getD k 0=yE ns ds+pr (ns.take k)*v
 |[],[],k,v,_,h=>absurd h (jQ _)
 |n::ns,d::ds,0,v,_,_=>by show v+n*yE ns ds+1*d=d+n*yE ns ds+1*v;lia
 |n::ns,d::ds,k+1,v,hl,hk=>by
  have ih:=Cu (ns:=ns) (ds:=ds) (k:=k) (v:=v) (km hl) (lX hk);show d+n*yE ns (ds.set k v)+n*pr (ns.take k)*ds.getD k 0=d+n*yE ns ds+n*pr (ns.take k)*v;rw[rE,rE,mf,mf,<-iR,<-iR,ih]
def jC(ns:List Nat)(a b:Nat):Option Nat:=(List.range ns.length).find? fun i=>decide ((ck ns a).getD i 0≠(ck ns b).getD i 0)
theorem Eh{n:Nat}{f:Nat->Bool}:(List.range (n+1)).find? f=if f 0=true then some 0 else ((List.range n).find? fun i=>f (i+1)).map (·+1):=by
 rw[vj,jk];split
 .next h=>rw[ai h]
 .next h=>
  rw[ap (by rw[h];decide),List.find?_map];rfl
theorem Cv{n:Nat}{ns:List Nat}{a b:Nat}:jC (n::ns) a b=if a % n=b % n then (jC ns (a / n) (b / n)).map (·+1) else some 0:=by
 unfold jC;rw[cD,Eh];show (if decide (a % n≠b % n)=true then _ else _)=_;by_cases c:a % n=b % n
 .rw[ap (by simp[c]),ai c];rfl
 .rw[ai (by simpa using c),ap c]
def Jk:List Nat->Nat->Nat->Nat->Prop
 |[],_,_,_=>False
 |n::_,0,a,b=>a % n+1<n/\b=a+1
 |n::ns,k+1,a,b=>a % n=b % n/\Jk ns k (a / n) (b / n)
theorem Ei:∀ {ns:List Nat} {a b:Nat},(∀x∈ns,0<x)->(U ns a b↔∃k,Jk ns k a b)
 |[],a,b,_=>⟨fun h=>h.elim,fun ⟨k,h⟩=>h.elim⟩
 |n::ns,a,b,hn=>by
  rw[wq hn,Ei fun x hx=>hn x (bL _ hx)];constructor
  .rintro(h|⟨e,k,h⟩)
   .exact⟨0,h⟩
   .exact⟨k+1,e,h⟩
  .rintro⟨k,h⟩;cases k with
   |zero=>exact .inl h
   |succ k=>exact .inr ⟨h.1,k,h.2⟩
theorem MX:∀ {ns:List Nat} {k a b:Nat},Jk ns k a b->k<ns.length
 |n::ns,0,a,b,_=>vQ _
 |n::ns,k+1,a,b,h=>Nat.succ_lt_succ (MX h.2)
theorem Hk{n a b s:Nat}(hn:0<n):(a % n=b % n/\b / n=a / n+s)↔b=a+n*s:=by
 constructor
 .rintro⟨h1,h2⟩;rw[<-hZ b n,h2,<-h1,iR];have:=hZ a n;lia
 .rintro rfl;exact⟨by rw[E5],by rw[Nat.add_mul_div_left _ _ hn]⟩
theorem Hl:∀ {ns:List Nat} {k a b:Nat},(∀x∈ns,0<x)->k<ns.length->(Jk ns k a b↔(ck ns a).getD k 0+1<ns.getD k 0/\b=a+pr (ns.take k))
 |[],k,_,_,_,h=>absurd h (jQ _)
 |n::ns,0,a,b,hn,_=>Iff.rfl
 |n::ns,k+1,a,b,hn,hk=>by
  have ih:=Hl (ns:=ns) (k:=k) (a:=a / n) (b:=b / n) (fun x hx=>hn x (bL _ hx)) (lX hk);show (a % n=b % n/\Jk ns k (a / n) (b / n))↔(ck ns (a / n)).getD k 0+1<ns.getD k 0/\b=a+n*pr (ns.take k);rw[ih,<-Hk (hn n bN)];exact⟨fun ⟨x,y,z⟩=>⟨y,x,z⟩,fun ⟨y,x,z⟩=>⟨x,y,z⟩⟩
theorem sV{b n:Nat}(hn:0<n):(b % n+1<n)↔1<=(b+1) % n:=by
 have e:=hZ b n;have l:=jn b hn;constructor
 .intro h;rw[(mL h).2];lia
 .intro h;rcases gm (b % n+1) n with c|c
  .exact c
  .have:b+1=n*(b / n+1):=by rw[iR,kq];lia
   rw[this,Nat.mul_mod_right] at h;exact absurd h (by decide)
theorem AR:∀ {ns:List Nat} {k a b:Nat},(∀x∈ns,0<x)->k<ns.length->(Jk ns k b a↔1<=(ck ns a).getD k 0/\a=b+pr (ns.take k))
 |[],k,_,_,_,h=>absurd h (jQ _)
 |n::ns,0,a,b,hn,_=>by
  show (b % n+1<n/\a=b+1)↔1<=a % n/\a=b+1;constructor
  .rintro⟨h,rfl⟩;exact⟨(sV (hn n bN)).mp h,rfl⟩
  .rintro⟨h,rfl⟩;exact⟨(sV (hn n bN)).mpr h,rfl⟩
 |n::ns,k+1,a,b,hn,hk=>by
  have ih:=AR (ns:=ns) (k:=k) (a:=a / n) (b:=b / n) (fun x hx=>hn x (bL _ hx)) (lX hk);show (b % n=a % n/\Jk ns k (b / n) (a / n))↔1<=(ck ns (a / n)).getD k 0/\a=b+n*pr (ns.take k);rw[ih,<-Hk (hn n bN)];exact⟨fun ⟨x,y,z⟩=>⟨y,x,z⟩,fun ⟨y,x,z⟩=>⟨x,y,z⟩⟩
theorem Hm:∀ {ns:List Nat} {k a b:Nat},Jk ns k a b->jC ns a b=some k
 |n::ns,0,a,b,⟨h,e⟩=>by
  subst e;rw[Cv,ap (by rw[(mL h).2];lia)]
 |n::ns,k+1,a,b,⟨e,h⟩=>by rw[Cv,ai e,Hm h];rfl
theorem Lb{ns:List Nat}{a b:Nat}:jC ns a b=jC ns b a:=by
 unfold jC;congr 1;funext i;exact md.mpr ⟨bE,bE⟩
theorem jD{ns:List Nat}{a b k:Nat}(h:jC ns a b=some k):k<ns.length/\(ck ns a).getD k 0≠(ck ns b).getD k 0:=
 ⟨cU.mp (vd h),dA (vG (p:=fun i=>decide ((ck ns a).getD i 0≠(ck ns b).getD i 0)) h)⟩
def Hn(ns:List Nat)(a b k:Nat):Prop:=Jk ns k a b\/Jk ns k b a
theorem jb{ns:List Nat}{a b k:Nat}(h:Hn ns a b k):jC ns a b=some k:=by
 rcases h with h|h
 .exact Hm h
 .rw[Lb];exact Hm h
theorem lx{ns:List Nat}{a b:Nat}(hn:∀x∈ns,0<x)(ha:a<pr ns)(hb:b<pr ns):T (ng ((jA ns).map qM)) a b↔∃k,Hn ns a b k:=by
 have Wc:∀ {a b:Nat},(a,b)∈jA ns↔a<pr ns/\U ns a b:=pK;show ((a:Int),(b:Int))∈_↔_;rw[fU];constructor
 .rintro(h|h)
  .obtain⟨q,hq,e⟩:=aQ.mp h;have e1:q.1=a:=cV (congrArg Prod.fst e);have e2:q.2=b:=cV (congrArg Prod.snd e);obtain⟨k,u⟩:=(Ei hn).mp (Wc.mp hq).2;exact⟨k,.inl (by rw[<-e1,<-e2];exact u)⟩
  .obtain⟨q,hq,e⟩:=aQ.mp h;have e1:q.1=b:=cV (congrArg Prod.fst e);have e2:q.2=a:=cV (congrArg Prod.snd e);obtain⟨k,u⟩:=(Ei hn).mp (Wc.mp hq).2;exact⟨k,.inr (by rw[<-e1,<-e2];exact u)⟩
 .rintro⟨k,u|u⟩
  .exact .inl (aQ.mpr ⟨(a,b),Wc.mpr ⟨ha,(Ei hn).mpr ⟨k,u⟩⟩,rfl⟩)
  .exact .inr (aQ.mpr ⟨(b,a),Wc.mpr ⟨hb,(Ei hn).mpr ⟨k,u⟩⟩,rfl⟩)
def AS(ns:List Nat)(a b:Nat):Option Nat:=(jC ns a b).map fun k=>if (ck ns a).getD k 0<(ck ns b).getD k 0 then a+pr (ns.take k) else a-pr (ns.take k)
end jW
namespace L2
open PySem PySem.Spec PyProof.Rows
theorem Lc{X:Cx}:RI X .FloorDiv (fun x y H Q=>∃i j,x=.int i/\y=.int j/\NC i j/\Q (.int (i / j)) H):=by
 intro ae s σ H x y v u Q I r1 r2 h;exact Fn ae s σ H x y v u Q I r1 r2 h
end L2
namespace ue
open PySem L2 jW
abbrev Ld:Stmt:=eJ (fV 47) 0
abbrev OS:Stmt:=eJ (fV 47) 3
abbrev OT:Stmt:=eJ (fV 47) 4
abbrev OU:Stmt:=eJ (fV 47) 6
abbrev OV:Stmt:=eJ (fV 47) 7
abbrev OW:Stmt:=eJ (fV 47) 8
abbrev Yg:Stmt:=fV 42
structure Bx(ns:List Nat):Prop where
 l1:1<=ns.length
 l5:ns.length<=5
 sd:∀x∈ns,2<=x/\x<=8
 MZ:pr ns<=32
theorem Bx.pos{ns:List Nat}(B:Bx ns):∀x∈ns,0<x:=fun x hx=>by have:=B.sd x hx;lia
theorem Bx.gd{ns:List Nat}(B:Bx ns){i:Nat}(h:i<ns.length):2<=ns.getD i 0/\ns.getD i 0<=8:=by
 rw[cg,cJ h];exact B.sd _ (iF _)
abbrev lA(ns:List Nat):Ts:=ng ((jA ns).map qM)
structure EV(K:PySem.W.Frag)(mg:Str->Option Value)(CB:Addr):Prop where
 cl:EK K CB
 nN:gy K CB "tied_net"
 nS:gy K CB "side_row"
 XN:mg "Box"=some (.ref CB)
def Cw(pn sr:Addr):List (Str×V):=cY "side_row" (.ref sr) (cY "tied_net" (.ref pn) [])
theorem nNS:¬ (("tied_net":Str)="side_row"):=by decide +kernel
theorem Ho{pn sr:Addr}:(Cw pn sr).lookup ("tied_net":Str)=some (.ref pn):=by unfold Cw;rw[aX,ap nNS,aX,ai rfl]
theorem Cy{pn sr:Addr}:(Cw pn sr).lookup ("side_row":Str)=some (.ref sr):=by unfold Cw;rw[aX,ai rfl]
theorem mV{pn sr:Addr}{m:Str}(h1:¬ m="tied_net")(h2:¬ m="side_row"):(Cw pn sr).lookup m=none:=by unfold Cw;rw[aX,ap h2,aX,ap h1];rfl
structure dZ(C CB:Addr)(H:Hp)(L:Addr->Prop)(b:Addr)(ns:List Nat):Prop where
 bx:Bx ns
 ob:∃dx pn sr,H b=some (.ins CB dx (Cw pn sr))/\ff C H L pn (pr ns) (lA ns)/\H sr=some (.tup (NV ns))
theorem dZ.same{C CB b:Addr}{H H':Hp}{L:Addr->Prop}{ns:List Nat}(h:dZ C CB H L b ns)(s:az H H'):dZ C CB H' L b ns:=
 let ⟨dx,pn,sr,a,c,d⟩:=h.ob
 ⟨h.bx,dx,pn,sr,s _ _ a,c.same s,s _ _ d⟩
abbrev AU(K:PySem.W.Frag)(H:Hp)(x:V)(o:Option Int):Prop:=∀H',az H H'->Wh K H' x o
theorem fW{ns:List Nat}{h i:Nat}(hi:i<ns.length):(NV (ck ns h))[i]?=some (.int (((ck ns h).getD i 0:Nat):Int)):=by
 have:i<(ck ns h).length:=by rw[d_];exact hi
 rw[bv,cJ this,cg,cJ this];rfl
section
variable {P:Program} {w:World} {K:PySem.W.Frag} {mg:Str->Option Value} {base:Heap}
theorem Tw:aA ["self","sides"] ["self","sides"] (am Ld):=⟨rfl,rfl,rfl,by decide +kernel,rfl,by decide +kernel,by decide +kernel⟩
def Hq(C CB Pt:Addr):Sp:=fun vs H Q _=>∃ (b dx sr:Addr) (ns:List Nat),vs=[.ref b,.ref sr]/\H b=some (.ins CB dx [])/\H sr=some (.tup (NV ns))/\Bx ns/\nZ Pt H/\
 ∀H',dZ C CB H' (fun a=>H a=none) b ns->nZ Pt H'->lS b Pt H H'->Q .bA H'
theorem Hr{ns:List Nat}(B:Bx ns):box (some (ns.map fun (n:Nat)=>some (n:Int)))=some ns:=by
 have e:jX (ns.map fun (n:Nat)=>some (n:Int))=ns:=by
  unfold jX;rw[fu];conv=>rhs;rw[<-jm ns]
  exact jJ fun n _=>rfl
 unfold box;dsimp only;rw[e,ai];rw[aV,decide_eq_true B.l1,decide_eq_true B.l5,decide_eq_true B.MZ,zK,Bool.true_and,Bool.true_and,jO];intro o ho;obtain⟨n,hn,rfl⟩:=aQ.mp ho;have:=B.sd n hn;unfold a9;simp;lia
theorem Tx{H:Hp}{a:Addr}{ns:List Nat}(h:H a=some (.tup (NV ns))):Sd K H (.ref a) (some (ns.map fun (n:Nat)=>some (n:Int))):=by
 refine .tup h (by rw[aV,aV]) fun i x o hx ho=>?_;obtain⟨n,hn,rfl⟩:=qd hx;rw[bv,hn] at ho;cases ho;exact .int _
theorem OX{f C CB CS Pt:Addr}{fd:FuncData}(F:eN K "__init__" "Box.__init__" Ld f fd)(B:Bl mg)(TB:EV K mg CB)(BN:cy P w K mg base (iy P w) 10 "box_net" ["sides"] (AQ K C Pt CS)):bj P w K mg base ba 11 f fd ["self","sides"] (Hq C CB Pt):=by
 refine F.ok Tw (fun vs H Q E h=>?_) (fun dt A outer s H vs Q E hr h=>?_)
 .obtain⟨b,dx,sr,ns,rfl,_⟩:=h;rfl
 .obtain⟨b,dx,sr,ns,rfl,hb,im,BX,tb,q⟩:=h;refine⟨_,ah (pf (pv 0) (aw BN hr kL (aa (pv 1) af)) rfl)
   (ak (pf (pv 0) (cf cr (by rfl) B.tup jI (aa (pv 1) af)) rfl)),?_⟩
  refine⟨_,rfl,_,_,rfl,Tx im,tb,(fun z=>by rw[Hr BX] at z;cases z),fun Hs e pn H1 npn N1 t1 s1=>?_⟩;rw[Hr BX] at e;cases e;have nb:b≠Pt:=tb.not hb (by intro ps z;cases z);have Tz:sr≠b:=by rintro rfl;rw[hb] at im;cases im
  have MU:=s1 _ _ hb nb;refine⟨_,rfl,b,CB,dx,_,rfl,MU,TB.cl,TB.nN,by show 0<1000;decide,?_⟩;have TC:=s1 _ _ im (tb.not im (by intro ps z;cases z));refine⟨_,rfl,sr,_,rfl,.inr ⟨bz.of (by rw[al Tz];exact TC),?_⟩⟩;refine⟨_,rfl,b,CB,dx,_,rfl,ag,TB.cl,TB.nS,by show 1<1000;decide,?_⟩;have kp:∀c o,c≠b->H1 c=some o->(upd (upd H1 b (.ins CB dx (cY "tied_net" (.ref pn) []))) b (.ins CB dx (cY "side_row" (.ref sr) (cY "tied_net" (.ref pn) [])))) c=some o:=fun c o n e=>by rw[al n,al n];exact e
  refine q _ ⟨BX,dx,pn,sr,ag,N1.keep (fun c o l e=>kp c o (by rintro rfl;rw[hb] at l;cases l) e) (fun o e=>kp pn o (by rintro rfl;rw[hb] at npn;cases npn) e),kp _ _ Tz TC⟩ ?_ (fun c o e n1 n2=>kp c o n1 (s1 _ _ e n2));rcases t1 with z|⟨c,z,y⟩
  .exact .inl (kp _ _ nb.symm z)
  .exact .inr ⟨c,kp _ _ nb.symm z,kp _ _ (by rintro rfl;rw[MU] at y;cases y) y⟩
end
theorem n9{pn sr:Addr}:(Cw pn sr).lookup ("place":Str)=none:=mV (by decide +kernel) (by decide +kernel)
theorem Ht{pn sr:Addr}:(Cw pn sr).lookup ("house":Str)=none:=mV (by decide +kernel) (by decide +kernel)
theorem sW{pn sr:Addr}:(Cw pn sr).lookup ("phase":Str)=none:=mV (by decide +kernel) (by decide +kernel)
theorem Hu{ns:List Nat}(h:∀x∈ns,0<x):0<pr ns:=by
 induction ns with
 |nil=>exact Nat.one_pos
 |cons n ns ih=>exact oP (h n bN) (ih fun x hx=>h x (bL _ hx))
theorem Le{K:PySem.W.Frag}{a b:Addr}{xs ys:List V}{g:TG}{tb:TS}{D:vX}{σ:St}{H:Hp}(Q5:xs.length=ys.length)(Pv:Nat->St->Hp->Prop)(h0:Pv 0 σ H)(hl:∀i σ H,i<=xs.length->Pv i σ H->bz K H a xs/\bz K H b ys)(hs:∀i x y p σ H,xs[i]?=some x->ys[i]?=some y->Pv i σ H->H p=none->g (.ref p) σ (upd H p (.tup [x,y])) fun σ2 H2=>tb { D with nx:=Pv (i+1),ct:=Pv (i+1),bk:=D.nx } σ2 H2)(hd:∀σ H,Pv xs.length σ H->D.nx σ H):
  ∃W:Nat->Nat->St->Hp->Prop,(∃m,W 0 m σ H)/\∀i m σ H,W i m σ H->
   ((SW K a b).stop i H/\D.nx σ H)\/((SW K a b).go i H/\∃N:St->Hp->Prop,(∀σ' H',N σ' H'->∃m',m'<m/\W (i+1) m' σ' H')/\∀x H',(SW K a b).Ja i H x H'->g x σ H' fun σ2 H2=>tb { D with nx:=N,ct:=N,bk:=D.nx } σ2 H2):=by
 refine⟨fun i m σ H=>m=xs.length-i/\i<=xs.length/\Pv i σ H,⟨xs.length,by simp,cE _,h0⟩,?_⟩;rintro i m σ H ⟨rfl,hi,p⟩;obtain⟨q1,q2⟩:=hl i σ H hi p;by_cases df:i<xs.length
 .have Os:i<ys.length:=by lia
  refine .inr ⟨⟨xs,ys,xs[i],ys[i],q1,q2,by simp[df],by simp[Os]⟩,Pv (i+1),fun σ' H' p'=>⟨xs.length-(i+1),by lia,rfl,df,p'⟩,?_⟩;rintro v H' ⟨pp,x,y,rfl,hn,rfl,Oa,hv2⟩;exact hs i x y pp σ _ (Oa xs q1) (hv2 ys q2) p hn
 .have e:i=xs.length:=by lia
  subst e;exact .inl ⟨⟨xs,q1,aW _⟩,hd σ H p⟩
section
variable {P:Program} {w:World} {K:PySem.W.Frag} {mg:Str->Option Value} {base:Heap}
theorem Cz:aA ["self","house","numbers","side"] ["self","house"] (am OS):=⟨rfl,rfl,rfl,by decide +kernel,rfl,by decide +kernel,by decide +kernel⟩
def CA(K:PySem.W.Frag)(C CB CE:Addr):Sp:=fun vs H Q E=>∃ (L:Addr->Prop) (b:Addr) (ns:List Nat) (x:V) (o:Option Int),vs=[.ref b,x]/\dZ C CB H L b ns/\Wh K H x o/\(a9 o 0 ((pr ns:Int)-1)=false->E (.ref CE) none H)/\∀h:Nat,h<pr ns->o=some (h:Int)->∀ (t:Addr) (H':Hp),az H H'->H' t=some (.tup (NV (ck ns h)))->Q (.ref t) H'
theorem OY{f C CB CE:Addr}{fd:FuncData}(F:eN K "place" "Box.place" OS f fd)(B:Bl mg)(T:NT K mg C)(TB:EV K mg CB)(M:fk P w K mg base (iy P w) 4 C "check_house" ["self","thing"] (qP K C CE)):bj P w K mg base (iy P w) 5 f fd ["self","house"] (CA K C CB CE):=by
 obtain⟨fM,V4,mM,bM,GM⟩:=M.ex;refine F.Mo Cz (fun vs H Q E h=>?_) (fun dt A outer s H vs Q E hr h=>?_)
 .obtain⟨L,b,ns,x,o,rfl,_⟩:=h;rfl
 .obtain⟨L,b,ns,x,o,rfl,⟨BX,dx,pn,sr,hb,N,im⟩,wh,k1,k2⟩:=h;obtain⟨Yh,tl,ol,ds,h1,_⟩:=N.ob;have l5:=BX.l5;refine⟨_,ah (bq (cP (gC (pv 0) rfl) T.cl mM GM hr bM .nil (uD (E':=E) fun _ _ _ z=>z) (aa (pv 1) af)))
   (ah (aO (i:=2) Cz.nd rfl (Or.inl rfl) (dX af))
   (ah (bZ NU rfl (mw (gC (pv 0) rfl)) (au (i:=3) Cz.nd rfl (Or.inl rfl))
    (ah (bq (ig gY jH jG cL (pv 2) (aa (bu jt (pv 1) (pv 3)) af)))
    (ak (o6 (i:=1) Cz.nd rfl (Or.inl rfl) (pv 3) Lc))))
   (ak (aI (cf cr (by rfl) B.tup jI (aa (pv 2) af)))))),?_⟩
  refine⟨_,rfl,b,CB,dx,_,_,rfl,hb,TB.cl,TB.nN,Ho,pn,Yh,_,rfl,h1,S7 _ _ _ _,_,rfl,L,pn,pr ns,_,x,o,rfl,N,wh,k1,fun hw=>?_⟩;obtain⟨h,hh,rfl⟩:=fJ hw;obtain rfl:=pN wh;refine⟨by show 0<=sizeLine;decide,fun D hD=>?_⟩;have s0:=ao (o:=.lst []) hD;refine⟨_,rfl,b,CB,dx,_,_,rfl,s0 _ _ hb,TB.cl,TB.nS,Cy,sr,rfl,⟨_,bz.of (s0 _ _ im)⟩,ln (K:=K) (xs:=NV ns) (fun i σ H2=>(∃x,σ=[some (.ref b),some (.int ((h / pr (ns.take i):Nat):Int)),some (.ref D),x])/\az H H2/\H2 D=some (.lst (NV (ck (ns.take i) h)))) ⟨⟨_,by rw[zH];show _=[_,some (V.int ((h / 1:Nat):Int)),_,_];rw[oQ];rfl⟩,s0,ag⟩ (fun i σ H2 _ z=>bz.of (z.2.1 _ _ im)) ?_ ?_⟩
  .rintro i x σ H2 hx ⟨⟨x',rfl⟩,sm,iA⟩;obtain⟨n,hv,rfl⟩:=qd hx;have hi:i<ns.length:=(cQ.mp hv).1;have hnn:=BX.sd n (cB hv);have tk:ns.take (i+1)=ns.take i++[n]:=by rw[iD,hv];rfl
   rw[tk,sU,jB];have dl:(ck (ns.take i) h).length<=5:=by rw[d_,j6];lia
   refine⟨_,rfl,.inl ⟨rfl,_,bh.of iA⟩,_,rfl,_,rfl,_,_,rfl,rfl,(by show (0:Int)<(n:Int);lia),D,_,_,rfl,rfl,iA,by rw[aY];exact dN dl (by decide),?_⟩;refine⟨_,rfl,_,rfl,_,_,rfl,rfl,⟨by lia,by lia⟩,⟨some (.int n),?_⟩,cx sm hD,?_⟩
   .rw[<-lY];rfl
   .rw[ag,<-gU];rfl
  .rintro σ H2 ⟨⟨x',rfl⟩,sm,iA⟩;rw[aY,et] at iA;exact⟨_,rfl,D,_,rfl,.inl ⟨bh.of iA,fun t ht=>k2 h hh rfl t _ (sm.trans (ao ht)) ag⟩⟩
theorem sX:aA ["self","place","total","step","number","side"] ["self","place"] (am OT):=⟨rfl,rfl,rfl,by decide +kernel,rfl,by decide +kernel,by decide +kernel⟩
def Hv(C CB:Addr):Sp:=fun vs H Q _=>∃ (L:Addr->Prop) (b a:Addr) (ns es:List Nat),vs=[.ref b,.ref a]/\dZ C CB H L b ns/\H a=some (.tup (NV es))/\es.length=ns.length/\(∀i,i<ns.length->es.getD i 0<ns.getD i 0)/\∀H',az H H'->Q (.int (yE ns es:Nat)) H'
theorem OZ{f C CB:Addr}{fd:FuncData}(F:eN K "house" "Box.house" OT f fd)(B:Bl mg)(hz:mg "zip"=none)(TB:EV K mg CB)(R:cy P w K mg base ba 1 "is_row" ["thing","length"] (uQ K))(HO:cy P w K mg base ba 3 "is_house" ["many","thing"] (lu K)):bj P w K mg base ba 4 f fd ["self","place"] (Hv C CB):=by
 refine F.ok sX (fun vs H Q E h=>?_) (fun dt A outer s H vs Q E hr h=>?_)
 .obtain⟨L,b,a,ns,es,rfl,_⟩:=h;rfl
 .obtain⟨L,b,a,ns,es,rfl,⟨BX,dx,pn,sr,hb,N,im⟩,ha,el,lt,q⟩:=h;have h1:bQ 1 _:=hr.mono (by decide);have l5:=BX.l5;refine⟨_,ah (bW (de (c_ (aw R h1 aF (aa (pv 1) (aa (aG aJ (by rfl) B.len dS (aa (gC (pv 0) rfl) af)) af))))) cS aN)
   (ah (aO (i:=2) sX.nd rfl (Or.inl rfl) aB)
   (ah (aO (i:=3) sX.nd rfl (Or.inl rfl) aB)
   (ah (bZ du rfl (Ky rfl hz (aa (pv 1) (aa (gC (pv 0) rfl) af))) (gw (n:=2) rfl (aR (au (i:=4) sX.nd rfl (Or.inl rfl)) (aR (au (i:=5) sX.nd rfl (Or.inl rfl)) eI)))
    (ah (bW (de (c_ (aw HO hr aF (aa (pv 5) (aa (pv 4) af))))) cS aN)
    (ah (o6 (i:=2) sX.nd rfl (Or.inl rfl) (bu o8 (pv 3) (pv 4)) zO)
    (ak (o6 (i:=3) sX.nd rfl (Or.inl rfl) (pv 5) AN)))))
   (ak (aI (pv 2)))))),?_⟩
  refine⟨_,rfl,_,rfl,b,CB,dx,_,_,rfl,hb,TB.cl,TB.nS,Cy,sr,_,rfl,.inr (bz.of im),_,_,_,rfl,.tup ha,_,rfl,gP (by show (!decide (((NV es).length:Int)=((NV ns).length:Int)))=false;rw[aY,aY,el,decide_eq_true rfl];rfl) ?_⟩;refine⟨_,rfl,_,rfl,b,CB,dx,_,_,rfl,hb,TB.cl,TB.nS,Cy,a,sr,_,_,rfl,bz.of ha,bz.of im,by rw[aY,aY];lia,?_⟩;refine Le (K:=K) (xs:=NV es) (ys:=NV ns) (by rw[aY,aY];exact el) (fun i σ H2=>(∃x4 x5,σ=[some (.ref b),some (.ref a),some (.int ((yE (ns.take i) (es.take i):Nat):Int)),some (.int ((pr (ns.take i):Nat):Int)),x4,x5])/\az H H2) ⟨⟨_,_,rfl⟩,az.refl _⟩ (fun i σ H2 _ z=>⟨bz.of (z.2 _ _ ha),bz.of (z.2 _ _ im)⟩) ?_ ?_
  .rintro i x y pp σ H2 hx hy ⟨⟨x4,x5,rfl⟩,sm⟩ hpp;obtain⟨e,he,rfl⟩:=qd hx;obtain⟨n,hn,rfl⟩:=qd hy;have hi:i<ns.length:=(cQ.mp hn).1;have l:=lt i hi;rw[cg,he,cg,hn] at l;have l:e<n:=l;have n8:=BX.sd n (cB hn);have tk:ns.take (i+1)=ns.take i++[n]:=by rw[iD,hn];rfl
   have tk':es.take (i+1)=es.take i++[e]:=by rw[iD,he];rfl
   rw[tk,tk',x_ (by rw[j6,j6,el]),jB];refine⟨pp,_,rfl,bz.of ag,rfl,_,_,rfl,_,_,rfl,rfl,?_⟩;refine⟨_,rfl,_,rfl,_,_,_,rfl,.int _,_,rfl,gP (by rw[dv l];rfl) ?_⟩;refine⟨_,rfl,_,rfl,_,rfl,_,_,rfl,rfl,.inr ⟨by lia,by lia⟩,_,_,rfl,rfl,?_⟩;refine⟨_,rfl,_,rfl,_,_,rfl,rfl,.inr ⟨by lia,by lia⟩,⟨_,_,rfl⟩,sm.trans (ao hpp)⟩
  .rintro σ H2 ⟨⟨x4,x5,rfl⟩,sm⟩;rw[aY,el,et,<-el,et];exact⟨_,rfl,q H2 sm⟩
end
def oV:Option Nat->V
 |none=>.bA
 |some y=>.int (y:Int)
theorem O0(n:Int)(tl ol ds:Addr):(uf n tl ol ds).lookup ("out":Str)=none:=wA n tl ol ds (by decide +kernel) (by decide +kernel) (by decide +kernel) (by decide +kernel)
theorem M0(n:Int)(tl ol ds:Addr):(uf n tl ol ds).lookup ("many":Str)=none:=wA n tl ol ds (by decide +kernel) (by decide +kernel) (by decide +kernel) (by decide +kernel)
def Hw(ns:List Nat)(o o':Option Int):Bool:=a9 o 0 ((pr ns:Int)-1)&&(a9 o' 0 ((pr ns:Int)-1)&&decide ((o.getD 0,o'.getD 0)∈lA ns))
theorem HE{n a b:Nat}{ts:Ts}(F:i_ n ts)(ha:a<n):BI (.int (b:Int)) (NV (dG n ts a))=decide (((a:Int),(b:Int))∈ts):=by
 rw[jR,iC];refine Iff.trans ?_ (eG F ha);unfold BI;rw[vB];constructor
 .rintro⟨v,hv,e⟩;obtain⟨y,hy,rfl⟩:=aQ.mp hv;have:(((y:Nat):Int)==(b:Int))=true\/((b:Int)==((y:Nat):Int))=true:=by first|exact .inl e|exact .inr e
  have:y=b:=by rcases this with t|t <;> simp at t <;> lia
  rw[<-this];exact hy
 .intro hy;exact⟨.int (b:Int),aQ.mpr ⟨b,hy,rfl⟩,by show ((b:Int)==(b:Int))=true;simp⟩
theorem jE{xs:List Nat}:(NV xs).all ie=true:=jO.mpr fun x hx=>by obtain⟨y,_,rfl⟩:=aQ.mp hx;rfl
theorem O1{ns:List Nat}{a b:Int}:(a,b)∈lA ns↔(b,a)∈lA ns:=⟨fun h=>by
 rcases fU.mp h with z|z
 .exact fU.mpr (.inr z)
 .exact fU.mpr (.inl z),fun h=>by
 rcases fU.mp h with z|z
 .exact fU.mpr (.inr z)
 .exact fU.mpr (.inl z)⟩
theorem TD{ns:List Nat}{a b k:Nat}(hk:k<ns.length)(hj:∀j,j<k->(ck ns a).getD j 0=(ck ns b).getD j 0)(ne:(ck ns a).getD k 0≠(ck ns b).getD k 0):jC ns a b=some k:=
 List.find?_range_eq_some.mpr ⟨decide_eq_true ne,cU.mpr hk,fun j h=>by rw[dP (fun z=>z (hj j h))];rfl⟩
theorem TF{ns:List Nat}{a b:Nat}(hj:∀j,j<ns.length->(ck ns a).getD j 0=(ck ns b).getD j 0):jC ns a b=none:=
 rf.mpr fun j h=>by simpa using hj j (cU.mp h)
section
variable {P:Program} {w:World} {K:PySem.W.Frag} {mg:Str->Option Value} {base:Heap}
theorem Yi:aA ["net","one","other"] ["net","one","other"] (am Yg):=⟨rfl,rfl,rfl,by decide +kernel,rfl,by decide +kernel,by decide +kernel⟩
def O2(K:PySem.W.Frag)(C:Addr):Sp:=fun vs H Q _=>∃ (L:Addr->Prop) (p:Addr) (ns:List Nat) (x y:V) (o o':Option Int),vs=[.ref p,x,y]/\ff C H L p (pr ns) (lA ns)/\AU K H x o/\AU K H y o'/\∀H',az H H'->Q (.bl (Hw ns o o')) H'
theorem TH{f C CE:Addr}{fd:FuncData}(F:eN K "are_tied" "are_tied" Yg f fd)(T:NT K mg C)(HO:cy P w K mg base ba 3 "is_house" ["many","thing"] (lu K))(MM:fk P w K mg base ba 1 C "many" ["self"] (AM C))(MO:fk P w K mg base (iy P w) 5 C "out" ["self","house"] (Cp K C CE KR)):bj P w K mg base ba 6 f fd ["net","one","other"] (O2 K C):=by
 obtain⟨fM,V4,mM,bM,GM⟩:=MM.ex;obtain⟨fO,yF,mO,bO,GO⟩:=MO.ex;refine F.ok Yi (fun vs H Q E h=>?_) (fun dt A outer s H vs Q E hr h=>?_)
 .obtain⟨L,p,ns,x,y,o,o',rfl,_⟩:=h;rfl
 .obtain⟨L,p,ns,x,y,o,o',rfl,N,wx,wy,q⟩:=h;have h1:bQ 1 _:=hr.mono (by decide);have h3:bQ 3 _:=hr.mono (by decide);refine⟨_,(ah (bW (PW.pt (xm (de (c_ (aw HO h3 aF (aa (rW (pv 0) T.cl mM GM h1 bM .nil aF) (aa (pv 1) af))))) (rQ (de (c_ (aw HO h3 aF (aa (rW (pv 0) T.cl mM GM h1 bM .nil aF) (aa (pv 2) af)))))))) (ak (aI kD)) aN)
   (ak (aI (mr (ju fE (pv 2) (cP (pv 0) T.cl mO GO hr bO .nil kL (aa (pv 1) af)) rfl) (o5 (ju fE (pv 1) (cP (pv 0) T.cl mO GO hr bO .nil kL (aa (pv 2) af)) rfl)))))),?_⟩
  obtain⟨dx,tl,ol,ds,hN,_⟩:=N.ob;have Fi:=N.pM;refine⟨_,rfl,p,dx,_,rfl,hN,M0 _ _ _ _,L,p,pr ns,_,rfl,N,_,rfl,x,o,_,rfl,wx _ (az.refl _),_,rfl,?_⟩;cases hw:a9 o 0 ((pr ns:Int)-1) with
  |false=>exact gD (gD (by have:=q H (az.refl _);unfold Hw at this;rw[hw] at this;exact this))
  |true=>
  refine eX ⟨_,rfl,p,dx,_,rfl,hN,M0 _ _ _ _,L,p,pr ns,_,rfl,N,_,rfl,y,o',_,rfl,wy _ (az.refl _),_,rfl,?_⟩;cases yD:a9 o' 0 ((pr ns:Int)-1) with
  |false=>exact gD (by have:=q H (az.refl _);unfold Hw at this;rw[hw,yD] at this;exact this)
  |true=>
  refine eX ?_;obtain⟨a,ha,rfl⟩:=fJ hw;obtain⟨b,hb,rfl⟩:=fJ yD;obtain rfl:=pN (wx _ (az.refl _));obtain rfl:=pN (wy _ (az.refl _));refine⟨_,rfl,_,rfl,p,dx,_,rfl,hN,O0 _ _ _ _,_,rfl,L,p,pr ns,_,_,_,rfl,N,.int _,(fun z=>by rw[hw] at z;cases z),fun i hi e r H1 s1 AL Yj=>?_⟩;cases e;refine⟨r,_,rfl,.inl (bh.of Yj),rfl,jE,_,rfl,?_⟩;have e1:(if false=true then !BI (V.int (b:Int)) (NV (dG (pr ns) (lA ns) a)) else BI (V.int (b:Int)) (NV (dG (pr ns) (lA ns) a)))=decide (((a:Int),(b:Int))∈lA ns):=HE Fi ha;rw[e1];have q':∀H',az H H'->Q (.bl (decide (((a:Int),(b:Int))∈lA ns))) H':=fun H' s'=>by have:=q H' s';unfold Hw at this;rw[hw,yD] at this;exact this
  cases ht:decide (((a:Int),(b:Int))∈lA ns) with
  |false=>
   rw[ht] at q';exact eX (q' H1 s1)
  |true=>
   rw[ht] at q';refine gD ⟨_,rfl,_,rfl,p,dx,_,rfl,s1 _ _ hN,O0 _ _ _ _,_,rfl,L,p,pr ns,_,_,_,rfl,N.same s1,.int _,(fun z=>by rw[yD] at z;cases z),fun i hi e r2 H2 s2 EU Eg=>?_⟩;cases e;refine⟨r2,_,rfl,.inl (bh.of Eg),rfl,jE,?_⟩;have e2:(if false=true then !BI (V.int (a:Int)) (NV (dG (pr ns) (lA ns) b)) else BI (V.int (a:Int)) (NV (dG (pr ns) (lA ns) b)))=true:=(HE Fi hb).trans (decide_eq_true (O1.mp (dA ht)));rw[e2];exact q' H2 (s1.trans s2)
theorem CC:aA ["self","house","home","here","there","k"] ["self","house","home"] (am OV):=⟨rfl,rfl,rfl,by decide +kernel,rfl,by decide +kernel,by decide +kernel⟩
def ya(K:PySem.W.Frag)(C CB CE:Addr):Sp:=fun vs H Q E=>∃ (L:Addr->Prop) (b:Addr) (ns:List Nat) (x y:V) (o o':Option Int),vs=[.ref b,x,y]/\dZ C CB H L b ns/\AU K H x o/\AU K H y o'/\(a9 o 0 ((pr ns:Int)-1)=false\/a9 o' 0 ((pr ns:Int)-1)=false->∀H',az H H'->E (.ref CE) none H')/\∀h g:Nat,h<pr ns->g<pr ns->o=some (h:Int)->o'=some (g:Int)->∀H',az H H'->Q (oV (jC ns h g)) H'
theorem O4{f C CB CE:Addr}{fd:FuncData}(F:eN K "phase" "Box.phase" OV f fd)(B:Bl mg)(TB:EV K mg CB)(M:fk P w K mg base (iy P w) 5 CB "place" ["self","house"] (CA K C CB CE)):bj P w K mg base (iy P w) 6 f fd ["self","house","home"] (ya K C CB CE):=by
 obtain⟨fM,V4,mM,bM,GM⟩:=M.ex;refine F.Mo CC (fun vs H Q E h=>?_) (fun dt A outer s H vs Q E hr h=>?_)
 .obtain⟨L,b,ns,x,y,o,o',rfl,_⟩:=h;rfl
 .obtain⟨L,b,ns,x,y,o,o',rfl,BA,wx,wy,k1,k2⟩:=h;obtain⟨dx,pn,sr,hb,N,im⟩:=BA.ob;have l5:=BA.bx.l5;refine⟨_,ah (aO (i:=3) CC.nd rfl (Or.inl rfl) (cP (pv 0) TB.cl mM GM hr bM .nil (uD (E':=E) fun _ _ _ z=>z) (aa (pv 1) af)))
   (ah (aO (i:=4) CC.nd rfl (Or.inl rfl) (cP (pv 0) TB.cl mM GM hr bM .nil (uD (E':=E) fun _ _ _ z=>z) (aa (pv 2) af)))
   (ah (bZ NU rfl (ce rfl B.range (aa (aG aJ (by rfl) B.len dS (aa (pv 3) af)) af)) (au (i:=5) CC.nd rfl (Or.inl rfl))
    (ak (bW (aK xp (bg cp (pv 3) (pv 5) (fun _ _=>rfl)) (bg cp (pv 4) (pv 5) (fun _ _=>rfl)) (be _)) (ak (aI (pv 5))) aN)))
   (ak (aI dC)))),?_⟩
  refine⟨_,rfl,b,dx,_,rfl,hb,n9,_,rfl,L,b,ns,x,o,rfl,BA,wx _ (az.refl _),(fun z=>k1 (.inl z) _ (az.refl _)),fun h hh e t1 H1 s1 Yk=>?_⟩;subst e;refine⟨_,rfl,b,dx,_,rfl,s1 _ _ hb,n9,_,rfl,L,b,ns,y,o',rfl,BA.same s1,wy _ s1,(fun z=>k1 (.inr z) _ s1),fun g hg e t2 H2 s2 Rb=>?_⟩;subst e;have TJ:=s2 _ _ Yk;have jZ:=s1.trans s2;have dl:(NV (ck ns h)).length=ns.length:=by rw[aY,d_]
  refine⟨_,rfl,t1,_,rfl,.inr (bz.of TJ),_,rfl,by lia,by rw[dl];lia,?_⟩;rw[dl];refine d8 (n:=ns.length) (lo:=0) (fun k σ H3=>H3=H2/\(∃z,σ=[some (.ref b),some x,some y,some (.ref t1),some (.ref t2),z])/\∀j,j<k->(ck ns h).getD j 0=(ck ns g).getD j 0) ⟨rfl,⟨_,rfl⟩,fun j hj=>absurd hj (jQ _)⟩ ?_ ?_
  .rintro k σ _ hk ⟨rfl,⟨z,rfl⟩,hj⟩;rw[eU];refine⟨_,rfl,_,rfl,t1,_,_,_,rfl,rfl,bz.of TJ,aD (fW hk),_,rfl,_,rfl,t2,_,_,_,rfl,rfl,bz.of Rb,aD (fW hk),rfl,_,rfl,?_⟩;by_cases c:(ck ns h).getD k 0=(ck ns g).getD k 0
   .rw[c,decide_eq_true rfl];exact eX ⟨rfl,⟨_,rfl⟩,fun j QY=>by
     rcases vg.mp QY with z|z
     .exact hj j z
     .rw[z];exact c⟩
   .rw[dP (fun z=>c (by injection z with z;exact cV z))];refine gD ⟨_,rfl,?_⟩;have:=k2 h g hh hg rfl rfl _ jZ;rw[TD hk hj c] at this;exact this
  .rintro σ _ ⟨rfl,⟨z,rfl⟩,hj⟩;have:=k2 h g hh hg rfl rfl _ jZ;rw[TF hj] at this;exact this
end
end ue
namespace L2
open PySem PySem.Spec PyProof.Rows
theorem HG{X:Cx}:RK X (fun o i H Q=>∃p xs v,∃k:Nat,o=.ref p/\i=.int (k:Int)/\H p=some (.lst xs)/\xs[k]?=some v/\Q v H):=by
 intro ae s σ H o i ov iv Q I ro ri h;obtain⟨p,xs,v,k,rfl,rfl,hp,hv,q⟩:=h;cases ro;obtain⟨t,rfl⟩:=ri;obtain⟨its,r,pl,hz⟩:=I.list (bh.of hp);have hk:=(cQ.mp hv).1;obtain⟨w,ew,Df⟩:=r.get hv;have hl:=r.length;have hn:=rT;exact PySem.wpAny_getItem_list pl.isList (by lia) (by lia) (by simpa using ew) ⟨v,H,I,Df,q⟩
end L2
namespace ue
open PySem L2 jW
theorem Lf{ns:List Nat}{o o':Option Int}(h:Hw ns o o'=true):∃a b:Nat,a<pr ns/\b<pr ns/\o=some (a:Int)/\o'=some (b:Int)/\((a:Int),(b:Int))∈lA ns:=by
 unfold Hw at h;obtain⟨h1,h2⟩:=Bool.and_eq_true_iff.mp h;obtain⟨h4,h3⟩:=Bool.and_eq_true_iff.mp h2;obtain⟨a,ha,rfl⟩:=fJ h1;obtain⟨b,hb,rfl⟩:=fJ h4;exact⟨a,b,ha,hb,rfl,rfl,dA h3⟩
theorem O5{ns:List Nat}{a b k:Nat}(hp:∀x∈ns,0<x)(ha:a<pr ns)(h:jC ns a b=some k):AS ns a b=some (yE ns ((ck ns a).set k (if (ck ns a).getD k 0<(ck ns b).getD k 0 then (ck ns a).getD k 0+1 else (ck ns a).getD k 0-1))):=by
 obtain⟨hk,ne⟩:=jD h;unfold AS;rw[h,zx];refine congrArg some ?_;have e:=Cu (ns:=ns) (ds:=ck ns a) (k:=k) (v:=if (ck ns a).getD k 0<(ck ns b).getD k 0 then (ck ns a).getD k 0+1 else (ck ns a).getD k 0-1) d_.symm (by rw[d_];exact hk);rw[qQ ha] at e;by_cases c:(ck ns a).getD k 0<(ck ns b).getD k 0
 .rw[ai c] at e |-;rw[ai c];rw[iR,kq] at e;lia
 .rw[ap c] at e |-;rw[ap c];have h1:(ck ns a).getD k 0=((ck ns a).getD k 0-1)+1:=by lia
  rw[h1,iR,kq,zc] at e;lia
section
variable {P:Program} {w:World} {K:PySem.W.Frag} {mg:Str->Option Value} {base:Heap}
theorem TK:aA ["self","one","other"] ["self","one","other"] (am OU):=⟨rfl,rfl,rfl,by decide +kernel,rfl,by decide +kernel,by decide +kernel⟩
def yb(K:PySem.W.Frag)(C CB CT:Addr):Sp:=fun vs H Q E=>∃ (L:Addr->Prop) (b:Addr) (ns:List Nat) (x y:V) (o o':Option Int),vs=[.ref b,x,y]/\dZ C CB H L b ns/\AU K H x o/\AU K H y o'/\(Hw ns o o'=false->∀H',az H H'->E (.ref CT) none H')/\∀h g:Nat,h<pr ns->g<pr ns->o=some (h:Int)->o'=some (g:Int)->Hw ns o o'=true->∀H',az H H'->Q (oV (jC ns h g)) H'
theorem O6{f C CB CE CT:Addr}{fd:FuncData}(F:eN K "way" "Box.way" OU f fd)(TB:EV K mg CB)(e:Er K mg "NoTie" CT)(AT:cy P w K mg base ba 6 "are_tied" ["net","one","other"] (O2 K C))(M:fk P w K mg base (iy P w) 6 CB "phase" ["self","house","home"] (ya K C CB CE)):bj P w K mg base (iy P w) 7 f fd ["self","one","other"] (yb K C CB CT):=by
 obtain⟨fM,V4,mM,bM,GM⟩:=M.ex;refine F.Mo TK (fun vs H Q E h=>?_) (fun dt A outer s H vs Q E hr h=>?_)
 .obtain⟨L,b,ns,x,y,o,o',rfl,_⟩:=h;rfl
 .obtain⟨L,b,ns,x,y,o,o',rfl,BA,wx,wy,k1,k2⟩:=h;obtain⟨dx,pn,sr,hb,N,im⟩:=BA.ob;refine⟨_,ah (bW (de (c_ (aw AT hr aF (aa (gC (pv 0) rfl) (aa (pv 1) (aa (pv 2) af)))))) (ak (kM (q:=fun H1=>E (.ref CT) none H1) rfl e.ok rfl e.at_ (aa rP af) (fun _ _ _ _ _ _ _ I m q=>kK I m q))) aN)
   (ak (aI (cP (pv 0) TB.cl mM GM hr bM .nil kL (aa (pv 1) (aa (pv 2) af))))),?_⟩
  refine⟨_,rfl,b,CB,dx,_,_,rfl,hb,TB.cl,TB.nN,Ho,_,rfl,_,rfl,L,pn,ns,x,y,o,o',rfl,N,wx,wy,fun H1 s1=>⟨_,rfl,?_⟩⟩;cases ha:Hw ns o o' with
  |false=>exact gD ⟨by show 1<=sizeLine;decide,k1 ha H1 s1⟩
  |true=>
   refine eX ?_;obtain⟨h,g,hh,hg,rfl,rfl,_⟩:=Lf ha;exact⟨_,rfl,b,dx,_,rfl,s1 _ _ hb,sW,_,rfl,_,rfl,L,b,ns,x,y,_,_,rfl,BA.same s1,fun H' s'=>wx H' (s1.trans s'),fun H' s'=>wy H' (s1.trans s'),(fun z=>by rcases z with z|z <;> (rw[dv (by assumption)] at z;cases z)),fun h' g' hh' hg' e1 e2 H' s'=>k2 h' g' hh' hg' e1 e2 ha H' (s1.trans s')⟩
theorem HI:aA ["self","house","home","k","numbers"] ["self","house","home"] (am OW):=⟨rfl,rfl,rfl,by decide +kernel,rfl,by decide +kernel,by decide +kernel⟩
def CD(K:PySem.W.Frag)(C CB CE:Addr):Sp:=fun vs H Q E=>∃ (L:Addr->Prop) (b:Addr) (ns:List Nat) (x y:V) (o o':Option Int),vs=[.ref b,x,y]/\dZ C CB H L b ns/\AU K H x o/\AU K H y o'/\(a9 o 0 ((pr ns:Int)-1)=false\/a9 o' 0 ((pr ns:Int)-1)=false->∀H',az H H'->E (.ref CE) none H')/\∀h g:Nat,h<pr ns->g<pr ns->o=some (h:Int)->o'=some (g:Int)->∀H',az H H'->Q (oV (AS ns h g)) H'
theorem O7{f C CB CE:Addr}{fd:FuncData}(F:eN K "wish" "Box.wish" OW f fd)(B:Bl mg)(TB:EV K mg CB)(MF:fk P w K mg base (iy P w) 6 CB "phase" ["self","house","home"] (ya K C CB CE))(MP:fk P w K mg base (iy P w) 5 CB "place" ["self","house"] (CA K C CB CE))(MH:fk P w K mg base ba 4 CB "house" ["self","place"] (Hv C CB)):bj P w K mg base (iy P w) 7 f fd ["self","house","home"] (CD K C CB CE):=by
 obtain⟨fF,fdF,mF,bF,GF⟩:=MF.ex;obtain⟨fP,fdP,mP,bP,GP⟩:=MP.ex;obtain⟨fH,fdH,mH,bH,GH⟩:=MH.ex;refine F.Mo HI (fun vs H Q E h=>?_) (fun dt A outer s H vs Q E hr h=>?_)
 .obtain⟨L,b,ns,x,y,o,o',rfl,_⟩:=h;rfl
 .obtain⟨L,b,ns,x,y,o,o',rfl,BA,wx,wy,k1,k2⟩:=h;obtain⟨dx,pn,sr,hb,N,im⟩:=BA.ob;have h5:bQ 5 _:=hr.mono (by decide);have h4:bQ 4 _:=hr.mono (by decide);refine⟨_,ah (aO (i:=3) HI.nd rfl (Or.inl rfl) (cP (pv 0) TB.cl mF GF hr bF .nil (uD (E':=E) fun _ _ _ z=>z) (aa (pv 1) (aa (pv 2) af))))
   (ah (bW (aK o_ (pv 3) dC (be _)) (ak (aI dC)) aN)
   (ah (aO (i:=4) HI.nd rfl (Or.inl rfl) (cf nJ (by rfl) B.lst qX (aa (cP (pv 0) TB.cl mP GP h5 bP .nil kL (aa (pv 1) af)) af)))
   (ah (JC (pv 4) (pv 3) HG (kF (aK rS (bg bD (pv 4) (pv 3) (fun _ _=>rfl)) (bg cp (cP (pv 0) TB.cl mP GP h5 bP .nil kL (aa (pv 2) af)) (pv 3) (fun _ _=>rfl)) (be _)) aB (ur o9 aB)) zO ge)
   (ak (aI (cP (pv 0) TB.cl mH GH h4 bH .nil aF (aa (cf cr (by rfl) B.tup jI (aa (pv 4) af)) af))))))),?_⟩
  refine⟨_,rfl,b,dx,_,rfl,hb,sW,_,rfl,_,rfl,L,b,ns,x,y,o,o',rfl,BA,wx,wy,k1,fun h g hh hg e1 e2 H1 s1=>?_⟩;subst e1;subst e2;have BX:=BA.bx;refine lQ (fun σ Hx=>H1=Hx/\σ=[some (.ref b),some x,some y,some (oV (jC ns h g)),none]) ?_ (fun N hN=>hN _ _ ⟨rfl,rfl⟩);rintro σ _ ⟨rfl,rfl⟩;refine lQ (fun σ Hx=>H1=Hx/\∃k,jC ns h g=some k/\σ=[some (.ref b),some x,some y,some (.int (k:Int)),none]) ?_ ?_
  rotate_left
  .intro N hN;cases hp:jC ns h g with
   |none=>
    refine⟨_,rfl,rfl,_,rfl,gD ?_⟩;have:=k2 h g hh hg rfl rfl H1 s1;unfold AS at this;rw[hp] at this;exact this
   |some k=>exact⟨_,rfl,rfl,_,rfl,gP rfl (hN _ _ ⟨rfl,k,hp,rfl⟩)⟩
  rintro σ _ ⟨rfl,k,hp,rfl⟩;obtain⟨hk,ne⟩:=jD hp;refine lQ (fun σ H3=>∃D,σ=[some (.ref b),some x,some y,some (.int (k:Int)),some (.ref D)]/\az H H3/\H D=none/\H3 D=some (.lst (NV (ck ns h)))) ?_ ?_
  rotate_left
  .intro N hN;refine⟨_,rfl,b,dx,_,rfl,s1 _ _ hb,n9,_,rfl,L,b,ns,x,_,rfl,BA.same s1,wx _ s1,(fun z=>by rw[dv hh] at z;cases z),fun h' _ e t1 H2 s2 Yk=>?_⟩;obtain rfl:h=h':=cV (bi e);exact⟨t1,_,rfl,.inr (bz.of Yk),fun D hD=>hN _ _ ⟨D,rfl,(s1.trans s2).trans (ao hD),(s1.trans s2).free hD,ag⟩⟩
  rintro σ H3 ⟨D,rfl,s3,nD,hD⟩;refine lQ (fun σ H5=>σ=[some (.ref b),some x,some y,some (.int (k:Int)),some (.ref D)]/\az H H5/\H5 D=some (.lst (NV ((ck ns h).set k (if (ck ns h).getD k 0<(ck ns g).getD k 0 then (ck ns h).getD k 0+1 else (ck ns h).getD k 0-1))))) ?_ ?_
  rotate_left
  .intro N hN;refine⟨_,rfl,_,rfl,D,_,_,k,rfl,rfl,hD,fW hk,_,rfl,_,rfl,D,_,_,_,rfl,rfl,bh.of hD,aD (fW hk),?_⟩;refine⟨_,rfl,b,dx,_,rfl,s3 _ _ hb,n9,_,rfl,L,b,ns,y,_,rfl,BA.same s3,wy _ s3,(fun z=>by rw[dv hg] at z;cases z),fun g' _ e t2 H4 s4 Rb=>?_⟩;obtain rfl:g=g':=cV (bi e);have ix:EM (NV (ck ns h)).length (k:Int)=some k:=gR (by rw[aY,d_];exact hk);have st:∀v:Nat,(NV (ck ns h)).set k (.int (v:Int))=NV ((ck ns h).set k v):=fun v=>(List.map_set).symm;refine⟨_,rfl,t2,_,_,_,rfl,rfl,bz.of Rb,aD (fW hk),_,_,rfl,rfl,_,rfl,gG (fun c=>?_) (fun c=>?_)⟩
   .have c:=dA c;refine⟨_,_,rfl,rfl,D,_,_,k,rfl,rfl,s4 _ _ hD,ix,hN _ _ ⟨rfl,cx (s3.trans s4) nD,?_⟩⟩;rw[ai (by lia),ag];exact congrArg (fun l=>some (HO.lst l)) (st ((ck ns h).getD k 0+1))
   .have c:¬ (((ck ns h).getD k 0:Nat):Int)<(((ck ns g).getD k 0:Nat):Int):=fun z=>c (decide_eq_true z);refine⟨_,rfl,_,_,rfl,rfl,D,_,_,k,rfl,rfl,s4 _ _ hD,ix,hN _ _ ⟨rfl,cx (s3.trans s4) nD,?_⟩⟩;rw[ap (by lia),ag];refine congrArg (fun l=>some (HO.lst l)) ?_;rw[<-st];exact congrArg (fun z=>(NV (ck ns h)).set k (V.int z)) (show (((ck ns h).getD k 0:Nat):Int)+-1=(((ck ns h).getD k 0-1:Nat):Int) by lia)
  rintro σ H5 ⟨rfl,s5,tQ⟩;refine⟨_,rfl,b,dx,_,rfl,s5 _ _ hb,Ht,_,rfl,D,_,rfl,.inl ⟨bh.of tQ,fun t ht=>?_⟩⟩;have lh:=mU (h:=h) BX.pos hk;have lg:=mU (h:=g) BX.pos hk;refine⟨L,b,t,ns,_,rfl,(BA.same s5).same (ao ht),ag,by rw[vE,d_],fun i hi=>?_,fun H' s'=>?_⟩
  .rw[cg,List.getElem?_set];by_cases c:k=i
   .subst c;rw[ai rfl,ai (by rw[d_];exact hk),Option.getD_some];split <;> lia
   .rw[ap c,<-cg];exact mU BX.pos hi
  .have:=k2 h g hh hg rfl rfl H' ((s5.trans (ao ht)).trans s');rw[O5 BX.pos hh hp] at this;exact this
end
abbrev O8:Stmt:=fV 49
abbrev Yl:Stmt:=fV 50
structure Bl2(mg:Str->Option Value):Prop where
 abs:mg "abs"=none
 divmod:mg "divmod"=none
 dict:mg "dict"=none
 zip:mg "zip"=none
 repr:mg "repr"=none
def cN(H:Hp)(p:Addr):Prop:=∃a b:Int,H p=some (.lst [.int a,.int b])/\0<=a/\0<=b/\b<4294967296
theorem cN.same{H H':Hp}{p:Addr}(h:cN H p)(s:az H H'):cN H' p:=let ⟨a,b,e,r⟩:=h;⟨a,b,s _ _ e,r⟩
theorem cN.full{H:Hp}{p:Addr}(h:cN H p):H p≠none:=by obtain⟨a,b,e,_⟩:=h;rw[e];intro z;cases z
theorem cN.ne{H:Hp}{p q:Addr}(h:cN H p)(e:H q=none):q≠p:=by rintro rfl;exact h.full e
theorem cN.put{H:Hp}{p q:Addr}{o:HO}(h:cN H p)(n:p≠q):cN (upd H q o) p:=let ⟨a,b,e,r⟩:=h;⟨a,b,by rw[al n];exact e,r⟩
theorem cN.neT{H:Hp}{p q:Addr}{xs:List V}(h:cN H p)(e:H q=some (.tup xs)):q≠p:=by rintro rfl;obtain⟨a,b,z,_⟩:=h;rw[e] at z;cases z
theorem PO.gQ{H H':Hp}{p:Addr}{zs:Zs}(h:PO H zs)(s:cz p H H')(hp:cN H p):PO H' zs:=fun z hz=>s _ _ (h z hz) (hp.neT (h z hz))
theorem Ym{j:Int}(h1:0<j)(h2:j<2 ^ 200):Nat.log2 j.natAbs<200:=(Nat.log2_lt (by lia)).mpr (by lia)
theorem wI{X:Cx}:gb X (.builtin "divmod") (fun xs H Q=>∃i j,xs=[.int i,.int j]/\(0<j/\j<2 ^ 200)/\∀p,H p=none->Q (.ref p) (upd H p (.tup [.int (i / j),.int (i % j)]))):=by
 intro ae s σ H xs us Q I r h;obtain⟨i,j,rfl,⟨h1,h2⟩,q⟩:=h;obtain⟨u,w',rfl,⟨t,rfl⟩,⟨t',rfl⟩⟩:=Fv r;refine PyProof.Rows.divmod_int (by lia) ?_ (.inl (PyProof.noPylong_of_log2 (vS (Ym h1 h2) (by decide))));rw[vc i (by lia),yI i (by lia)];have hn:H s.heap.objs.size=none:=I.bU.fresh (aW _);refine⟨.ref s.heap.objs.size,_,?_,rfl,q _ hn⟩;refine I.laid (fun b o e=>bp _ e) (aW _) ⟨by simp only[cD,List.length_nil];rw[kr];decide,[.int (i / j) s.toks,.int (i % j) (s.toks+1)],.cons ⟨_,rfl⟩ (.cons ⟨_,rfl⟩ .nil),?_⟩;exact⟨_,bR s.heap rfl,rfl,0,rfl,rfl⟩
theorem O9{X:Cx}:lH X (binaryOp .RShift) (rI (fun i j=>0<=j/\((2 ^ j.toNat:Nat):Int)<=i) fun i j=>.int (i / ((2 ^ j.toNat:Nat):Int))):=QP fun i j _ _ _ _ _ hc q=>by
 have h1:0<=j:=hc.1;have h2:((2 ^ j.toNat:Nat):Int)<=i:=hc.2;have h3:0<2 ^ j.toNat:=Nat.two_pow_pos _;refine PySem.AutoIntOps.rshift_2 (by lia) (fun z=>?_) ?_
 .have n0:i.natAbs≠0:=by lia
  have:¬ i.natAbs.log2<j.toNat:=fun y=>by
   have:=(Nat.log2_lt n0).mp y;lia
  unfold Builtin.Int.intBits at z;rw[ap (by simp;lia)] at z;lia
 .rw[vc i (Int.pow_nonneg (by decide)),show (2:Int) ^ j.toNat=((2 ^ j.toNat:Nat):Int) by rw[Int.natCast_pow];rfl];exact q
section
variable {P:Program} {w:World} {K:PySem.W.Frag} {mg:Str->Option Value} {base:Heap}
theorem HJ:aA ["_law_script","_law_k","_law_cell"] ["_law_script","_law_k"] (am O8):=⟨rfl,rfl,rfl,by decide +kernel,rfl,by decide +kernel,by decide +kernel⟩
def HK(K:PySem.W.Frag):Sp:=fun vs H Q _=>∃ (a:Addr) (ns:List Int) (k:Nat),vs=[.ref a,.int k]/\bh K H a (ns.map V.int)/\k<64/\∀ (r:Addr) (H':Hp),az H H'->H r=none->cN H' r->Q (.ref r) H'
theorem O_{f:Addr}{fd:FuncData}(F:eN K "_law_pot" "_law_pot" O8 f fd)(B:Bl mg):bj P w K mg base ba 1 f fd ["_law_script","_law_k"] (HK K):=by
 refine F.ok HJ (fun vs H Q E h=>?_) (fun dt A outer s H vs Q E hr h=>?_)
 .obtain⟨a,ns,k,rfl,_⟩:=h;rfl
 .obtain⟨a,ns,k,rfl,hS,hk,q⟩:=h;refine⟨_,(ah (aO (i:=2) HJ.nd rfl (Or.inl rfl) aB)
   (ah (bW (aK rS (pv 1) (aG aJ (by rfl) B.len dS (aa (pv 0) af)) (be _)) (ak (aO (i:=2) HJ.nd rfl (Or.inl rfl) (bg bD (pv 0) (pv 1) (fun _ _=>rfl)))) aN)
   (ak (aI (dX (aa (aG (ut rfl) (by rfl) B.max PyProof.Rows.boot_max (aa aB (aa (bu mx (pv 2) (bu Fm aB aB)) af))) (aa (bu eM (bu jt (bu Fm (bu eM (bu jt (pv 2) aB) (bu o8 aB (bu eM (pv 1) aB))) aB) aB) aB) af))))))),?_⟩
  refine lQ (fun σ Hc=>H=Hc/\σ=[some (.ref a),some (.int k),some (.int 0)]) ?_ (fun N hN=>hN _ _ ⟨rfl,rfl⟩);rintro σ _ ⟨rfl,rfl⟩;refine lQ (fun σ Hc=>H=Hc/\∃c:Int,σ=[some (.ref a),some (.int k),some (.int c)]) ?_ ?_
  rotate_left
  .intro N hN;refine⟨_,rfl,_,rfl,a,_,rfl,.inl hS,_,_,rfl,rfl,_,rfl,gG (fun e=>?_) (fun e=>hN _ _ ⟨rfl,0,rfl⟩)⟩;have e:k<ns.length:=by have:=dA e;rw[aV] at this;lia
   exact⟨_,rfl,_,rfl,a,_,_,_,rfl,rfl,hS,aD (by rw[bv,cJ e];rfl),hN _ _ ⟨rfl,_,rfl⟩⟩
  rintro σ _ ⟨rfl,c,rfl⟩;have m0:0<=c % 2147483629:=oM _ (by decide);have m1:c % 2147483629<2147483629:=oG _ (by decide);refine⟨_,rfl,_,_,rfl,rfl,⟨by decide,by decide,by decide⟩,_,_,rfl,rfl,0,_,rfl,_,rfl,_,_,rfl,rfl,(by show (0:Int)<2147483629;decide),_,rfl,_,_,rfl,rfl,_,_,rfl,rfl,.inl ⟨by decide,by decide⟩,_,_,rfl,rfl,_,_,rfl,rfl,⟨by decide,by decide,by show (c % 2147483629+40503*((k:Int)+1)).natAbs<2 ^ 64;lia⟩,_,_,rfl,rfl,(by show (0:Int)<2147483563;decide),_,_,rfl,rfl,by show 2<=sizeLine;decide,fun r EO=>?_⟩;have v0:0<=(c % 2147483629+40503*((k:Int)+1)) ^ Int.toNat 3 % 2147483563:=oM _ (by decide);have v1:(c % 2147483629+40503*((k:Int)+1)) ^ Int.toNat 3 % 2147483563<2147483563:=oG _ (by decide);refine q r _ (ao EO) EO ⟨_,_,ag,by split <;> lia,?_,?_⟩
  .show 0<=(c % 2147483629+40503*((k:Int)+1)) ^ Int.toNat 3 % 2147483563+1;generalize (c % 2147483629+40503*((k:Int)+1)) ^ Int.toNat 3 % 2147483563=z at *;lia
  .show (c % 2147483629+40503*((k:Int)+1)) ^ Int.toNat 3 % 2147483563+1<_;generalize (c % 2147483629+40503*((k:Int)+1)) ^ Int.toNat 3 % 2147483563=z at *;lia
theorem TN:aA ["_law_pot_here","_law_many_here","_law_digit"] ["_law_pot_here","_law_many_here"] (am Yl):=⟨rfl,rfl,rfl,by decide +kernel,rfl,by decide +kernel,by decide +kernel⟩
def Ej:Sp:=fun vs H Q _=>∃ (p:Addr) (m:Nat),vs=[.ref p,.int m]/\0<m/\m<2 ^ 200/\cN H p/\∀ (d:Nat) (H':Hp),d<m->cz p H H'->cN H' p->Q (.int d) H'
theorem TQ{f:Addr}{fd:FuncData}(F:eN K "_law_draw" "_law_draw" Yl f fd)(B2:Bl2 mg):bj P w K mg base ba 1 f fd ["_law_pot_here","_law_many_here"] Ej:=by
 refine F.ok TN (fun vs H Q E h=>?_) (fun dt A outer s H vs Q E hr h=>?_)
 .obtain⟨p,m,rfl,_⟩:=h;rfl
 .obtain⟨p,m',rfl,m0',m1',⟨a,b,hp,a0,b0,b1⟩,q'⟩:=h;generalize hm:((m':Nat):Int)=m;have m0:0<m:=by lia
  have m1:m<2 ^ 200:=by lia
  have q:∀ (d a b:Int) (H':Hp),0<=d->d<m->0<=a->0<=b->b<4294967296->cz p H H'->H' p=some (.lst [.int a,.int b])->Q (.int d) H':=fun d a b H' h1 h2 h3 h4 h5 h6 h7=>by
   have:=q' d.toNat H' (by lia) h6 ⟨a,b,h7,h3,h4,h5⟩;rw[Int.toNat_of_nonneg h1] at this;exact this
  refine⟨_,(ah (bW (aK Br (bg bD (pv 0) aB (fun _ _=>rfl)) aB (be _)) (ah (ic (aG wI (by rfl) B2.divmod PyProof.Rows.boot_divmod (aa (bg bD (pv 0) aB (fun _ _=>rfl)) (aa (pv 1) af))) (gw (n:=2) rfl (aR (mv (pv 0) aB ge) (aR (au (i:=2) TN.nd rfl (Or.inl rfl)) eI))))
    (ak (aI (pv 2)))) aN)
   (ah (ic (bu jt (bu eM (bu o8 (bg bD (pv 0) aB (fun _ _=>rfl)) aB) aB) aB) (mv (pv 0) aB ge))
   (ak (aI (bu jt (bu qF (bu jt (bu o8 (bg bD (pv 0) aB (fun _ _=>rfl)) (bg bD (pv 0) aB (fun _ _=>rfl))) aB) aB) (pv 1)))))),?_⟩
  have g0:FF [V.int a,V.int b] 0=some (.int a):=aD (j:=0) rfl;have g1:FF [V.int a,V.int b] 1=some (.int b):=aD (j:=1) rfl;refine⟨_,rfl,p,_,_,_,rfl,rfl,bh.of hp,g0,_,_,rfl,rfl,_,rfl,?_⟩;refine gG (fun e=>?_) (fun e=>?_)
  .refine⟨_,rfl,p,_,_,_,rfl,rfl,bh.of hp,g0,_,rfl,_,_,rfl,⟨m0,by lia⟩,fun t ht=>?_⟩;have npt:p≠t:=aq hp ht;refine⟨t,_,rfl,bz.of ag,rfl,_,_,rfl,?_⟩;refine⟨_,rfl,p,_,0,0,rfl,rfl,by rw[al npt];exact hp,gR (j:=0) (by show 0<2;decide),_,_,rfl,rfl,_,rfl,?_⟩;exact q _ _ _ _ (oM _ (by lia)) (oG _ m0) (Int.ediv_nonneg a0 (by lia)) b0 b1 (fun c o e n=>by rw[al n,al (aq e ht)];exact e) ag
  .refine⟨_,rfl,p,_,_,_,rfl,rfl,bh.of hp,g1,_,_,rfl,rfl,.inl ⟨by lia,by lia⟩,_,_,rfl,rfl,_,_,rfl,rfl,(by show (0:Int)<2147483629;decide),?_⟩;refine⟨_,rfl,p,_,1,1,rfl,rfl,hp,gR (j:=1) (by show 1<2;decide),?_⟩;have c0:0<=(b*39373+7919) % 2147483629:=oM _ (by decide);have c1:(b*39373+7919) % 2147483629<2147483629:=oG _ (by decide);refine⟨_,rfl,p,_,_,_,rfl,rfl,bh.of ag,aD (j:=1) rfl,_,rfl,p,_,_,_,rfl,rfl,bh.of ag,aD (j:=1) rfl,_,_,rfl,rfl,.inl ⟨by lia,by lia⟩,_,_,rfl,rfl,(by show (0:Int)<2147483587;decide),_,_,rfl,rfl,⟨by decide,by decide⟩,_,rfl,_,_,rfl,rfl,m0,?_⟩;exact q _ _ _ _ (oM _ (by lia)) (oG _ m0) a0 c0 (by lia) cz.upd ag
end
abbrev Yn:Stmt:=fV 51
abbrev Yo:Stmt:=fV 52
abbrev Yp:Stmt:=fV 53
abbrev Yq:Stmt:=fV 54
theorem HL{xs:List V}{k:Nat}:vY xs none (some (k:Int))=xs.take k:=by
 have h1:HT.fN xs.length 0 none=0:=rfl;have h2:HT.fN xs.length xs.length (some (k:Int))=min k xs.length:=by
  unfold HT.fN;simp;try lia
 unfold vY;rw[h1,h2,zI,Nat.sub_zero,List.take_eq_take_iff];simp;try lia
theorem HN:∀ {ns:List Nat} {h k:Nat},k<ns.length->(ck ns h).getD k 0=h / pr (ns.take k) % ns.getD k 0
 |[],_,_,hk=>absurd hk (jQ _)
 |n::ns,h,0,_=>by show h % n=h / 1 % n;rw[oQ]
 |n::ns,h,k+1,hk=>by
  have:=HN (ns:=ns) (h:=h / n) (k:=k) (lX hk);show (ck ns (h / n)).getD k 0=h / (n*pr (ns.take k)) % ns.getD k 0;rw[this,lY]
theorem M1{ns:List Nat}{h k:Nat}(hk:k<ns.length)(h1:1<=(ck ns h).getD k 0):pr (ns.take k)<=h:=by
 rw[HN hk] at h1;rcases gm h (pr (ns.take k)) with c|c
 .rw[zn c,Nat.zero_mod] at h1;exact absurd h1 (by decide)
 .exact c
def wJ(ns:List Nat)(h k:Nat)(up:Bool):Option Nat:=if up then (if (ck ns h).getD k 0+1<ns.getD k 0 then some (h+pr (ns.take k)) else none) else if 1<=(ck ns h).getD k 0 then some (h-pr (ns.take k)) else none
theorem M2{ns:List Nat}{a b k:Nat}(hp:∀x∈ns,0<x)(h:jC ns a b=some k):AS ns a b=wJ ns a k (decide ((ck ns a).getD k 0<(ck ns b).getD k 0)):=by
 obtain⟨hk,ne⟩:=jD h;have la:=mU (h:=a) hp hk;have lb:=mU (h:=b) hp hk;unfold AS wJ;rw[h,zx];by_cases c:(ck ns a).getD k 0<(ck ns b).getD k 0
 .rw[ai c,decide_eq_true c,ai rfl,ai (by lia)]
 .rw[ap c,dP c,ap (by decide),ai (by lia)]
section
variable {P:Program} {w:World} {K:PySem.W.Frag} {mg:Str->Option Value} {base:Heap}
theorem AV:aA ["_law_pot_here","_law_found","_law_left","_law_ways","_law_k","_law_most"] ["_law_pot_here"] (am Yn):=⟨rfl,rfl,rfl,by decide +kernel,rfl,by decide +kernel,by decide +kernel⟩
def Pa:Sp:=fun vs H Q _=>∃ (p:Addr),vs=[.ref p]/\cN H p/\∀ (r:Addr) (ns:List Nat) (H':Hp),cz p H H'->cN H' p->H' r=some (.tup (NV ns))->Bx ns->Q (.ref r) H'
theorem TR{f:Addr}{fd:FuncData}(F:eN K "_law_sides" "_law_sides" Yn f fd)(B:Bl mg)(DR:cy P w K mg base ba 1 "_law_draw" ["_law_pot_here","_law_many_here"] Ej):bj P w K mg base ba 2 f fd ["_law_pot_here"] Pa:=by
 refine F.ok AV (fun vs H Q E h=>?_) (fun dt A outer s H vs Q E hr h=>?_)
 .obtain⟨p,rfl,_⟩:=h;rfl
 .obtain⟨p,rfl,hp,q⟩:=h;refine⟨_,(ah (aO (i:=1) AV.nd rfl (Or.inl rfl) (dX af))
   (ah (aO (i:=2) AV.nd rfl (Or.inl rfl) aB)
   (ah (aO (i:=3) AV.nd rfl (Or.inl rfl) (bu eM aB (aw DR hr aF (aa (pv 0) (aa aB af)))))
   (ah (bZ du rfl (ce rfl B.range (aa (pv 3) af)) (au (i:=4) AV.nd rfl (Or.inl rfl))
    (ah (aO (i:=5) AV.nd rfl (Or.inl rfl) (aG (uv rfl) (by rfl) B.min PyProof.Rows.boot_min (aa aB (aa (bu O9 (pv 2) (bu mx (bu mx (pv 3) aB) (pv 4))) af))))
    (ah (bq (ig gY jH jG cL (pv 1) (aa (bu eM aB (aw DR hr aF (aa (pv 0) (aa (bu mx (pv 5) aB) af)))) af)))
    (ak (aO (i:=2) AV.nd rfl (Or.inl rfl) (bu qF (pv 2) (bg bD (pv 1) (ur o9 aB) (fun _ _=>rfl))))))))
   (ak (aI (cf cr (by rfl) B.tup jI (aa (pv 1) af)))))))),?_⟩
  refine⟨by show 0<=sizeLine;decide,fun Fd hF=>?_⟩;have Yr:Fd≠p:=hp.ne hF;have s0:=ao (o:=.lst []) hF;refine⟨_,rfl,p,5,rfl,by decide,by decide,hp.same s0,fun d H1 hd s1 Mr=>⟨_,_,rfl,rfl,?_⟩⟩;obtain⟨W,hW,w1,w5⟩:∃W:Nat,(1+(d:Int))=(W:Int)/\1<=W/\W<=5:=⟨1+d,by lia,by lia,by lia⟩
  change cq 3 (V.int (1+(d:Int))) _ H1 _;rw[hW];refine⟨_,rfl,_,rfl,by lia,by lia,d8 (n:=W) (lo:=0) (fun k σ H2=>∃ (rm:Nat) (fs:List Nat) (x4 x5:Option V),σ=[some (.ref p),some (.ref Fd),some (.int rm),some (.int W),x4,x5]/\cz p H H2/\cN H2 p/\H2 Fd=some (.lst (NV fs))/\fs.length=k/\(∀x∈fs,2<=x/\x<=8)/\pr fs*rm<=32/\2 ^ (W-k)<=rm/\rm<=32) ?_ ?_ ?_⟩
  .refine⟨32,[],_,_,rfl,(cz.of s0).trans s1,Mr,s1 _ _ ag Yr,rfl,(fun x hx=>nomatch hx),by decide,?_,by decide⟩;exact Nat.pow_le_pow_right (by decide) (show W-0<=5 by lia)
  .rintro k σ H2 hk ⟨rm,fs,x4,x5,rfl,s2,p2,Wd,fl,fb,fp,rl,r32⟩;rw[eU];have e2:2 ^ (W-k)=2 ^ (W-1-k)*2:=by rw[<-Nat.pow_succ];congr 1;lia
   have g1:1<=2 ^ (W-1-k):=Nat.one_le_two_pow;have ej:((W:Int)-1-(k:Int)).toNat=W-1-k:=by lia
   refine⟨_,rfl,_,rfl,_,_,rfl,rfl,_,rfl,_,_,rfl,rfl,_,_,rfl,rfl,⟨by show (0:Int)<=(W:Int)-1-(k:Int);lia,by show ((2 ^ ((W:Int)-1-(k:Int)).toNat:Nat):Int)<=(rm:Int);rw[ej];lia⟩,8,_,rfl,?_⟩;change cq 5 (V.int (if (rm:Int) / ((2 ^ ((W:Int)-1-(k:Int)).toNat:Nat):Int)<8 then (rm:Int) / ((2 ^ ((W:Int)-1-(k:Int)).toNat:Nat):Int) else 8)) _ H2 _;rw[ej];generalize hg:2 ^ (W-1-k)=g at *;obtain⟨tp,W5,t2,t8,tg⟩:∃tp:Nat,(if (rm:Int) / (g:Int)<8 then (rm:Int) / (g:Int) else 8)=(tp:Int)/\2<=tp/\tp<=8/\tp*g<=rm:=by
    have d1:2<=rm / g:=(Nat.le_div_iff_mul_le (by lia)).mpr (by lia);have d2:rm / g*g<=rm:=Nat.div_mul_le_self _ _;have e:(rm:Int) / (g:Int)=((rm / g:Nat):Int):=rfl;rw[e];by_cases c:rm / g<8
    .exact⟨rm / g,by rw[ai (by lia)],d1,by lia,d2⟩
    .refine⟨8,by rw[ap (by lia)];rfl,by lia,by lia,aZ (Nat.mul_le_mul_right g (by lia:8<=rm / g)) d2⟩
   rw[W5];refine⟨_,rfl,.inl ⟨rfl,_,bh.of Wd⟩,_,rfl,_,rfl,_,_,rfl,rfl,p,tp-1,by show [V.ref p,V.int ((tp:Int)-1)]=_;rw[show ((tp:Int)-1)=((tp-1:Nat):Int) by lia],by lia,bK (show tp-1<8 by lia) (by decide),p2,fun e H4 he s4 hp4=>?_⟩;have hF4:=s4 _ _ Wd Yr;refine⟨_,_,rfl,rfl,Fd,_,.int ((2+e:Nat):Int),rfl,by show [V.int (2+(e:Int))]=_;rw[show (2+(e:Int))=((2+e:Nat):Int) by lia],hF4,by rw[aY,fl];exact bK (show k<6 by lia) (by decide),?_⟩;have hF5:(upd H4 Fd (.lst (NV fs++[.int ((2+e:Nat):Int)]))) Fd=some (.lst (NV (fs++[2+e]))):=by rw[ag,gU]
   have s5:cz p H (upd H4 Fd (.lst (NV fs++[.int ((2+e:Nat):Int)]))):=fun b o eq n=>by rw[al (aq eq hF)];exact s4 _ _ (s2 _ _ eq n) n
   have hp5:cN (upd H4 Fd (.lst (NV fs++[.int ((2+e:Nat):Int)]))) p:=hp4.put Yr.symm;generalize upd H4 Fd _=H5 at *;have fe:2+e<=tp:=by lia
   have at1:FF (NV (fs++[2+e])) (-1)=some (.int ((2+e:Nat):Int)):=by rw[<-gU];exact FG _ _
   refine⟨_,rfl,_,rfl,_,rfl,Fd,_,_,_,rfl,rfl,bh.of hF5,at1,_,_,rfl,rfl,⟨by lia,by lia⟩,rm / (2+e),fs++[2+e],_,_,rfl,s5,hp5,hF5,by rw[dF,fl];rfl,?_,?_,?_,?_⟩
   .intro x hx;rcases cR.mp hx with z|z
    .exact fb x z
    .rw[cI.mp z];lia
   .rw[jB,mf];exact aZ (oF _ (by rw[vR];exact Nat.div_mul_le_self _ _)) fp
   .rw[show W-(k+1)=W-1-k by lia,hg];refine(Nat.le_div_iff_mul_le (by lia)).mpr ?_;rw[vR];exact aZ (Nat.mul_le_mul_right g fe) tg
   .exact aZ (Nat.div_le_self _ _) r32
  .rintro σ H2 ⟨rm,fs,x4,x5,rfl,s2,p2,Wd,fl,fb,fp,rl,r32⟩;have r1:1<=rm:=aZ Nat.one_le_two_pow rl;exact⟨_,rfl,Fd,_,rfl,.inl ⟨bh.of Wd,fun t ht=>q t fs _ (s2.trans (cz.of (ao ht))) (p2.same (ao ht)) ag ⟨by lia,by lia,fb,aZ (yN _ r1) fp⟩⟩⟩
theorem Lg:aA ["_law_sides_here","_law_found","_law_side"] ["_law_sides_here"] (am Yo):=⟨rfl,rfl,rfl,by decide +kernel,rfl,by decide +kernel,by decide +kernel⟩
def Ek:Sp:=fun vs H Q _=>∃ (a:Addr) (ns:List Nat),vs=[.ref a]/\H a=some (.tup (NV ns))/\(∀x∈ns,x<=8)/\Q (.int (pr ns:Nat)) H
theorem TU{f:Addr}{fd:FuncData}(F:eN K "_law_many" "_law_many" Yo f fd):bj P w K mg base ba 1 f fd ["_law_sides_here"] Ek:=by
 refine F.ok Lg (fun vs H Q E h=>?_) (fun dt A outer s H vs Q E hr h=>?_)
 .obtain⟨a,ns,rfl,_⟩:=h;rfl
 .obtain⟨a,ns,rfl,ha,hx,q⟩:=h;refine⟨_,(ah (aO (i:=1) Lg.nd rfl (Or.inl rfl) aB)
   (ah (bZ du rfl (mw (pv 0)) (au (i:=2) Lg.nd rfl (Or.inl rfl))
    (ak (aO (i:=1) Lg.nd rfl (Or.inl rfl) (bu o8 (pv 1) (pv 2)))))
   (ak (aI (pv 1))))),?_⟩
  refine⟨_,rfl,a,rfl,⟨_,bz.of ha⟩,ln (K:=K) (xs:=NV ns) (fun i σ H2=>H=H2/\∃x,σ=[some (.ref a),some (.int ((pr (ns.take i):Nat):Int)),x]) ⟨rfl,_,rfl⟩ (fun i σ H2 _ z=>by rw[<-z.1];exact bz.of ha) ?_ ?_⟩
  .rintro i x σ _ d7 ⟨rfl,y,rfl⟩;obtain⟨v,hv,rfl⟩:=qd d7;have h1:=hx v (cB hv);refine⟨_,rfl,_,rfl,_,_,rfl,rfl,.inr ⟨by lia,by lia⟩,rfl,some (.int v),?_⟩;rw[show ns.take (i+1)=ns.take i++[v] by rw[iD,hv];rfl,jB];rfl
  .rintro σ _ ⟨rfl,x,rfl⟩;rw[aY,et];exact⟨_,rfl,q⟩
theorem Lh:aA ["_law_sides_here","_law_house","_law_found","_law_side"] ["_law_sides_here","_law_house"] (am Yp):=⟨rfl,rfl,rfl,by decide +kernel,rfl,by decide +kernel,by decide +kernel⟩
def AW:Sp:=fun vs H Q _=>∃ (a:Addr) (ns:List Nat) (h:Nat),vs=[.ref a,.int h]/\H a=some (.tup (NV ns))/\Bx ns/\∀ (r:Addr) (H':Hp),az H H'->H r=none->H' r=some (.lst (NV (ck ns h)))->Q (.ref r) H'
theorem TV{f:Addr}{fd:FuncData}(F:eN K "_law_place" "_law_place" Yp f fd):bj P w K mg base ba 1 f fd ["_law_sides_here","_law_house"] AW:=by
 refine F.ok Lh (fun vs H Q E h=>?_) (fun dt A outer s H vs Q E hr h=>?_)
 .obtain⟨a,ns,h,rfl,_⟩:=h;rfl
 .obtain⟨a,ns,h,rfl,ha,BX,k⟩:=h;have hl:=BX.l5;have hn:=BX.sd;refine⟨_,(ah (aO (i:=2) Lh.nd rfl (Or.inl rfl) (dX af))
   (ah (bZ du rfl (mw (pv 0)) (au (i:=3) Lh.nd rfl (Or.inl rfl))
    (ah (bq (ig gY jH jG cL (pv 2) (aa (bu jt (pv 1) (pv 3)) af)))
    (ak (aO (i:=1) Lh.nd rfl (Or.inl rfl) (bu qF (pv 1) (pv 3))))))
   (ak (aI (pv 2))))),?_⟩
  refine⟨by show 0<=sizeLine;decide,fun D hD=>?_⟩;have s0:=ao (o:=.lst []) hD;refine⟨_,rfl,a,rfl,⟨_,bz.of (s0 _ _ ha)⟩,ln (K:=K) (xs:=NV ns) (fun i σ H2=>(∃x,σ=[some (.ref a),some (.int ((h / pr (ns.take i):Nat):Int)),some (.ref D),x])/\az H H2/\H2 D=some (.lst (NV (ck (ns.take i) h)))) ⟨⟨_,by rw[zH];show _=[_,some (V.int ((h / 1:Nat):Int)),_,_];rw[oQ];rfl⟩,s0,ag⟩ (fun i σ H2 _ z=>bz.of (z.2.1 _ _ ha)) ?_ ?_⟩
  .rintro i x σ H2 hx ⟨⟨x',rfl⟩,sm,iA⟩;obtain⟨n,hv,rfl⟩:=qd hx;have hi:i<ns.length:=(cQ.mp hv).1;have hnn:=hn n (cB hv);have tk:ns.take (i+1)=ns.take i++[n]:=by rw[iD,hv];rfl
   rw[tk,sU,jB];have dl:(ck (ns.take i) h).length<=5:=by rw[d_,j6];lia
   refine⟨_,rfl,.inl ⟨rfl,_,bh.of iA⟩,_,rfl,_,rfl,_,_,rfl,rfl,(by show (0:Int)<(n:Int);lia),D,_,_,rfl,rfl,iA,by rw[aY];exact dN dl (by decide),?_⟩;refine⟨_,rfl,_,rfl,_,_,rfl,rfl,⟨by lia,by lia⟩,⟨some (.int n),?_⟩,cx sm hD,?_⟩
   .rw[<-lY];rfl
   .rw[ag,<-gU];rfl
  .rintro σ H2 ⟨⟨x',rfl⟩,sm,iA⟩;rw[aY,et] at iA;exact⟨_,rfl,k D H2 sm hD iA⟩
theorem TX:aA ["_law_sides_here","_law_house","_law_k","_law_by","_law_place_here"] ["_law_sides_here","_law_house","_law_k","_law_by"] (am Yq):=⟨rfl,rfl,rfl,by decide +kernel,rfl,by decide +kernel,by decide +kernel⟩
def Li:Sp:=fun vs H Q _=>∃ (a:Addr) (ns:List Nat) (h k:Nat) (up:Bool),vs=[.ref a,.int h,.int k,.int (if up then 1 else -1)]/\H a=some (.tup (NV ns))/\Bx ns/\k<ns.length/\∀H',az H H'->Q (oV (wJ ns h k up)) H'
theorem TY{f:Addr}{fd:FuncData}(F:eN K "_law_step" "_law_step" Yq f fd)(PL:cy P w K mg base ba 1 "_law_place" ["_law_sides_here","_law_house"] AW)(MA:cy P w K mg base ba 1 "_law_many" ["_law_sides_here"] Ek):bj P w K mg base ba 2 f fd ["_law_sides_here","_law_house","_law_k","_law_by"] Li:=by
 refine F.ok TX (fun vs H Q E h=>?_) (fun dt A outer s H vs Q E hr h=>?_)
 .obtain⟨a,ns,h,k,up,rfl,_⟩:=h;rfl
 .obtain⟨a,ns,h,k,up,rfl,ha,BX,hk,q⟩:=h;have h1:bQ 1 _:=hr;refine⟨_,(ah (aO (i:=4) TX.nd rfl (Or.inl rfl) (aw PL h1 aF (aa (pv 0) (aa (pv 1) af))))
   (ah (bW (de (Ft Fp rS aB (bu eM (bg bD (pv 4) (pv 2) (fun _ _=>rfl)) (pv 3)) (bg cp (pv 0) (pv 2) (fun _ _=>rfl)))) (ak (aI dC)) aN)
   (ak (aI (bu eM (pv 1) (bu o8 (pv 3) (aw MA h1 aF (aa (xt Ct (pv 0) BC (BF (pv 2))) af)))))))),?_⟩
  generalize Pb:(if up=true then (1:Int) else -1)=u;have gk:=BX.gd hk;have gd:(NV ns)[k]?=some (.int ((ns.getD k 0:Nat):Int)):=by
   rw[bv,cJ hk,cg,cJ hk];rfl
  refine⟨_,rfl,_,rfl,a,ns,h,rfl,ha,BX,fun r H1 s1 hr0 AL=>?_⟩;have dl:=mU (h:=h) BX.pos hk;have key:(0<=(((ck ns h).getD k 0:Nat):Int)+u/\(((ck ns h).getD k 0:Nat):Int)+u<((ns.getD k 0:Nat):Int))/\(∃y:Nat,wJ ns h k up=some y/\(h:Int)+u*((pr (ns.take k):Nat):Int)=(y:Int))\/¬ (0<=(((ck ns h).getD k 0:Nat):Int)+u/\(((ck ns h).getD k 0:Nat):Int)+u<((ns.getD k 0:Nat):Int))/\wJ ns h k up=none:=by
   unfold wJ;cases up with
   |true=>
    have Pb:(1:Int)=u:=Pb;rw[<-Pb,ai rfl];by_cases c:(ck ns h).getD k 0+1<ns.getD k 0
    .exact .inl ⟨⟨by lia,by lia⟩,h+pr (ns.take k),ai c,by lia⟩
    .exact .inr ⟨fun z=>c (by lia),ap c⟩
   |false=>
    have Pb:(-1:Int)=u:=Pb;rw[<-Pb,ap (by decide)];by_cases c:1<=(ck ns h).getD k 0
    .have:=M1 hk c;exact .inl ⟨⟨by lia,by lia⟩,h-pr (ns.take k),ai c,by lia⟩
    .exact .inr ⟨fun z=>c (by lia),ap c⟩
  have u64:-(2 ^ 64)<u/\u<2 ^ 64:=by rw[<-Pb];split <;> decide
  have q1:=q H1 s1;have cK:∀y:Nat,wJ ns h k up=some y->(h:Int)+u*((pr (ns.take k):Nat):Int)=(y:Int)->RF (nB (JE fun i j=>.int (i+j)) (bf 1) (nB (rI Fl fun i j=>.int (i*j)) (bf 3) (nE Ek [] E0 (dq (tSl Tv (bf 0) BB (Mj (bf 2))) mz)))) { nx:=fun _ H'=>Q .bA H',rt:=Q } [some (.ref a),some (.int (h:Int)),some (.int (k:Int)),some (.int u),some (.ref r)] H1:=fun y hy e=>by
   refine⟨_,rfl,_,rfl,_,rfl,_,rfl,_,rfl,a,_,rfl,s1 _ _ ha,fun t H2 s2 ht=>?_⟩;rw[HL,show (NV ns).take k=NV (ns.take k) from (List.map_take).symm] at ht;refine⟨t,ns.take k,rfl,ht,fun x hx=>(BX.sd x (l6 hx)).2,_,_,rfl,rfl,.inl u64,_,_,rfl,rfl,?_⟩;have:=q H2 (s1.trans s2);rw[hy] at this;have e':(fun (i j:Int)=>i+j) (h:Int) ((fun (i j:Int)=>i*j) u ((pr (ns.take k):Nat):Int))=(y:Int):=e;show Q (.int _) _;rw[e];exact this
  refine⟨_,rfl,_,rfl,r,_,_,_,rfl,rfl,bh.of AL,aD (fW hk),_,rfl,_,_,rfl,rfl,_,_,rfl,rfl,_,rfl,?_⟩;rcases key with ⟨⟨c1,c2⟩,y,hy,e⟩|⟨c,hy⟩
  .refine n5 (decide_eq_true c1) ⟨_,rfl,_,rfl,a,_,_,_,rfl,rfl,bz.of (s1 _ _ ha),aD gd,_,_,rfl,rfl,_,rfl,gP (by rw[decide_eq_true c2];rfl) (cK y hy e)⟩
  .rw[hy] at q1;refine gG (fun c1=>⟨_,rfl,_,rfl,a,_,_,_,rfl,rfl,bz.of (s1 _ _ ha),aD gd,_,_,rfl,rfl,_,rfl,n5 (by rw[dP fun c2=>c ⟨dA c1,c2⟩];rfl) q1⟩) (fun c1=>⟨_,rfl,gD q1⟩)
end
abbrev Ys:Stmt:=fV 55
abbrev Yt:Stmt:=fV 56
abbrev Yu:Stmt:=fV 57
theorem HP:(["_law_other"]:List Str).Nodup:=by decide +kernel
theorem io:(["_law_k","_law_sides_here","_law_house","_law_home"]:List Str).Nodup:=by decide +kernel
theorem lB{β:Type}{K:PySem.W.Frag}{a D:Addr}{g:TG}{tt:TT}{te:TE}{cK:Hp->Prop}{σB:St}{H0:Hp}(ms:List β)(e:β->V)(c:β->Bool)(G:β->V)(cF:St->Prop)(ha:H0 a=some (.lst (ms.map e)))(hD:H0 D=none)(hn:ms.length<=1000)(h0:cF σB)(hs:∀m σ H (Kt:V->St->Hp->Prop) (Kf:St->Hp->Prop),m∈ms->cF σ->az H0 H->(∀σ2 H2,cF σ2->az H H2->c m=true->Kt (G m) σ2 H2)->(∀σ2 H2,cF σ2->az H H2->c m=false->Kf σ2 H2)->
   g (e m) σ H fun σ2 H2=>tt σ2 H2 fun b H3=>if b=true then te σ2 H3 fun v H4=>Kt v σ2 H4 else Kf σ2 H3)(hd:∀H,az H0 H->H D=some (.lst ((ms.filter c).map G))->cK H):iG (Fh K a) g tt te D cK σB (upd H0 D (.lst [])):=by
 refine gX (xs:=ms.map e) (fun i ys σ H=>cF σ/\az H0 H/\H D=some (.lst ys)/\ys=((ms.take i).filter c).map G) ⟨h0,ao hD,ag,rfl⟩ (fun i ys σ H _ z=>bh.of (z.2.1 _ _ ha)) ?_ ?_
 .rintro i x ys σ H Kt Kf hx ⟨sh,sm,lR,rfl⟩ kt kf;rw[bv] at hx;obtain⟨y,hy,rfl⟩:=qY.mp hx;have tk:ms.take (i+1)=ms.take i++[y]:=by rw[iD,hy];rfl
  refine hs y σ H Kt Kf (cB hy) sh sm (fun σ2 H2 wz s2 e=>?_) (fun σ2 H2 wz s2 e=>?_)
  .refine kt _ _ _ (s2 _ _ lR) ?_ ⟨wz,cx (sm.trans s2) hD,ag,?_⟩
   .rw[aV];exact dN (aZ (gZ _ _) (yW _ _)) (dN hn (by decide))
   .rw[tk,jK,dR,eT,e];rfl
  .refine kf _ _ ⟨wz,sm.trans s2,s2 _ _ lR,?_⟩;rw[tk,jK,eT,e];simp
 .rintro ys σ H ⟨_,sm,lR,rfl⟩;rw[aV,et] at lR;exact hd H sm lR
theorem wK{lo:Int}{n:Nat}{D:Addr}{g:TG}{tt:TT}{te:TE}{cK:Hp->Prop}{σB:St}{H0:Hp}(c:Nat->Bool)(cF:St->Prop)(hD:H0 D=none)(hn:n<=1000)(h0:cF σB)(hs:∀x σ H (Kt:V->St->Hp->Prop) (Kf:St->Hp->Prop),x<n->cF σ->az H0 H->(∀σ2 H2,cF σ2->az H H2->c x=true->Kt (.int (lo+(x:Nat))) σ2 H2)->(∀σ2 H2,cF σ2->az H H2->c x=false->Kf σ2 H2)->
   g (.int (lo+(x:Nat))) σ H fun σ2 H2=>tt σ2 H2 fun b H3=>if b=true then te σ2 H3 fun v H4=>Kt v σ2 H4 else Kf σ2 H3)(hd:∀H,az H0 H->H D=some (.lst (((List.range n).filter c).map fun (x:Nat)=>V.int (lo+(x:Int))))->cK H):iG (JD lo n) g tt te D cK σB (upd H0 D (.lst [])):=by
 refine ik (fun i ys σ H=>cF σ/\az H0 H/\H D=some (.lst ys)/\ys=((List.range i).filter c).map fun (x:Nat)=>V.int (lo+(x:Int))) ⟨h0,ao hD,ag,rfl⟩ ?_ ?_
 .rintro i ys σ H Kt Kf hi ⟨sh,sm,lR,rfl⟩ kt kf;refine hs i σ H Kt Kf hi sh sm (fun σ2 H2 wz s2 e=>?_) (fun σ2 H2 wz s2 e=>?_)
  .refine kt _ _ _ (s2 _ _ lR) ?_ ⟨wz,cx (sm.trans s2) hD,ag,?_⟩
   .rw[aV];refine dN (gZ _ _) ?_;rw[fm];exact bK (show i<1000 by lia) (by decide)
   .rw[kh,jK,dR];simp[eT,e]
  .refine kf _ _ ⟨wz,sm.trans s2,s2 _ _ lR,?_⟩;rw[kh,jK];simp[eT,e]
 .rintro ys σ H ⟨_,sm,lR,rfl⟩;exact hd H sm lR
theorem uW{e:V->V->Bool}:∀ {xs:List V},iH e xs []=decide (xs=[])
 |[]=>rfl
 |x::xs=>by simp[iH]
def ni(ns:List Nat)(h k:Nat):List Nat:=(wJ ns h k false).toList++(wJ ns h k true).toList
theorem sY{ns:List Nat}{h g k:Nat}(hp:∀x∈ns,0<x)(hk:k<ns.length):g∈ni ns h k↔Hn ns h g k:=by
 unfold ni Hn;rw[cR,Option.mem_toList,Option.mem_toList,Hl hp hk,AR hp hk,or_comm];refine or_congr ?_ ?_
 .unfold wJ;rw[ai rfl];by_cases c:(ck ns h).getD k 0+1<ns.getD k 0
  .rw[ai c];exact⟨fun z=>⟨c,(bi z).symm⟩,fun z=>by rw[z.2]⟩
  .rw[ap c];exact⟨fun z=>(nomatch z),fun z=>absurd z.1 c⟩
 .unfold wJ;rw[ap (by decide)];by_cases c:1<=(ck ns h).getD k 0
  .have:=M1 hk c;rw[ai c];exact⟨fun z=>⟨c,by have:=bi z;lia⟩,fun z=>congrArg some (by lia)⟩
  .rw[ap c];exact⟨fun z=>(nomatch z),fun z=>absurd z.1 c⟩
theorem El{a b:Option Nat}:([a,b].filter Option.isSome).map oV=NV (a.toList++b.toList):=by cases a <;> cases b <;> rfl
theorem Lk{n:Nat}{c:Nat->Bool}:(NV ((List.range n).filter c))[0]?=((List.range n).find? c).map fun (k:Nat)=>V.int (k:Int):=by
 rw[bv,<-List.head?_eq_getElem?,List.head?_filter]
section
variable {P:Program} {w:World} {K:PySem.W.Frag} {mg:Str->Option Value} {base:Heap}
theorem Yv:aA ["_law_sides_here","_law_house","_law_k"] ["_law_sides_here","_law_house","_law_k"] (am Ys):=⟨rfl,rfl,rfl,by decide +kernel,rfl,by decide +kernel,by decide +kernel⟩
def Ll:Sp:=fun vs H Q _=>∃ (a:Addr) (ns:List Nat) (h k:Nat),vs=[.ref a,.int h,.int k]/\H a=some (.tup (NV ns))/\Bx ns/\k<ns.length/\∀ (r:Addr) (H':Hp),az H H'->H r=none->H' r=some (.lst (NV (ni ns h k)))->Q (.ref r) H'
theorem TZ{f:Addr}{fd:FuncData}(F:eN K "_law_ties" "_law_ties" Ys f fd)(ST:cy P w K mg base ba 2 "_law_step" ["_law_sides_here","_law_house","_law_k","_law_by"] Li):bj P w K mg base ba 3 f fd ["_law_sides_here","_law_house","_law_k"] Ll:=by
 refine F.ok Yv (fun vs H Q E h=>?_) (fun dt A outer s H vs Q E hr h=>?_)
 .obtain⟨a,ns,h,k,rfl,_⟩:=h;rfl
 .obtain⟨a,ns,h,k,rfl,ha,BX,hk,q⟩:=h;refine'⟨_,(ak (aI ?c1)),?_⟩;case c1=>
   refine' d9 (g:=(cq 0)) (tt:=(iZ (nB (fun x y H Q=>y=.bA/\Q (.bl (!decide (x=.bA))) H) (bf 0) (tC .bA)))) (te:=(bf 0)) (NB:=["_law_other"]) (src:=[none]) (cw (by kernel_rfl)) rfl (bC (dX (aa (aw ST hr aF (aa (pv 0) (aa (pv 1) (aa (pv 2) (aa (ur o9 aB) af))))) (aa (aw ST hr aF (aa (pv 0) (aa (pv 1) (aa (pv 2) (aa aB af))))) af)))) ?g ?t ?e;case g=>exact fun cl C s₃ H₃ fp=>(au (i:=0) HP rfl (Or.inl rfl) (Or.inr rfl))
   case t=>exact fun cl C s₃ H₃ fp=>dD (aK Bu (pv 0) dC (be _))
   case e=>exact fun cl C s₃ H₃ fp=>(pv 0)
  refine⟨_,rfl,_,rfl,_,rfl,_,rfl,a,ns,h,k,false,rfl,ha,BX,hk,fun H1 s1=>⟨_,rfl,_,rfl,_,rfl,a,ns,h,k,true,rfl,s1 _ _ ha,BX,hk,fun H2 s2=>⟨by show 2<=sizeLine;decide,fun L hL=>⟨_,rfl,⟨_,bh.of ag⟩,fun D hD=>?_⟩⟩⟩⟩;have s3:=(s1.trans s2).trans (ao (o:=.lst [oV (wJ ns h k false),oV (wJ ns h k true)]) hL);refine lB [wJ ns h k false,wJ ns h k true] oV Option.isSome oV (fun σ=>∃b,σ=[b]) ag hD (by show 2<=1000;decide) ⟨_,rfl⟩ ?_ ?_
  .rintro m σ H5 Kt Kf hm ⟨b',rfl⟩ s5 kt kf;refine⟨_,rfl,rfl,_,rfl,?_⟩;cases m with
   |none=>exact eX (kf _ _ ⟨_,rfl⟩ (az.refl _) rfl)
   |some y=>exact n5 rfl ⟨_,rfl,kt _ _ ⟨_,rfl⟩ (az.refl _) rfl⟩
  .intro H5 s5 tQ;rw[El] at tQ;exact q D H5 (s3.trans s5) (s3.free hD) tQ
theorem T4:aA ["_law_sides_here","_law_house","_law_home","_law_unlike"] ["_law_sides_here","_law_house","_law_home"] (am Yt):=⟨rfl,rfl,rfl,by decide +kernel,rfl,by decide +kernel,by decide +kernel⟩
def Lm:Sp:=fun vs H Q _=>∃ (a:Addr) (ns:List Nat) (h g:Nat),vs=[.ref a,.int h,.int g]/\H a=some (.tup (NV ns))/\Bx ns/\∀H',az H H'->Q (oV (jC ns h g)) H'
theorem T5{f:Addr}{fd:FuncData}(F:eN K "_law_phase" "_law_phase" Yt f fd)(B:Bl mg)(PL:cy P w K mg base ba 1 "_law_place" ["_law_sides_here","_law_house"] AW):bj P w K mg base ba 2 f fd ["_law_sides_here","_law_house","_law_home"] Lm:=by
 refine F.ok T4 (fun vs H Q E h=>?_) (fun dt A outer s H vs Q E hr h=>?_)
 .obtain⟨a,ns,h,g,rfl,_⟩:=h;rfl
 .obtain⟨a,ns,h,g,rfl,ha,BX,q⟩:=h;have l5:=BX.l5;refine'⟨_,(ah (dg (i:=3) (g:=(cq 0)) (tt:=(iZ (nB (rNe) (nB (NL K) (nE AW [] E0 (dq (bf 1) (dq (bf 2) mz))) (bf 0)) (nB (NL K) (nE AW [] E0 (dq (bf 1) (dq (bf 3) mz))) (bf 0))))) (te:=(bf 0)) (NB:=["_law_k","_law_sides_here","_law_house","_law_home"]) (src:=[none,some 0,some 1,some 2]) (cw (by kernel_rfl)) rfl (ce rfl B.range (aa (aG aJ (by rfl) B.len dS (aa (pv 0) af)) af)) ?g1 ?t1 ?e1 T4.nd rfl rfl rfl)
   (ak (aI (kF (aK (Ob (e:=vZ) hr.u) (pv 3) (dX af) (be _)) (bg bD (pv 3) aB (fun _ _=>rfl)) dC)))),?_⟩
  case g1=>exact fun cl C s₃ H₃ fp=>(au (i:=0) io rfl (Or.inl rfl) (Or.inr rfl))
  case t1=>exact fun cl C s₃ H₃ fp=>dD (aK xp (bg bD (aw PL hr aF (aa (pv 1) (aa (pv 2) af))) (pv 0) (fun _ _=>rfl)) (bg bD (aw PL hr aF (aa (pv 1) (aa (pv 3) af))) (pv 0) (fun _ _=>rfl)) (be _))
  case e1=>exact fun cl C s₃ H₃ fp=>(pv 0)
  refine⟨_,rfl,a,_,rfl,.inr (bz.of ha),_,rfl,by lia,by rw[aY];lia,fun D hD=>?_⟩;rw[aY];refine wK (lo:=0) (n:=ns.length) (fun i=>decide ((ck ns h).getD i 0≠(ck ns g).getD i 0)) (fun σ=>∃b,σ=[b,some (.ref a),some (.int (h:Int)),some (.int (g:Int))]) hD (by lia) ⟨_,rfl⟩ ?_ ?_
  .rintro j σ H5 Kt Kf hj ⟨b',rfl⟩ s5 kt kf;rw[eU] at kt |-;refine⟨_,rfl,_,rfl,a,ns,h,rfl,s5 _ _ ha,BX,fun r1 H6 s6 _ AL=>⟨_,rfl,r1,_,_,_,rfl,rfl,bh.of AL,aD (fW hj),?_⟩⟩;refine⟨_,rfl,_,rfl,a,ns,g,rfl,s6 _ _ (s5 _ _ ha),BX,fun r2 H7 s7 _ EU=>⟨_,rfl,r2,_,_,_,rfl,rfl,bh.of EU,aD (fW hj),rfl,_,rfl,?_⟩⟩;have s57:=s6.trans s7;by_cases c:(ck ns h).getD j 0=(ck ns g).getD j 0
   .rw[c,decide_eq_true rfl];exact eX (kf _ _ ⟨_,rfl⟩ s57 (dP fun z=>z c))
   .rw[dP (fun z=>c (by injection z with z;exact cV z))];exact gD ⟨_,rfl,kt _ _ ⟨_,rfl⟩ s57 (decide_eq_true c)⟩
  intro H5 s5 tQ;rw[show (((List.range ns.length).filter fun i=>decide ((ck ns h).getD i 0≠(ck ns g).getD i 0)).map fun (x:Nat)=>V.int (0+(x:Int)))=NV ((List.range ns.length).filter fun i=>decide ((ck ns h).getD i 0≠(ck ns g).getD i 0)) from jJ fun x _=>by rw[eU]] at tQ;have hf:=Lk (n:=ns.length) (c:=fun i=>decide ((ck ns h).getD i 0≠(ck ns g).getD i 0));refine⟨_,rfl,by show 0<=sizeLine;decide,fun E1 Yw=>?_⟩;have sE:=ao (o:=.lst []) Yw;refine⟨D,E1,_,[],rfl,rfl,bh.of (sE _ _ tQ),bh.of ag,fun i h1 h2=>absurd h2 (by simp),_,rfl,?_⟩;rw[ai rfl,uW];have q1:=q _ (s5.trans sE);unfold jC at q1;cases hp:(List.range ns.length).find? fun i=>decide ((ck ns h).getD i 0≠(ck ns g).getD i 0) with
  |none=>
   rw[hp] at q1 hf;have e:NV ((List.range ns.length).filter fun i=>decide ((ck ns h).getD i 0≠(ck ns g).getD i 0))=[]:=yH (by have:=E7.mp hf;lia);rw[decide_eq_true e];exact eX q1
  |some k=>
   rw[hp] at q1 hf;rw[dP (fun z=>by rw[z] at hf;cases hf)];exact gD ⟨_,rfl,D,_,_,_,rfl,rfl,bh.of (sE _ _ tQ),aD (j:=0) hf,q1⟩
theorem T6:aA ["_law_sides_here","_law_house","_law_home","_law_k"] ["_law_sides_here","_law_house","_law_home"] (am Yu):=⟨rfl,rfl,rfl,by decide +kernel,rfl,by decide +kernel,by decide +kernel⟩
def Pc:Sp:=fun vs H Q _=>∃ (a:Addr) (ns:List Nat) (h g:Nat),vs=[.ref a,.int h,.int g]/\H a=some (.tup (NV ns))/\Bx ns/\∀H',az H H'->Q (oV (AS ns h g)) H'
theorem T7{f:Addr}{fd:FuncData}(F:eN K "_law_wish" "_law_wish" Yu f fd)(PL:cy P w K mg base ba 1 "_law_place" ["_law_sides_here","_law_house"] AW)(ST:cy P w K mg base ba 2 "_law_step" ["_law_sides_here","_law_house","_law_k","_law_by"] Li)(PH:cy P w K mg base ba 2 "_law_phase" ["_law_sides_here","_law_house","_law_home"] Lm):bj P w K mg base ba 3 f fd ["_law_sides_here","_law_house","_law_home"] Pc:=by
 refine F.ok T6 (fun vs H Q E h=>?_) (fun dt A outer s H vs Q E hr h=>?_)
 .obtain⟨a,ns,h,g,rfl,_⟩:=h;rfl
 .obtain⟨a,ns,h,g,rfl,ha,BX,q⟩:=h;have h1:bQ 1 _:=hr.mono (by decide);refine⟨_,(ah (aO (i:=3) T6.nd rfl (Or.inl rfl) (aw PH hr aF (aa (pv 0) (aa (pv 1) (aa (pv 2) af)))))
   (ah (bW (aK o_ (pv 3) dC (be _)) (ak (aI dC)) aN)
   (ak (aI (aw ST hr aF (aa (pv 0) (aa (pv 1) (aa (pv 3) (aa (kF (aK rS (bg bD (aw PL h1 aF (aa (pv 0) (aa (pv 1) af))) (pv 3) (fun _ _=>rfl)) (bg bD (aw PL h1 aF (aa (pv 0) (aa (pv 2) af))) (pv 3) (fun _ _=>rfl)) (be _)) aB (ur o9 aB)) af))))))))),?_⟩
  refine⟨_,rfl,_,rfl,_,rfl,a,ns,h,g,rfl,ha,BX,fun H1 s1=>?_⟩;cases hp:jC ns h g with
  |none=>
   have:=q H1 s1;unfold AS at this;rw[hp] at this;exact⟨_,rfl,rfl,_,rfl,gD this⟩
  |some k=>
   obtain⟨hk,ne⟩:=jD hp;refine⟨_,rfl,rfl,_,rfl,gP rfl ?_⟩;refine⟨_,rfl,_,rfl,_,rfl,_,rfl,_,rfl,a,ns,h,rfl,s1 _ _ ha,BX,fun r1 H2 s2 _ AL=>⟨_,rfl,r1,_,_,_,rfl,rfl,bh.of AL,aD (fW hk),?_⟩⟩;have jZ:=s1.trans s2;refine⟨_,rfl,_,rfl,a,ns,g,rfl,jZ _ _ ha,BX,fun r2 H3 s3 _ EU=>⟨_,rfl,r2,_,_,_,rfl,rfl,bh.of EU,aD (fW hk),_,_,rfl,rfl,_,rfl,?_⟩⟩;have uh:=jZ.trans s3;have cK:∀H',az H3 H'->Q (oV (wJ ns h k (decide ((ck ns h).getD k 0<(ck ns g).getD k 0)))) H':=fun H' s'=>by
    have:=q H' (uh.trans s');rw[M2 BX.pos hp] at this;exact this
   by_cases c:(ck ns h).getD k 0<(ck ns g).getD k 0
   .rw[decide_eq_true c] at cK;exact n5 (decide_eq_true (by lia)) ⟨a,ns,h,k,true,rfl,uh _ _ ha,BX,hk,cK⟩
   .rw[dP c] at cK;exact gP (dP (by lia)) ⟨_,rfl,a,ns,h,k,false,rfl,uh _ _ ha,BX,hk,cK⟩
end
abbrev Yx:Stmt:=eJ (fV 47) 5
abbrev Yy:Stmt:=fV 17
abbrev Yz:Stmt:=fV 18
abbrev YA:Stmt:=fV 19
abbrev YB:Stmt:=fV 20
abbrev YC:Stmt:=fV 21
theorem Lo:(["letter","came","stand","house"]:List Str).Nodup:=by decide +kernel
theorem HQ{pn sr:Addr}:(Cw pn sr).lookup ("way":Str)=none:=mV (by decide +kernel) (by decide +kernel)
theorem CF{pn sr:Addr}:(Cw pn sr).lookup ("tied":Str)=none:=mV (by decide +kernel) (by decide +kernel)
theorem gW{K:PySem.W.Frag}{H:Hp}{i:Int}:AU K H (.int i) (some i):=fun _ _=>.int i
theorem HR{ns:List Nat}{h g:Nat}(BX:Bx ns)(hh:h<pr ns)(hg:g<pr ns):Hw ns (some (h:Int)) (some (g:Int))=true↔∃k,Hn ns h g k:=by
 rw[<-lx BX.pos hh hg];unfold Hw;rw[dv hh,dv hg];show decide _=true↔_;rw[iC];exact Iff.rfl
theorem HU{ns:List Nat}{h y k:Nat}(BX:Bx ns)(F:i_ (pr ns) (lA ns))(hh:h<pr ns)(hk:k<ns.length)(t:Hn ns h y k):y<pr ns:=by
 rcases t with t|t
 .have m:((h:Int),(y:Int))∈lA ns:=fU.mpr (.inl (aQ.mpr ⟨(h,y),pK.mpr ⟨hh,(Ei BX.pos).mpr ⟨k,t⟩⟩,rfl⟩));have:=(F.rg _ m).2.2;exact rJ.mp this
 .have:=((AR BX.pos hk).mp t).2;lia
theorem HV{lo:Int}{n:Nat}{D:Addr}{g:TG}{tt:TT}{te:TE}{cK:Hp->Prop}{σB:St}{H0:Hp}(c:Nat->Bool)(G:Nat->V)(cF:St->Prop)(hD:H0 D=none)(hn:n<=1000)(h0:cF σB)(hs:∀x σ H (Kt:V->St->Hp->Prop) (Kf:St->Hp->Prop),x<n->cF σ->az H0 H->(∀σ2 H2,cF σ2->az H H2->c x=true->Kt (G x) σ2 H2)->(∀σ2 H2,cF σ2->az H H2->c x=false->Kf σ2 H2)->
   g (.int (lo+(x:Nat))) σ H fun σ2 H2=>tt σ2 H2 fun b H3=>if b=true then te σ2 H3 fun v H4=>Kt v σ2 H4 else Kf σ2 H3)(hd:∀H,az H0 H->H D=some (.lst (((List.range n).filter c).map G))->cK H):iG (JD lo n) g tt te D cK σB (upd H0 D (.lst [])):=by
 refine ik (fun i ys σ H=>cF σ/\az H0 H/\H D=some (.lst ys)/\ys=((List.range i).filter c).map G) ⟨h0,ao hD,ag,rfl⟩ ?_ ?_
 .rintro i ys σ H Kt Kf hi ⟨sh,sm,lR,rfl⟩ kt kf;refine hs i σ H Kt Kf hi sh sm (fun σ2 H2 wz s2 e=>?_) (fun σ2 H2 wz s2 e=>?_)
  .refine kt _ _ _ (s2 _ _ lR) ?_ ⟨wz,cx (sm.trans s2) hD,ag,?_⟩
   .rw[aV];refine dN (gZ _ _) ?_;rw[fm];exact bK (show i<1000 by lia) (by decide)
   .rw[kh,jK,dR];simp[eT,e]
  .refine kf _ _ ⟨wz,sm.trans s2,s2 _ _ lR,?_⟩;rw[kh,jK];simp[eT,e]
 .rintro ys σ H ⟨_,sm,lR,rfl⟩;exact hd H sm lR
theorem lV{st:List (Option Nat)}{i:Nat}(h:i<st.length):(st.map oV)[i]?=some (oV (st.getD i none)):=by
 rw[bv,cg,cJ h];rfl
theorem uX{xs:List V}{i:Nat}(h:i<xs.length):xs[i]?=some (xs.getD i .bA):=by
 rw[cg,cJ h];rfl
theorem uY{ns:List Nat}{k:Nat}(hk:k<ns.length):(NV ns)[k]?=some (.int ((ns.getD k 0:Nat):Int)):=by
 rw[bv,cJ hk,cg,cJ hk];rfl
theorem wL{o:Option Nat}{h:Nat}:ND (oV o) (.int (h:Int))=true:=by cases o <;> rfl
theorem CG{o:Option Nat}{h:Nat}:decide (oV o=V.int (h:Int))=decide (o=some h):=by
 cases o with
 |none=>rfl
 |some y=>
  refine md.mpr ⟨fun e=>?_,fun e=>by rw[bi e];rfl⟩;injection e with e;rw[cV e]
theorem wM{i:Int}{xs:List V}(f:∀v∈xs,∃j:Int,v=.int j):BI (.int i) xs=true↔V.int i∈xs:=by
 unfold BI;rw[vB];constructor
 .rintro⟨v,hv,e⟩;obtain⟨j,rfl⟩:=f v hv;have:(j==i)=true\/(i==j)=true:=by first|exact .inl e|exact .inr e
  have:j=i:=by rcases this with t|t <;> simp at t <;> lia
  rw[<-this];exact hv
 .intro hv;exact⟨_,hv,by show (i==i)=true;simp⟩
theorem T8{xs:List V}(f:∀v∈xs,∃j:Int,v=.int j):xs.all ie=true:=jO.mpr fun x hx=>by obtain⟨y,rfl⟩:=f x hx;rfl
theorem wN{xs:List Nat}:∀v∈NV xs,∃j:Int,v=.int j:=fun v hv=>by obtain⟨y,_,rfl⟩:=aQ.mp hv;exact⟨_,rfl⟩
theorem Lp{K:PySem.W.Frag}{H:Hp}{i:Int}(h:Wh K H (.int i) none):False:=by
 cases h with
 |no h=>
  obtain⟨t,ty,z⟩:=h;cases ty with
  |of ty=>
   cases ty;rcases z with z|⟨_,z⟩
   .rw[qc] at z;cases z
   .rw[nY] at z;cases z
theorem HW{ns:List Nat}{h g:Nat}(hh:h<pr ns)(hg:g<pr ns)(ne:h≠g):∃p,jC ns h g=some p:=by
 cases e:jC ns h g with
 |some p=>exact⟨p,rfl⟩
 |none=>
  refine absurd ?_ ne;have ed:ck ns h=ck ns g:=List.ext_getElem (d_.trans d_.symm) fun i h1 h2=>by
   have hi:i<ns.length:=by rw[<-d_ (ns:=ns) (h:=h)];exact h1
   have:=rf.mp e i (cU.mpr hi);simp only[ji,Decidable.not_not] at this;rw[cg,cg,cJ h1,cJ h2] at this;exact this
  rw[<-qQ hh,<-qQ hg,ed]
structure Sn(ns homes:List Nat)(st:List (Option Nat)):Prop where
 l:homes.length=st.length
 ok:∀i h,st.getD i none=some h->h<pr ns/\homes.getD i 0<pr ns/\h≠homes.getD i 0
 wO:st.length<=16
def Ln(ns:List Nat)(h g y:Nat):Prop:=∃k p,jC ns h g=some p/\Hn ns h y k/\k<=p
def Bt(ns homes:List Nat)(st:List (Option Nat))(xs:List V)(i:Nat):Prop:=(st.getD i none=none->xs.getD i .bA=.bA)/\∀h,st.getD i none=some h->∃y:Nat,xs.getD i .bA=.int (y:Int)/\Ln ns h (homes.getD i 0) y/\∀j,j<i->st.getD j none=some h->xs.getD j .bA≠.int (y:Int)
def HX(ns homes:List Nat)(st:List (Option Nat))(xs:List V):Prop:=xs.length=st.length/\∀i,i<st.length->Bt ns homes st xs i
theorem Pd{ns homes:List Nat}{st:List (Option Nat)}{xs:List V}{i:Nat}(e:st.getD i none=none):Bt ns homes st xs i↔xs.getD i .bA=.bA:=
 ⟨fun h=>h.1 e,fun h=>⟨fun _=>h,fun h' z=>by rw[e] at z;cases z⟩⟩
theorem Lq{ns homes:List Nat}{st:List (Option Nat)}{xs:List V}{i h:Nat}(e:st.getD i none=some h):Bt ns homes st xs i↔∃y:Nat,xs.getD i .bA=.int (y:Int)/\Ln ns h (homes.getD i 0) y/\∀j,j<i->st.getD j none=some h->xs.getD j .bA≠.int (y:Int):=
 ⟨fun b=>b.2 h e,fun b=>⟨fun z=>(by rw[e] at z;cases z),fun h' z=>(by rw[e] at z;cases z;exact b)⟩⟩
section
variable {P:Program} {w:World} {K:PySem.W.Frag} {mg:Str->Option Value} {base:Heap}
theorem YD:aA ["self","house"] ["self","house"] (am Yx):=⟨rfl,rfl,rfl,by decide +kernel,rfl,by decide +kernel,by decide +kernel⟩
def Lr(C CB:Addr):Sp:=fun vs H Q _=>∃ (L:Addr->Prop) (b:Addr) (ns:List Nat) (h:Nat),vs=[.ref b,.int h]/\dZ C CB H L b ns/\h<pr ns/\∀ (r:Addr) (H':Hp),az H H'->H' r=some (.lst (NV (dG (pr ns) (lA ns) h)))->Q (.ref r) H'
theorem T9{f C CB CE:Addr}{fd:FuncData}(F:eN K "tied" "Box.tied" Yx f fd)(T:NT K mg C)(TB:EV K mg CB)(MO:fk P w K mg base (iy P w) 5 C "out" ["self","house"] (Cp K C CE KR)):bj P w K mg base ba 6 f fd ["self","house"] (Lr C CB):=by
 obtain⟨fO,yF,mO,bO,GO⟩:=MO.ex;refine F.ok YD (fun vs H Q E h=>?_) (fun dt A outer s H vs Q E hr h=>?_)
 .obtain⟨L,b,ns,h,rfl,_⟩:=h;rfl
 .obtain⟨L,b,ns,h,rfl,⟨BX,dx,pn,sr,hb,N,im⟩,hh,q⟩:=h;obtain⟨Yh,tl,ol,ds,hN,_⟩:=N.ob;refine⟨_,ak (aI (cP (gC (pv 0) rfl) T.cl mO GO hr bO .nil kL (aa (pv 1) af))),?_⟩;refine⟨_,rfl,b,CB,dx,_,_,rfl,hb,TB.cl,TB.nN,Ho,pn,Yh,_,rfl,hN,O0 _ _ _ _,_,rfl,L,pn,pr ns,_,_,_,rfl,N,.int _,(fun z=>by rw[dv hh] at z;cases z),fun i hi e r H1 s1 hr0 AL=>?_⟩;cases e;exact q r H1 s1 AL
theorem YE:aA ["stand","came","house"] ["stand","came","house"] (am YA):=⟨rfl,rfl,rfl,by decide +kernel,rfl,by decide +kernel,by decide +kernel⟩
def Pe:Sp:=fun vs H Q _=>∃ (sa ca:Addr) (st:List (Option Nat)) (ys:List V) (h:Nat),vs=[.ref sa,.ref ca,.int h]/\H sa=some (.tup (st.map oV))/\H ca=some (.tup ys)/\ys.length<=st.length/\st.length<=16/\
 ∀ (r:Addr) (H':Hp),az H H'->H' r=some (.lst (((List.range ys.length).filter fun j=>decide (st.getD j none=some h)).map fun j=>ys.getD j .bA))->Q (.ref r) H'
theorem T_{f:Addr}{fd:FuncData}(F:eN K "came_by_at" "came_by_at" YA f fd)(B:Bl mg):bj P w K mg base ba 1 f fd ["stand","came","house"] Pe:=by
 refine F.ok YE (fun vs H Q E h=>?_) (fun dt A outer s H vs Q E hr h=>?_)
 .obtain⟨sa,ca,st,ys,h,rfl,_⟩:=h;rfl
 .obtain⟨sa,ca,st,ys,h,rfl,pP,Ua,ly,wO,q⟩:=h;refine'⟨_,(ak (aI ?c1)),?_⟩;case c1=>
   refine' d9 (g:=(cq 0)) (tt:=(iZ (nB QQ (nB (tZ K) (bf 2) (bf 0)) (bf 3)))) (te:=(nB (tZ K) (bf 1) (bf 0))) (NB:=["letter","came","stand","house"]) (src:=[none,some 1,some 0,some 2]) (cw (by kernel_rfl)) rfl (ce rfl B.range (aa (aG aJ (by rfl) B.len dS (aa (pv 1) af)) af)) ?g ?t ?e;case g=>exact fun cl C s₃ H₃ fp=>(au (i:=0) Lo rfl (Or.inl rfl) (Or.inr rfl))
   case t=>exact fun cl C s₃ H₃ fp=>dD (aK iY (bg cp (pv 2) (pv 0) (fun _ _=>rfl)) (pv 3) (be _))
   case e=>exact fun cl C s₃ H₃ fp=>(bg cp (pv 1) (pv 0) (fun _ _=>rfl))
  refine⟨_,rfl,ca,_,rfl,.inr (bz.of Ua),_,rfl,by lia,by lia,fun D hD=>?_⟩;refine HV (lo:=0) (n:=ys.length) (fun j=>decide (st.getD j none=some h)) (fun j=>ys.getD j .bA) (fun σ=>∃u,σ=[u,some (.ref ca),some (.ref sa),some (.int (h:Int))]) hD (by lia) ⟨_,rfl⟩ ?_ ?_
  .rintro j σ H5 Kt Kf hj ⟨u,rfl⟩ s5 kt kf;rw[eU];refine⟨_,rfl,_,rfl,sa,_,_,_,rfl,rfl,bz.of (s5 _ _ pP),aD (lV (by lia)),_,rfl,wL,_,rfl,?_⟩;rw[CG];refine gG (fun c=>⟨_,rfl,_,rfl,ca,_,_,_,rfl,rfl,bz.of (s5 _ _ Ua),aD (uX hj),kt _ _ ⟨_,rfl⟩ (az.refl _) c⟩) (fun c=>kf _ _ ⟨_,rfl⟩ (az.refl _) (jM.mpr c))
  .intro H5 s5 tQ;exact q D H5 s5 tQ
theorem Ub:aA ["box","homes","stand","came","letter","house"] ["box","homes","stand","came","letter"] (am Yz):=⟨rfl,rfl,rfl,by decide +kernel,rfl,by decide +kernel,by decide +kernel⟩
def Pf(K:PySem.W.Frag)(C CB:Addr):Sp:=fun vs H Q _=>∃ (L:Addr->Prop) (b ha sa xa:Addr) (ns homes:List Nat) (st:List (Option Nat)) (xs:List V) (i:Nat),vs=[.ref b,.ref ha,.ref sa,.ref xa,.int i]/\dZ C CB H L b ns/\H ha=some (.tup (NV homes))/\H sa=some (.tup (st.map oV))/\H xa=some (.tup xs)/\Sn ns homes st/\xs.length=st.length/\i<st.length/\(∀x∈xs,∃o,AU K H x o)/\(∀j,j<i->Bt ns homes st xs j)/\
 ∀ (H':Hp) (bb:Bool),az H H'->(bb=true↔Bt ns homes st xs i)->Q (.bl bb) H'
theorem Uc{f C CB CE CT:Addr}{fd:FuncData}(F:eN K "is_berth" "is_berth" Yz f fd)(TB:EV K mg CB)(W:cy P w K mg base ba 1 "is_whole" ["thing"] (qN K))(MT:fk P w K mg base ba 6 CB "tied" ["self","house"] (Lr C CB))(MY:fk P w K mg base (iy P w) 7 CB "way" ["self","one","other"] (yb K C CB CT))(MP:fk P w K mg base (iy P w) 6 CB "phase" ["self","house","home"] (ya K C CB CE))(CY:cy P w K mg base ba 1 "came_by_at" ["stand","came","house"] Pe):
  bj P w K mg base ba 8 f fd ["box","homes","stand","came","letter"] (Pf K C CB):=by
 obtain⟨fT,fdT,mT,bT,GT⟩:=MT.ex;obtain⟨fY,fdY,mY,bY,GY⟩:=MY.ex;obtain⟨fP,fdP,mP,bP,GP⟩:=MP.ex;refine F.ok Ub (fun vs H Q E h=>?_) (fun dt A outer s H vs Q E hr h=>?_)
 .obtain⟨L,b,ha,sa,xa,ns,homes,st,xs,i,rfl,_⟩:=h;rfl
 .obtain⟨L,b,ha,sa,xa,ns,homes,st,xs,i,rfl,BA,qt,pP,tR,SN,xl,hi,hW,hB,q⟩:=h;have h1:bQ 1 _:=hr.mono (by decide);have h6:bQ 6 _:=hr.mono (by decide);have h7:bQ 7 _:=hr.mono (by decide);have BX:=BA.bx;obtain⟨dx,pn,sr,hb,N,im⟩:=id BA.ob;have FI:=N.pM;refine⟨_,(ah (aO (i:=5) Ub.nd rfl (Or.inl rfl) (bg cp (pv 2) (pv 4) (fun _ _=>rfl)))
   (ah (bW (aK o_ (pv 5) dC (be _)) (ak (aI (ju o_ (bg cp (pv 3) (pv 4) (fun _ _=>rfl)) dC (be _)))) aN)
   (ah (bW (PW.pt (xm (de (c_ (aw W h1 aF (aa (bg cp (pv 3) (pv 4) (fun _ _=>rfl)) af)))) (rQ (aK nI (bg cp (pv 3) (pv 4) (fun _ _=>rfl)) (cP (pv 0) TB.cl mT GT h6 bT .nil aF (aa (pv 5) af)) rfl)))) (ak (aI kD)) aN)
   (ah (bW (aK Br (cP (pv 0) TB.cl mY GY h7 bY .nil kL (aa (pv 5) (aa (bg cp (pv 3) (pv 4) (fun _ _=>rfl)) af))) (cP (pv 0) TB.cl mP GP h6 bP .nil kL (aa (pv 5) (aa (bg cp (pv 1) (pv 4) (fun _ _=>rfl)) af))) (be _)) (ak (aI kD)) aN)
   (ak (aI (ju nI (bg cp (pv 3) (pv 4) (fun _ _=>rfl)) (aw CY h1 aF (aa (pv 2) (aa (xt Ct (pv 3) BC (BF (pv 4))) (aa (pv 5) af)))) rfl))))))),?_⟩
  have FW:i<xs.length:=by rw[xl];exact hi
  have gx:∀ {H':Hp},az H H'->bz K H' xa xs:=fun s=>bz.of (s _ _ tR);refine⟨_,rfl,_,rfl,sa,_,_,_,rfl,rfl,bz.of pP,aD (lV hi),?_⟩;cases ho:st.getD i none with
  |none=>
   refine⟨_,rfl,rfl,_,rfl,gD ⟨_,rfl,_,rfl,xa,_,_,_,rfl,rfl,gx (az.refl _),aD (uX FW),rfl,?_⟩⟩;exact q H _ (az.refl _) (by rw[iC,Pd ho])
  |some h=>
  obtain⟨hh,hg,mC⟩:=SN.ok i h ho;obtain⟨p,hp⟩:=HW hh hg mC;have BS:=Lq (ns:=ns) (homes:=homes) (xs:=xs) ho;obtain⟨o,wo⟩:=hW _ (show xs.getD i .bA∈xs by rw[cg,cJ FW];exact iF FW);refine⟨_,rfl,rfl,_,rfl,gP rfl ?_⟩;refine⟨_,rfl,_,rfl,xa,_,_,_,rfl,rfl,gx (az.refl _),aD (uX FW),_,o,rfl,wo _ (az.refl _),_,rfl,?_⟩;generalize hx:xs.getD i .bA=x at *;cases o with
  |none=>
   exact gD (gD (q H _ (az.refl _) (by rw[BS];exact⟨fun z=>(nomatch z),fun ⟨y,e,_⟩=>by rw[e] at wo;exact(Lp (wo _ (az.refl _))).elim⟩)))
  |some v=>
  obtain rfl:=pN (wo _ (az.refl _));refine eX ⟨_,rfl,_,rfl,xa,_,_,_,rfl,rfl,gx (az.refl _),aD (by rw[uX FW,hx]),_,rfl,b,dx,_,rfl,hb,CF,_,rfl,L,b,ns,h,rfl,BA,hh,fun r H1 s1 AL=>⟨r,_,rfl,.inl (bh.of AL),rfl,jE,_,rfl,?_⟩⟩;by_cases pH:V.int v∈NV (dG (pr ns) (lA ns) h)
  .obtain⟨y,hy,rfl⟩:∃y:Nat,y∈dG (pr ns) (lA ns) h/\v=(y:Int):=by
    obtain⟨y,hy,e⟩:=aQ.mp pH;injection e with e;exact⟨y,hy,e.symm⟩
   rw[ai rfl,(wM wN).mpr pH];refine eX ?_;have ht:((h:Int),(y:Int))∈lA ns:=(eG FI hh).mp hy;have Pg:y<pr ns:=rJ.mp (FI.rg _ ht).2.2;have VU:=(HR BX hh Pg)
   obtain⟨k,tk⟩:=(lx BX.pos hh Pg).mp ht;have Ph:=VU.mpr ⟨k,tk⟩;refine⟨_,rfl,b,dx,_,rfl,s1 _ _ hb,HQ,_,rfl,_,rfl,_,rfl,xa,_,_,_,rfl,rfl,gx s1,aD (by rw[uX FW,hx]),L,b,ns,_,_,some (h:Int),some (y:Int),rfl,BA.same s1,gW,gW,(fun z=>by rw[Ph] at z;cases z),fun h' y' _ _ e1 e2 _ H2 s2=>?_⟩;obtain rfl:h=h':=cV (bi e1);obtain rfl:y=y':=cV (bi e2);have jZ:=s1.trans s2;refine⟨_,rfl,b,dx,_,rfl,jZ _ _ hb,sW,_,rfl,_,rfl,_,rfl,ha,_,_,_,rfl,rfl,bz.of (jZ _ _ qt),aD (uY (by rw[SN.l];exact hi)),L,b,ns,_,_,some (h:Int),some (homes.getD i 0:Nat),rfl,BA.same jZ,gW,gW,(fun z=>by rw[dv hh,dv hg] at z;rcases z with z|z <;> cases z),fun h' g' _ _ e1 e2 H3 s3=>?_⟩;obtain rfl:h=h':=cV (bi e1);obtain rfl:homes.getD i 0=g':=cV (bi e2);have uh:=jZ.trans s3;refine⟨(k:Int),(p:Int),by rw[jb tk];rfl,by rw[hp];rfl,_,rfl,gG (fun c=>?_) (fun c=>?_)⟩
   .have c:=dA c;refine q H3 _ uh ?_;rw[BS];refine⟨fun z=>(nomatch z),fun ⟨y',e,⟨k',p',e1,t',l⟩,_⟩=>?_⟩;injection e with e;obtain rfl:=cV e;have a1:=bi ((jb tk).symm.trans (jb t'));have a2:=bi (hp.symm.trans e1);lia
   .have c:k<=p:=by
     by_cases z:k<=p
     .exact z
     .exact absurd (decide_eq_true (by lia)) c
    refine⟨_,rfl,_,rfl,xa,_,_,_,rfl,rfl,gx uh,aD (by rw[uX FW,hx]),_,rfl,_,rfl,_,rfl,_,rfl,xa,_,rfl,uh _ _ tR,fun t H4 s4 Pi=>?_⟩;rw[HL] at Pi;have lt:(xs.take i).length=i:=by rw[j6];lia
    refine⟨_,rfl,sa,t,st,xs.take i,h,rfl,s4 _ _ (uh _ _ pP),Pi,by lia,SN.wO,fun r2 H5 s5 EU=>?_⟩;rw[lt] at EU;have jS:∀v∈((List.range i).filter fun j=>decide (st.getD j none=some h)).map fun j=>(xs.take i).getD j .bA,∃j:Int,v=.int j:=by
     intro v hv;obtain⟨j,hj,rfl⟩:=aQ.mp hv;obtain⟨Em,Ls⟩:=bw.mp hj;have Em:=cU.mp Em;obtain⟨y',e,_⟩:=(hB j Em).2 h (dA Ls);refine⟨y',?_⟩;rw[<-e,cg,cg,qW Em]
    refine⟨r2,_,rfl,.inl (bh.of EU),rfl,T8 jS,?_⟩;rw[ai rfl];refine q H5 _ ((uh.trans s4).trans s5) ?_;rw[BS,vz,jM,Ne,wM jS];constructor
    .intro z;refine⟨y,rfl,⟨k,p,hp,tk,c⟩,fun j hj hs e=>z (aQ.mpr ⟨j,bw.mpr ⟨cU.mpr hj,decide_eq_true hs⟩,?_⟩)⟩;rw[<-e,cg,cg,qW hj]
    .rintro⟨y',e,_,z⟩ hm;injection e with e;obtain rfl:=cV e;obtain⟨j,hj,e'⟩:=aQ.mp hm;obtain⟨Em,Ls⟩:=bw.mp hj;have Em:=cU.mp Em;refine z j Em (dA Ls) ?_;rw[<-e',cg,cg,qW Em]
  .have e0:BI (.int v) (NV (dG (pr ns) (lA ns) h))=false:=jM.mpr fun z=>pH ((wM wN).mp z);rw[ai rfl,e0];refine gD (q H1 _ s1 ?_);rw[BS];refine⟨fun z=>(nomatch z),fun ⟨y,e,⟨k,p',e1,t,l⟩,_⟩=>?_⟩;injection e with e;subst e;have hk:k<ns.length:=by rcases t with z|z <;> exact MX z
   have Pg:=HU BX FI hh hk t;exact absurd (aQ.mpr ⟨y,(eG FI hh).mpr ((lx BX.pos hh Pg).mpr ⟨k,t⟩),rfl⟩) pH
theorem HY{H H':Hp}{xs:List V}(h:∀x∈xs,∃o,AU K H x o)(s:az H H'):∀x∈xs,∃o,AU K H' x o:=fun x hx=>let ⟨o,w⟩:=h x hx;⟨o,fun H2 s2=>w H2 (s.trans s2)⟩
theorem Ud:aA ["box","homes","stand","came","letter"] ["box","homes","stand","came"] (am Yy):=⟨rfl,rfl,rfl,by decide +kernel,rfl,by decide +kernel,by decide +kernel⟩
def Pj(K:PySem.W.Frag)(C CB:Addr):Sp:=fun vs H Q _=>∃ (L:Addr->Prop) (b ha sa xa:Addr) (ns homes:List Nat) (st:List (Option Nat)) (xs:List V),vs=[.ref b,.ref ha,.ref sa,.ref xa]/\dZ C CB H L b ns/\H ha=some (.tup (NV homes))/\H sa=some (.tup (st.map oV))/\H xa=some (.tup xs)/\Sn ns homes st/\(∀x∈xs,∃o,AU K H x o)/\∀ (H':Hp) (bb:Bool),az H H'->(bb=true↔HX ns homes st xs)->Q (.bl bb) H'
theorem Ue{f C CB:Addr}{fd:FuncData}(F:eN K "is_berthed" "is_berthed" Yy f fd)(B:Bl mg)(RW:cy P w K mg base ba 1 "is_row" ["thing","length"] (uQ K))(BE:cy P w K mg base ba 8 "is_berth" ["box","homes","stand","came","letter"] (Pf K C CB)):bj P w K mg base ba 9 f fd ["box","homes","stand","came"] (Pj K C CB):=by
 refine F.ok Ud (fun vs H Q E h=>?_) (fun dt A outer s H vs Q E hr h=>?_)
 .obtain⟨L,b,ha,sa,xa,ns,homes,st,xs,rfl,_⟩:=h;rfl
 .obtain⟨L,b,ha,sa,xa,ns,homes,st,xs,rfl,BA,qt,pP,tR,SN,hW,q⟩:=h;have h1:bQ 1 _:=hr.mono (by decide);have wO:=SN.wO;refine⟨_,(ah (bW (de (c_ (aw RW h1 aF (aa (pv 3) (aa (aG aJ (by rfl) B.len dS (aa (pv 2) af)) af))))) (ak (aI kD)) aN)
   (ah (bZ du rfl (ce rfl B.range (aa (aG aJ (by rfl) B.len dS (aa (pv 2) af)) af)) (au (i:=4) Ud.nd rfl (Or.inl rfl))
    (ak (bW (de (c_ (aw BE hr aF (aa (pv 0) (aa (pv 1) (aa (pv 2) (aa (pv 3) (aa (pv 4) af)))))))) (ak (aI kD)) aN)))
   (ak (aI kD)))),?_⟩
  refine⟨_,rfl,_,rfl,sa,_,rfl,.inr (bz.of pP),.ref xa,some xs,_,rfl,.tup tR,?_⟩;rw[aV];by_cases hl:xs.length=st.length
  .rw[show GR (some xs) ((st.length:Nat):Int)=true from decide_eq_true (by rw[hl])];refine⟨_,rfl,gP rfl ?_⟩;refine⟨_,rfl,sa,_,rfl,.inr (bz.of pP),_,rfl,by rw[aV];lia,by rw[aV];lia,?_⟩;rw[aV];refine d8 (n:=st.length) (lo:=0) (fun i σ H1=>(∃u,σ=[some (.ref b),some (.ref ha),some (.ref sa),some (.ref xa),u])/\az H H1/\∀j,j<i->Bt ns homes st xs j) ⟨⟨_,rfl⟩,az.refl _,fun j hj=>absurd hj (jQ _)⟩ ?_ ?_
   .rintro i σ H1 hi ⟨⟨u,rfl⟩,s1,hB⟩;refine⟨_,rfl,_,rfl,_,rfl,_,rfl,_,rfl,L,b,ha,sa,xa,ns,homes,st,xs,i,by rw[eU];rfl,BA.same s1,s1 _ _ qt,s1 _ _ pP,s1 _ _ tR,SN,hl,hi,HY hW s1,hB,fun H2 bb s2 hb=>⟨_,rfl,?_⟩⟩;cases bb with
    |false=>exact n5 rfl (q H2 _ (s1.trans s2) ⟨fun z=>(nomatch z),fun z=>hb.mpr (z.2 i hi)⟩)
    |true=>
     refine gP rfl ⟨⟨_,rfl⟩,s1.trans s2,fun j hj=>?_⟩;rcases vg.mp hj with z|z
     .exact hB j z
     .rw[z];exact hb.mp rfl
   .rintro σ H1 ⟨⟨u,rfl⟩,s1,hB⟩;exact q H1 _ s1 ⟨fun _=>⟨hl,hB⟩,fun _=>rfl⟩
  .rw[show GR (some xs) ((st.length:Nat):Int)=false from dP (fun z=>hl (by lia))];exact⟨_,rfl,n5 rfl (q H _ (az.refl _) ⟨fun z=>(nomatch z),fun z=>absurd z.1 hl⟩)⟩
theorem YF:aA ["box","homes","stand","came"] ["box","homes","stand","came"] (am YB):=⟨rfl,rfl,rfl,by decide +kernel,rfl,by decide +kernel,by decide +kernel⟩
theorem Pk:aA ["box","homes","stand","came","goes","house"] ["box","homes","stand","came"] (am YC):=⟨rfl,rfl,rfl,by decide +kernel,rfl,by decide +kernel,by decide +kernel⟩
end
end ue
namespace L2
open PySem PySem.Spec PyProof.Rows
section
variable {X:Cx} {pos:Pos}
end
end L2
namespace ue
open PySem L2 jW
abbrev YG:Stmt:=fV 58
abbrev YH:Stmt:=fV 59
theorem Pl:(["_law_tie","_law_house","_law_used"]:List Str).Nodup:=by decide +kernel
theorem Pm:(["_law_k","_law_pot_here","_law_many_here"]:List Str).Nodup:=by decide +kernel
theorem Pn{a b:List Nat}:NV a++NV b=NV (a++b):=dR.symm
theorem sZ{ns:List Nat}{h k:Nat}:(ni ns h k).length<=2:=by
 unfold ni;rw[dF];cases wJ ns h k false <;> cases wJ ns h k true <;> simp
section
variable {P:Program} {w:World} {K:PySem.W.Frag} {mg:Str->Option Value} {base:Heap}
theorem Lu:aA ["_law_sides_here","_law_house","_law_home","_law_used","_law_found","_law_k"] ["_law_sides_here","_law_house","_law_home","_law_used"] (am YG):=⟨rfl,rfl,rfl,by decide +kernel,rfl,by decide +kernel,by decide +kernel⟩
def Po:Sp:=fun vs H Q _=>∃ (a ua:Addr) (ns:List Nat) (h g p:Nat) (zs:Zs),vs=[.ref a,.int h,.int g,.ref ua]/\H a=some (.tup (NV ns))/\Bx ns/\jC ns h g=some p/\H ua=some (.lst (zr zs))/\PO H zs/\
 ∀ (r:Addr) (ys:List Nat) (H':Hp),az H H'->H r=none->H' r=some (.lst (NV ys))->ys.length<=20->(∀y∈ys,Ln ns h g y/\((h:Int),(y:Int))∉zp zs)->Q (.ref r) H'
theorem Uf{f:Addr}{fd:FuncData}(F:eN K "_law_lane_ties" "_law_lane_ties" YG f fd)(B:Bl mg)(PH:cy P w K mg base ba 2 "_law_phase" ["_law_sides_here","_law_house","_law_home"] Lm)(TI:cy P w K mg base ba 3 "_law_ties" ["_law_sides_here","_law_house","_law_k"] Ll):bj P w K mg base ba 4 f fd ["_law_sides_here","_law_house","_law_home","_law_used"] Po:=by
 refine F.ok Lu (fun vs H Q E h=>?_) (fun dt A outer s H vs Q E hr h=>?_)
 .obtain⟨a,ua,ns,h,g,p,zs,rfl,_⟩:=h;rfl
 .obtain⟨a,ua,ns,h,g,p,zs,rfl,ha,BX,hp,uZ,po,q⟩:=h;have h2:bQ 2 _:=hr.mono (by decide);have l5:=BX.l5;have pl:=(jD hp).1;refine'⟨_,(ah (aO (i:=4) Lu.nd rfl (Or.inl rfl) (dX af))
   (ah (bZ du rfl (ce rfl B.range (aa (bu eM (aw PH h2 aF (aa (pv 0) (aa (pv 1) (aa (pv 2) af)))) aB) af)) (au (i:=5) Lu.nd rfl (Or.inl rfl))
    (ak (aO (i:=4) Lu.nd rfl (Or.inl rfl) (bu NQ (pv 4) ?c1))))
   (ak (aI (pv 4))))),?_⟩
  case c1=>
   refine' d9 (g:=(cq 0)) (tt:=(iZ (nB (Ot K true) (NF (dq (bf 1) (dq (bf 0) mz))) (bf 2)))) (te:=(bf 0)) (NB:=["_law_tie","_law_house","_law_used"]) (src:=[none,some 1,some 3]) (cw (by kernel_rfl)) rfl (bC (aw TI hr aF (aa (pv 0) (aa (pv 1) (aa (pv 5) af))))) ?g ?t ?e;case g=>exact fun cl C s₃ H₃ fp=>(au (i:=0) Pl rfl (Or.inl rfl) (Or.inr rfl))
   case t=>exact fun cl C s₃ H₃ fp=>dD (aK (DV hr.u) (iS (aa (pv 1) (aa (pv 0) af))) (pv 2) rfl)
   case e=>exact fun cl C s₃ H₃ fp=>(pv 0)
  refine⟨by show 0<=sizeLine;decide,fun F0 hF0=>?_⟩;have s0:=ao (o:=.lst []) hF0;have g0:(upd H F0 (.lst [])) F0=some (.lst (NV [])):=ag;generalize upd H F0 (.lst [])=H0 at *;refine⟨_,rfl,_,rfl,_,rfl,a,ns,h,g,rfl,s0 _ _ ha,BX,fun H1 s1=>?_⟩;refine⟨(p:Int),1,by rw[hp];rfl,rfl,(p:Int)+1,rfl,by lia,by lia,?_⟩;rw[show ((p:Int)+1).toNat=p+1 by lia];refine d8 (n:=p+1) (lo:=0) (fun k σ H2=>∃ (r:Addr) (ys:List Nat) (z:Option V),σ=[some (.ref a),some (.int (h:Int)),some (.int (g:Int)),some (.ref ua),some (.ref r),z]/\az H H2/\H r=none/\H2 r=some (.lst (NV ys))/\ys.length<=2*k/\∀y∈ys,Ln ns h g y/\((h:Int),(y:Int))∉zp zs) ⟨F0,[],_,rfl,s0.trans s1,hF0,s1 _ _ g0,cE _,fun y z=>(nomatch z)⟩ ?_ ?_
  .rintro k σ H2 hk ⟨r,ys,z,rfl,s2,nr,EU,yl,hy⟩;have hkn:k<ns.length:=by lia
   rw[eU];refine⟨_,rfl,_,rfl,_,rfl,_,rfl,a,ns,h,k,rfl,s2 _ _ ha,BX,hkn,fun t H3 s3 nt ht3=>⟨t,rfl,⟨_,bh.of ht3⟩,fun D hD=>?_⟩⟩;refine lB (ni ns h k) (fun (y:Nat)=>V.int (y:Int)) (fun (y:Nat)=>decide (((h:Int),(y:Int))∉zp zs)) (fun (y:Nat)=>V.int (y:Int)) (fun σ=>∃u,σ=[u,some (.int (h:Int)),some (.ref ua)]) ht3 hD (aZ sZ (by decide)) ⟨_,rfl⟩ ?_ ?_
   .rintro y σ H4 Kt Kf hy4 ⟨u,rfl⟩ s4 kt kf;refine⟨_,rfl,_,rfl,by show 2<=sizeLine;decide,fun t4 Pi=>?_⟩;have sT:=ao (o:=.tup [.int (h:Int),.int (y:Int)]) Pi;have Pp:=(s2.trans s3).trans s4;refine⟨_,rfl,Oz (u:=((h:Int),(y:Int))) ag (sT _ _ (Pp _ _ uZ)) ((po.same Pp).same sT) ⟨_,rfl,?_⟩⟩;rw[ai rfl];refine gG (fun e=>⟨_,rfl,kt _ _ ⟨_,rfl⟩ sT ?_⟩) (fun e=>kf _ _ ⟨_,rfl⟩ sT ?_)
    .rw[vz,vh] at e;exact decide_eq_true e
    .rw[vz,vh] at e;exact dP e
   .intro H5 s5 tQ;have s25:=(s2.trans s3).trans s5;refine⟨r,D,_,_,rfl,rfl,s5 _ _ (s3 _ _ EU),tQ,?_,fun r2 Eg=>?_⟩
    .have:=gZ (fun (y:Nat)=>decide (((h:Int),(y:Int))∉zp zs)) (ni ns h k);have t2:=sZ (ns:=ns) (h:=h) (k:=k);rw[aY,aV];exact aZ (show _<=30 by lia) (by decide)
    have s6:=ao (o:=.lst (NV ys++((ni ns h k).filter fun (y:Nat)=>decide (((h:Int),(y:Int))∉zp zs)).map fun (y:Nat)=>V.int (y:Int))) Eg;refine⟨r2,ys++(ni ns h k).filter fun (y:Nat)=>decide (((h:Int),(y:Int))∉zp zs),_,rfl,s25.trans s6,s25.free Eg,by rw[ag,<-Pn],?_,fun y hy'=>?_⟩
    .have:=gZ (fun (y:Nat)=>decide (((h:Int),(y:Int))∉zp zs)) (ni ns h k);have t2:=sZ (ns:=ns) (h:=h) (k:=k);rw[dF];lia
    .rcases cR.mp hy' with z|z
     .exact hy y z
     .obtain⟨m1,m2⟩:=bw.mp z;exact⟨⟨k,p,hp,(sY BX.pos hkn).mp m1,by lia⟩,dA m2⟩
  .rintro σ H2 ⟨r,ys,z,rfl,s2,nr,EU,yl,hy⟩;exact⟨_,rfl,q r ys H2 s2 nr EU (by lia) hy⟩
theorem YI:aA ["_law_pot_here","_law_many_here"] ["_law_pot_here","_law_many_here"] (am YH):=⟨rfl,rfl,rfl,by decide +kernel,rfl,by decide +kernel,by decide +kernel⟩
def Pq:Sp:=fun vs H Q _=>∃ (p:Addr) (n:Nat),vs=[.ref p,.int n]/\2<=n/\n<=32/\cN H p/\∀ (r:Addr) (hs:List Nat) (H':Hp),cz p H H'->cN H' p->H r=none->H' r=some (.lst (NV hs))->hs≠[]->hs.length<=32->(∀x∈hs,x<n)->Q (.ref r) H'
theorem Ug{f:Addr}{fd:FuncData}(F:eN K "_law_houses" "_law_houses" YH f fd)(B:Bl mg)(DR:cy P w K mg base ba 1 "_law_draw" ["_law_pot_here","_law_many_here"] Ej):bj P w K mg base ba 2 f fd ["_law_pot_here","_law_many_here"] Pq:=by
 refine F.ok YI (fun vs H Q E h=>?_) (fun dt A outer s H vs Q E hr h=>?_)
 .obtain⟨p,n,rfl,_⟩:=h;rfl
 .obtain⟨p,n,rfl,n1,n2,hp,q⟩:=h;have h1:bQ 1 _:=hr.mono (by decide);refine'⟨_,(ah (bW (aK iY (aw DR h1 aF (aa (pv 0) (aa aB af))) aB (be _)) (ak (aI (cf (Am rfl) (by rfl) B.lst qX (aa (cf p7 (by rfl) B.range PyProof.Rows.boot_range (aa (pv 1) af)) af)))) aN)
   (ak (aI ?c1))),?_⟩
  case c1=>
   refine' d9 (g:=(cq 0)) (te:=(nE Ej [] E0 (dq (bf 1) (dq (bf 2) mz)))) (NB:=["_law_k","_law_pot_here","_law_many_here"]) (src:=[none,some 0,some 1]) (cw (by kernel_rfl)) rfl (ce rfl B.range (aa (bu eM aB (aw DR h1 aF (aa (pv 0) (aa aB af)))) af)) ?g ?t ?e;case g=>exact fun cl C s₃ H₃ fp=>(au (i:=0) Pm rfl (Or.inl rfl) (Or.inr rfl))
   case t=>exact fun cl C s₃ H₃ fp=>fQ
   case e=>exact fun cl C s₃ H₃ fp=>(aw DR h1 aF (aa (pv 1) (aa (pv 2) af)))
  refine⟨_,rfl,p,3,rfl,by decide,by decide,hp,fun d H1 hd s1 p1=>⟨rfl,_,rfl,gG (fun e=>?_) (fun e=>?_)⟩⟩
  .refine⟨_,rfl,n,rfl,fun x hx=>⟨x,n,rfl,ag,by lia,fun l hl=>?_⟩⟩;have sx:=(ao (o:=.Bi 0 (n:Int)) hx).trans (ao (o:=.lst ((List.range n).map fun (i:Nat)=>V.int i)) hl);refine q l (List.range n) _ (s1.trans (cz.of sx)) (p1.same sx) ?_ ag (by intro z;have:=congrArg List.length z;rw[fm] at this;simp at this;lia) (by rw[fm];exact n2) fun x hx=>cU.mp hx;exact s1.free p1.full ((ao (o:=.Bi 0 (n:Int)) hx).free hl)
  .refine⟨_,rfl,p,4,rfl,by decide,by decide,p1,fun d2 H2 Uh s2 p2=>⟨_,_,rfl,rfl,_,rfl,by lia,by lia,fun D hD=>?_⟩⟩;rw[show ((1:Int)+(d2:Int)).toNat=1+d2 by lia];have jZ:=s1.trans s2;have nD:=p2.ne hD;refine ik (lo:=0) (n:=1+d2) (fun i ys σ H5=>(∃u,σ=[u,some (.ref p),some (.int (n:Int))])/\cz p H2 H5/\cN H5 p/\H5 D=some (.lst ys)/\∃hs:List Nat,ys=NV hs/\hs.length=i/\∀x∈hs,x<n) ⟨⟨_,rfl⟩,cz.of (ao hD),p2.same (ao hD),ag,[],rfl,rfl,fun x z=>(nomatch z)⟩ ?_ ?_
   .rintro i ys σ H5 Kt Kf hi ⟨⟨u,rfl⟩,s5,p5,tQ,hs,rfl,hl,hx⟩ kt kf;refine⟨_,rfl,_,rfl,p,n,rfl,by lia,by lia,p5,fun d3 H6 Ui s6 p6=>kt _ _ _ (s6 _ _ tQ nD) (by rw[aY,hl];exact bK (show i<5 by lia) (by decide)) ⟨⟨_,rfl⟩,?_,p6.put nD.symm,ag,hs++[d3],gU,by rw[dF,hl];rfl,fun x d7=>?_⟩⟩
    .exact fun b o e n=>by
      by_cases z:b=D
      .rw[z,hD] at e;cases e
      .rw[al z];exact(s5.trans s6) b o e n
    .rcases cR.mp d7 with z|z
     .exact hx x z
     .rw[cI.mp z];exact Ui
   .rintro ys σ H5 ⟨_,s5,p5,tQ,hs,rfl,hl,hx⟩;exact q D hs H5 (jZ.trans s5) p5 (jZ.free p2.full hD) tQ (by intro z;rw[z] at hl;simp at hl;lia) (by lia) hx
end
abbrev YJ:Stmt:=fV 60
theorem Pr{n h e:Nat}(hh:h<n)(h1:1<=e)(h2:e<n):(h+e) % n≠h:=by
 by_cases c:h+e<n
 .rw[kg c];lia
 .rw[Nat.mod_eq_sub_mod (by lia),kg (by lia)];lia
theorem Lv{α:Type}{l:List α}{x d:α}{j:Nat}(h:j<l.length):(l++[x]).getD j d=l.getD j d:=by
 rw[cg,cg,pT h]
theorem YK{α:Type}{l:List α}{x d:α}:(l++[x]).getD l.length d=x:=by
 rw[cg,oz (aW _),Nat.sub_self];rfl
theorem Ps{α:Type}{l:List α}{x d:α}{k:Nat}(e:l.length=k):(l++[x]).getD k d=x:=by rw[<-e];exact YK
structure Gd(ns homes:List Nat)(st cs:List (Option Nat))(zs:Zs):Prop where
 lh:homes.length=st.length
 lc:cs.length=st.length
 lz:zs.length<=st.length
 bA:∀j,j<st.length->st.getD j none=none->cs.getD j none=none
 ok:∀j h,j<st.length->st.getD j none=some h->h<pr ns/\homes.getD j 0<pr ns/\h≠homes.getD j 0/\∃y,cs.getD j none=some y/\Ln ns h (homes.getD j 0) y/\((h:Int),(y:Int))∈zp zs/\∀j',j'<j->st.getD j' none=some h->cs.getD j' none≠some y
theorem HZ{a b:Zs}:zp (a++b)=zp a++zp b:=dR
theorem Gd.snoc{ns homes:List Nat}{st cs:List (Option Nat)}{zs uS:Zs}{g:Nat}{o o':Option Nat}(G:Gd ns homes st cs zs)(hz:∀u∈zp zs,u∈zp uS)(hzl:uS.length<=zs.length+1)(hn:o=none->o'=none)(hs:∀h,o=some h->h<pr ns/\g<pr ns/\h≠g/\∃y,o'=some y/\Ln ns h g y/\((h:Int),(y:Int))∈zp uS/\((h:Int),(y:Int))∉zp zs):Gd ns (homes++[g]) (st++[o]) (cs++[o']) uS:=by
 have lh:=G.lh;have lc:=G.lc;have lz:=G.lz;refine⟨by rw[dF,dF,lh];rfl,by rw[dF,dF,lc];rfl,by rw[dF];show _<=_+1;lia,fun j hj e=>?_,fun j h hj e=>?_⟩
 .rw[dF] at hj;rcases vg.mp hj with z|z
  .rw[Lv z] at e;rw[Lv (by lia)];exact G.bA j z e
  .rw[z,YK] at e;rw[Ps (by lia)];exact hn e
 .rw[dF] at hj;rcases vg.mp hj with z|z
  .rw[Lv z] at e;obtain⟨a,b,c,y,e1,e2,e3,e4⟩:=G.ok j h z e;rw[Lv (by lia),Lv (by lia)];refine⟨a,b,c,y,e1,e2,hz _ e3,fun j' QY q=>?_⟩;rw[Lv (by lia)] at q;rw[Lv (by lia)];exact e4 j' QY q
  .rw[z,YK] at e;obtain⟨a,b,c,y,e1,e2,e3,e4⟩:=hs h e;rw[Ps (by lia),Ps (by lia)];refine⟨a,b,c,y,e1,e2,e3,fun j' QY q q'=>e4 ?_⟩;rw[Lv (by lia)] at q;rw[Lv (by lia)] at q';obtain⟨_,_,_,y',f1,_,f3,_⟩:=G.ok j' h (by lia) q;rw[f1] at q';rw[<-bi q'];exact f3
theorem u3{cs:List (Option Nat)}{j:Nat}:(cs.map oV).getD j .bA=oV (cs.getD j none):=by
 rw[cg,bv,cg];cases cs[j]? <;> rfl
theorem H_{o:Option Nat}{y:Nat}(h:oV o=.int (y:Int)):o=some y:=by
 cases o with
 |none=>cases h
 |some z=>injection h with h;rw[cV h]
theorem Gd.sn{ns homes:List Nat}{st cs:List (Option Nat)}{zs:Zs}(G:Gd ns homes st cs zs)(l:st.length<=16):Sn ns homes st:=by
 refine⟨G.lh,fun i h e=>?_,l⟩;have hi:i<st.length:=by
  by_cases c:i<st.length
  .exact c
  .rw[cg,j4 (by lia)] at e;cases e
 obtain⟨a,b,c,_⟩:=G.ok i h hi e;exact⟨a,b,c⟩
theorem Gd.bts{ns homes:List Nat}{st cs:List (Option Nat)}{zs:Zs}(G:Gd ns homes st cs zs):HX ns homes st (cs.map oV):=by
 refine⟨by rw[aV];exact G.lc,fun i hi=>⟨fun e=>by rw[u3,G.bA i hi e];rfl,fun h e=>?_⟩⟩;obtain⟨_,_,_,y,e1,e2,_,e4⟩:=G.ok i h hi e;refine⟨y,by rw[u3,e1];rfl,e2,fun j hj q=>?_⟩;rw[u3];exact fun z=>e4 j hj q (H_ z)
theorem wP{H:Hp}{zs:Zs}{D:Addr}{xs:List V}{o:HO}(h:PO H zs)(e:H D=some (.lst xs)):PO (upd H D o) zs:=fun z hz=>by
 have:=h z hz;rw[al (by rintro rfl;rw[e] at this;cases this)];exact this
theorem lC{p D:Addr}{H H':Hp}{o:HO}(s:cz p H H')(n:H D=none):cz p H (upd H' D o):=fun b u e hb=>by
 by_cases z:b=D
 .rw[z,n] at e;cases e
 .rw[al z];exact s b u e hb
structure Ad(H:Hp)(p sr gl hm iq cm ua:Addr):Prop where
 nd:[p,sr,gl,hm,iq,cm,ua].Nodup
 nh:H hm=none
 ns:H iq=none
 nc:H cm=none
 nu:H ua=none
structure Bs(p sd sr gl hm iq cm ua:Addr)(ns cA dH:List Nat)(homes:List Nat)(st cs:List (Option Nat))(zs:Zs)(H0 H:Hp):Prop where
 CH:cN H p
 s0:cz p H0 H
 im:H sr=some (.lst (NV cA))
 CI:H gl=some (.lst (NV dH))
 AX:H hm=some (.lst (NV homes))
 iw:H iq=some (.lst (st.map oV))
 yc:H cm=some (.lst (cs.map oV))
 uZ:H ua=some (.lst (zr zs))
 po:PO H zs
section
variable {p sd sr gl hm iq cm ua:Addr} {ns cA dH homes:List Nat} {st cs:List (Option Nat)} {zs:Zs} {H0 H H':Hp}
theorem Bs.gQ(h:Bs p sd sr gl hm iq cm ua ns cA dH homes st cs zs H0 H)(A:Ad H0 p sr gl hm iq cm ua)(s:cz p H H')(hp:cN H' p):Bs p sd sr gl hm iq cm ua ns cA dH homes st cs zs H0 H':=by
 have nd:=A.nd;simp only[cM,a7,jo,iE,oN,oU,ft] at nd;obtain⟨⟨a1,a2,a3,a4,a5,a6⟩,_⟩:=nd;exact⟨hp,h.s0.trans s,s _ _ h.im (bE a1),s _ _ h.CI (bE a2),s _ _ h.AX (bE a3),s _ _ h.iw (bE a4),s _ _ h.yc (bE a5),s _ _ h.uZ (bE a6),h.po.gQ s h.CH⟩
theorem Bs.same(h:Bs p sd sr gl hm iq cm ua ns cA dH homes st cs zs H0 H)(A:Ad H0 p sr gl hm iq cm ua)(s:az H H'):Bs p sd sr gl hm iq cm ua ns cA dH homes st cs zs H0 H':=h.gQ A (cz.of s) (h.CH.same s)
theorem Bs.aH(h:Bs p sd sr gl hm iq cm ua ns cA dH homes st cs zs H0 H)(A:Ad H0 p sr gl hm iq cm ua){g:Nat}:Bs p sd sr gl hm iq cm ua ns cA dH (homes++[g]) st cs zs H0 (upd H hm (.lst (NV homes++[.int (g:Int)]))):=by
 have nd:=A.nd;simp only[cM,a7,jo,iE,oN,oU,ft] at nd;obtain⟨⟨a1,a2,a3,a4,a5,a6⟩,⟨b2,b3,b4,b5,b6⟩,⟨c3,c4,c5,c6⟩,⟨d4,d5,d6⟩,⟨e5,e6⟩,f6⟩:=nd;exact⟨h.CH.put a3,lC h.s0 A.nh,by rw[al b3];exact h.im,by rw[al c3];exact h.CI,by rw[ag,<-gU],by rw[al (bE d4)];exact h.iw,by rw[al (bE d5)];exact h.yc,by rw[al (bE d6)];exact h.uZ,wP h.po h.AX⟩
theorem Bs.aS(h:Bs p sd sr gl hm iq cm ua ns cA dH homes st cs zs H0 H)(A:Ad H0 p sr gl hm iq cm ua){o:Option Nat}:Bs p sd sr gl hm iq cm ua ns cA dH homes (st++[o]) cs zs H0 (upd H iq (.lst (st.map oV++[oV o]))):=by
 have nd:=A.nd;simp only[cM,a7,jo,iE,oN,oU,ft] at nd;obtain⟨⟨a1,a2,a3,a4,a5,a6⟩,⟨b2,b3,b4,b5,b6⟩,⟨c3,c4,c5,c6⟩,⟨d4,d5,d6⟩,⟨e5,e6⟩,f6⟩:=nd;exact⟨h.CH.put a4,lC h.s0 A.ns,by rw[al b4];exact h.im,by rw[al c4];exact h.CI,by rw[al d4];exact h.AX,by rw[ag,dR];rfl,by rw[al (bE e5)];exact h.yc,by rw[al (bE e6)];exact h.uZ,wP h.po h.iw⟩
theorem Bs.aC(h:Bs p sd sr gl hm iq cm ua ns cA dH homes st cs zs H0 H)(A:Ad H0 p sr gl hm iq cm ua){o:Option Nat}:Bs p sd sr gl hm iq cm ua ns cA dH homes st (cs++[o]) zs H0 (upd H cm (.lst (cs.map oV++[oV o]))):=by
 have nd:=A.nd;simp only[cM,a7,jo,iE,oN,oU,ft] at nd;obtain⟨⟨a1,a2,a3,a4,a5,a6⟩,⟨b2,b3,b4,b5,b6⟩,⟨c3,c4,c5,c6⟩,⟨d4,d5,d6⟩,⟨e5,e6⟩,f6⟩:=nd;exact⟨h.CH.put a5,lC h.s0 A.nc,by rw[al b5];exact h.im,by rw[al c5];exact h.CI,by rw[al d5];exact h.AX,by rw[al e5];exact h.iw,by rw[ag,dR];rfl,by rw[al (bE f6)];exact h.uZ,wP h.po h.yc⟩
theorem Bs.aU(h:Bs p sd sr gl hm iq cm ua ns cA dH homes st cs zs H0 H)(A:Ad H0 p sr gl hm iq cm ua){t:Addr}{u:Int×Int}(ht:H t=some (ML u)):Bs p sd sr gl hm iq cm ua ns cA dH homes st cs (zs++[(t,u)]) H0 (upd H ua (.lst (zr zs++[.ref t]))):=by
 have nd:=A.nd;simp only[cM,a7,jo,iE,oN,oU,ft] at nd;obtain⟨⟨a1,a2,a3,a4,a5,a6⟩,⟨b2,b3,b4,b5,b6⟩,⟨c3,c4,c5,c6⟩,⟨d4,d5,d6⟩,⟨e5,e6⟩,f6⟩:=nd;refine⟨h.CH.put a6,lC h.s0 A.nu,by rw[al b6];exact h.im,by rw[al c6];exact h.CI,by rw[al d6];exact h.AX,by rw[al e6];exact h.iw,by rw[al f6];exact h.yc,by rw[ag,pL];rfl,wP (fun z hz=>?_) h.uZ⟩;rcases cR.mp hz with z'|z'
 .exact h.po z z'
 .rw[cI.mp z'];exact ht
end
section
variable {P:Program} {w:World} {K:PySem.W.Frag} {mg:Str->Option Value} {base:Heap}
theorem mW:aA ["_law_pot_here","_law_sides_here","_law_many_here","_law_starts","_law_goals","_law_homes","_law_stand","_law_came","_law_used","_law_i","_law_house","_law_home","_law_ties_here","_law_tie"] ["_law_pot_here","_law_sides_here"] (am YJ):=⟨rfl,rfl,rfl,by decide +kernel,rfl,by decide +kernel,by decide +kernel⟩
def Pu:Sp:=fun vs H Q _=>∃ (p sd:Addr) (ns:List Nat),vs=[.ref p,.ref sd]/\cN H p/\H sd=some (.tup (NV ns))/\Bx ns/\2<=pr ns/\
 ∀ (t ha sa xa:Addr) (homes:List Nat) (st cs:List (Option Nat)) (H':Hp),cz p H H'->cN H' p->H' t=some (.tup [.ref ha,.ref sa,.ref xa])->H' ha=some (.tup (NV homes))->H' sa=some (.tup (st.map oV))->H' xa=some (.tup (cs.map oV))->Sn ns homes st->cs.length=st.length->HX ns homes st (cs.map oV)->Q (.ref t) H'
theorem Uj{f:Addr}{fd:FuncData}(F:eN K "_law_berthed" "_law_berthed" YJ f fd)(B:Bl mg)(MA:cy P w K mg base ba 1 "_law_many" ["_law_sides_here"] Ek)(DR:cy P w K mg base ba 1 "_law_draw" ["_law_pot_here","_law_many_here"] Ej)(HS:cy P w K mg base ba 2 "_law_houses" ["_law_pot_here","_law_many_here"] Pq)(LT:cy P w K mg base ba 4 "_law_lane_ties" ["_law_sides_here","_law_house","_law_home","_law_used"] Po):bj P w K mg base ba 5 f fd ["_law_pot_here","_law_sides_here"] Pu:=by
 refine F.ok mW (fun vs H Q E h=>?_) (fun dt A outer s H vs Q E hr h=>?_)
 .obtain⟨p,sd,ns,rfl,_⟩:=h;rfl
 .obtain⟨p,sd,ns,rfl,hp,Rc,BX,n1,q⟩:=h;have h1:bQ 1 _:=hr.mono (by decide);have h2:bQ 2 _:=hr.mono (by decide);have h4:bQ 4 _:=hr.mono (by decide);have n2:=BX.MZ;refine⟨_,(ah (aO (i:=2) mW.nd rfl (Or.inl rfl) (aw MA h1 aF (aa (pv 1) af))) (ah (Ny (i:=3) (j:=4) rfl mW.nd rfl rfl (by decide) rfl rfl (aa (aw HS h2 aF (aa (pv 0) (aa (pv 2) af))) (aa (aw HS h2 aF (aa (pv 0) (aa (pv 2) af))) af)) (by rfl)) (ah (ic (iS (aa (dX af) (aa (dX af) (aa (dX af) (aa (dX af) af))))) (gw (n:=4) rfl (aR (au (i:=5) mW.nd rfl (Or.inl rfl)) (aR (au (i:=6) mW.nd rfl (Or.inl rfl)) (aR (au (i:=7) mW.nd rfl (Or.inl rfl)) (aR (au (i:=8) mW.nd rfl (Or.inl rfl)) eI)))))) (ah (bZ du rfl (ce rfl B.range (aa (aw DR h1 aF (aa (pv 0) (aa aB af))) af)) (au (i:=9) mW.nd rfl (Or.inl rfl)) (ah (aO (i:=10) mW.nd rfl (Or.inl rfl) (bg bD (pv 3) (aw DR h1 aF (aa (pv 0) (aa (aG aJ (by rfl) B.len dS (aa (pv 3) af)) af))) (fun _ _=>rfl))) (ah (aO (i:=11) mW.nd rfl (Or.inl rfl) (bg bD (pv 4) (aw DR h1 aF (aa (pv 0) (aa (aG aJ (by rfl) B.len dS (aa (pv 4) af)) af))) (fun _ _=>rfl))) (ah (bW (aK iY (pv 11) (pv 10) (be _)) (ak (aO (i:=11) mW.nd rfl (Or.inl rfl) (bu jt (bu eM (bu eM (pv 10) aB) (aw DR h1 aF (aa (pv 0) (aa (bu mx (pv 2) aB) af)))) (pv 2)))) aN) (ah (bq (ig gY jH jG cL (pv 5) (aa (pv 11) af))) (ah (aO (i:=12) mW.nd rfl (Or.inl rfl) (aw LT h4 aF (aa (pv 1) (aa (pv 10) (aa (pv 11) (aa (pv 8) af)))))) (ah (bW (PW.pt (xm (aK (Oc (e:=vZ) hr.u) (pv 12) (dX af) (be _)) (rQ (aK iY (aw DR h1 aF (aa (pv 0) (aa aB af))) aB (be _))))) (ak (ic (iS (aa dC (aa dC af))) (gw (n:=2) rfl (aR (au (i:=10) mW.nd rfl (Or.inl rfl)) (aR (au (i:=13) mW.nd rfl (Or.inl rfl)) eI))))) (ah (aO (i:=13) mW.nd rfl (Or.inl rfl) (bg bD (pv 12) (aw DR h1 aF (aa (pv 0) (aa (aG aJ (by rfl) B.len dS (aa (pv 12) af)) af))) (fun _ _=>rfl))) (ak (bq (ig gY jH jG cL (pv 8) (aa (iS (aa (pv 10) (aa (pv 13) af))) af)))))) (ah (bq (ig gY jH jG cL (pv 6) (aa (pv 10) af))) (ak (bq (ig gY jH jG cL (pv 7) (aa (pv 13) af)))))))))))) (ak (aI (iS (aa (cf cr (by rfl) B.tup jI (aa (pv 5) af)) (aa (cf cr (by rfl) B.tup jI (aa (pv 6) af)) (aa (cf cr (by rfl) B.tup jI (aa (pv 7) af)) af)))))))))),?_⟩;refine⟨_,rfl,sd,ns,rfl,Rc,(fun x hx=>(BX.sd x hx).2),?_⟩;refine⟨_,rfl,_,rfl,p,pr ns,rfl,n1,n2,hp,fun sr cA H1 s1 p1 Tz im sne sl sx=>⟨_,rfl,_,rfl,p,pr ns,rfl,n1,n2,p1,fun gl dH H2 s2 p2 YL CI gne gll gx=>⟨_,_,rfl,?_⟩⟩⟩;refine⟨by show 0<=sizeLine;decide,fun hm AX=>⟨by show 0<=sizeLine;decide,fun iq iw=>⟨by show 0<=sizeLine;decide,fun cm yc=>⟨by show 0<=sizeLine;decide,fun ua uZ=>⟨by show 4<=sizeLine;decide,fun t4 Pi=>⟨t4,_,rfl,bz.of ag,rfl,_,_,rfl,_,_,rfl,_,_,rfl,_,_,rfl,rfl,?_⟩⟩⟩⟩⟩⟩;have Uk:sr≠p:=hp.ne Tz;have YM:gl≠p:=p1.ne YL;have En:=s2 _ _ im Uk;have v1:=ao (o:=.lst []) AX;have e1:(upd H2 hm (.lst [])) hm=some (.lst []):=ag;generalize hA:upd H2 hm (.lst [])=HA at *;have v2:=ao (o:=.lst []) iw;have e2:(upd HA iq (.lst [])) iq=some (.lst []):=ag;generalize hB:upd HA iq (.lst [])=HB at *;have v3:=ao (o:=.lst []) yc;have e3:(upd HB cm (.lst [])) cm=some (.lst []):=ag;generalize hC:upd HB cm (.lst [])=HC at *;have v4:=ao (o:=.lst []) uZ;have e4:(upd HC ua (.lst [])) ua=some (.lst []):=ag;generalize hD:upd HC ua (.lst [])=HD at *;have v5:=ao (o:=.tup [.ref hm,.ref iq,.ref cm,.ref ua]) Pi;generalize hF:upd HD t4 (.tup [.ref hm,.ref iq,.ref cm,.ref ua])=HF at *;have YN:=s1.trans s2;have AD:Ad H p sr gl hm iq cm ua:=by
   have f2:∀ {x:Addr},H2 x=none->H x=none:=fun z=>YN.free p2.full z;have gA:∀ {x:Addr} {o:HO},HA x=some o->HB x=some o:=fun z=>v2 _ _ z;refine⟨?_,f2 AX,f2 (v1.free iw),f2 ((v1.trans v2).free yc),f2 (((v1.trans v2).trans v3).free uZ)⟩;have nn:∀ {G:Hp} {x y:Addr} {o:HO},G x=some o->G y=none->x≠y:=fun z z' e=>by rw[e,z'] at z;cases z
   obtain⟨pa,pb,pe,_⟩:=p2;simp only[cM,a7,jo,iE,oN,oU,ft];exact⟨⟨Uk.symm,YM.symm,nn pe AX,nn (v1 _ _ pe) iw,nn (v2 _ _ (v1 _ _ pe)) yc,nn (v3 _ _ (v2 _ _ (v1 _ _ pe))) uZ⟩,⟨nn im YL,nn En AX,nn (v1 _ _ En) iw,nn (v2 _ _ (v1 _ _ En)) yc,nn (v3 _ _ (v2 _ _ (v1 _ _ En))) uZ⟩,⟨nn CI AX,nn (v1 _ _ CI) iw,nn (v2 _ _ (v1 _ _ CI)) yc,nn (v3 _ _ (v2 _ _ (v1 _ _ CI))) uZ⟩,⟨nn e1 iw,nn (v2 _ _ e1) yc,nn (v3 _ _ (v2 _ _ e1)) uZ⟩,⟨nn e2 yc,nn (v3 _ _ e2) uZ⟩,nn e3 uZ⟩
  have vv:=(((v1.trans v2).trans v3).trans v4).trans v5;have BS:Bs p sd sr gl hm iq cm ua ns cA dH [] [] [] [] H HF:=⟨p2.same vv,YN.trans (cz.of vv),vv _ _ En,vv _ _ CI,v5 _ _ (v4 _ _ (v3 _ _ (v2 _ _ e1))),v5 _ _ (v4 _ _ (v3 _ _ e2)),v5 _ _ (v4 _ _ e3),v5 _ _ e4,fun z hz=>(nomatch hz)⟩
  clear e1 e2 e3 e4 v1 v2 v3 v4 v5 vv hA hB hC hD hF AX iw yc uZ Pi En im CI YL Tz YN s1 s2 p1 p2;refine⟨_,rfl,p,17,rfl,by decide,by decide +kernel,BS.CH,fun m H3 Xi s3 p3=>⟨_,rfl,by lia,by lia,?_⟩⟩;have BS3:=BS.gQ AD s3 p3;clear BS;rw[show ((m:Int)).toNat=m by lia];refine d8 (n:=m) (lo:=0) (fun i σ Hc=>(∃z9 YO YQ Ul Re,σ=[some (.ref p),some (.ref sd),some (.int (pr ns:Nat)),some (.ref sr),some (.ref gl),some (.ref hm),some (.ref iq),some (.ref cm),some (.ref ua),z9,YO,YQ,Ul,Re])/\∃homes st cs zs,Bs p sd sr gl hm iq cm ua ns cA dH homes st cs zs H Hc/\Gd ns homes st cs zs/\st.length=i) ⟨⟨_,_,_,_,_,rfl⟩,[],[],[],[],BS3,⟨rfl,rfl,aW _,fun j hj=>absurd hj (jQ _),fun j h hj=>absurd hj (jQ _)⟩,rfl⟩ ?_ ?_
  rotate_left
  .rintro σ Hc ⟨⟨z9,YO,YQ,Ul,Re,rfl⟩,homes,st,cs,zs,b,G,hl⟩;refine⟨_,rfl,hm,_,rfl,.inl ⟨bh.of b.AX,fun ha qt=>?_⟩⟩;have s1:=ao (o:=.tup (NV homes)) qt;refine⟨_,rfl,iq,_,rfl,.inl ⟨bh.of (s1 _ _ b.iw),fun sa pP=>?_⟩⟩;have s2:=ao (o:=.tup (st.map oV)) pP;refine⟨_,rfl,cm,_,rfl,.inl ⟨bh.of (s2 _ _ (s1 _ _ b.yc)),fun xa tR=>?_⟩⟩;have s3:=ao (o:=.tup (cs.map oV)) tR;refine⟨by show 3<=sizeLine;decide,fun t ht=>?_⟩;have s4:=ao (o:=.tup [.ref ha,.ref sa,.ref xa]) ht;have ss:=((s1.trans s2).trans s3).trans s4;exact q t ha sa xa homes st cs _ (b.s0.trans (cz.of ss)) (b.CH.same ss) ag (s4 _ _ (s3 _ _ (s2 _ _ ag))) (s4 _ _ (s3 _ _ ag)) (s4 _ _ ag) (G.sn (by lia)) G.lc G.bts
  clear BS3 p3 s3;rintro i σ Hc hi ⟨⟨z9,YO,YQ,Ul,Re,rfl⟩,homes,st,cs,zs,b0,G,hl⟩;have sp:0<cA.length:=List.length_pos_iff.mpr sne;have gp:0<dH.length:=List.length_pos_iff.mpr gne;refine⟨_,rfl,_,rfl,_,rfl,sr,_,rfl,.inl (bh.of b0.im),p,cA.length,by rw[aY];rfl,sp,by lia,b0.CH,fun d1 H1 Rf s1 p1=>?_⟩;have b1:=b0.gQ AD s1 p1;clear b0;refine⟨sr,_,_,_,rfl,rfl,bh.of b1.im,aD (uY Rf),?_⟩;generalize hh0:cA.getD d1 0=h;have hh:h<pr ns:=by rw[<-hh0];exact sx _ (by rw[cg,cJ Rf];exact iF _)
  refine⟨_,rfl,_,rfl,_,rfl,gl,_,rfl,.inl (bh.of b1.CI),p,dH.length,by rw[aY];rfl,gp,by lia,b1.CH,fun d2 H2 Uh s2 p2=>?_⟩;have b2:=b1.gQ AD s2 p2;clear b1 s1 p1;refine⟨gl,_,_,_,rfl,rfl,bh.of b2.CI,aD (uY Uh),?_⟩;generalize hg0:dH.getD d2 0=g0;have YR:g0<pr ns:=by rw[<-hg0];exact gx _ (by rw[cg,cJ Uh];exact iF _)
  refine lQ (fun σ Hx=>σ=[some (.ref p),some (.ref sd),some (.int (pr ns:Nat)),some (.ref sr),some (.ref gl),some (.ref hm),some (.ref iq),some (.ref cm),some (.ref ua),some (.int (i:Int)),some (.int (h:Int)),some (.int (g0:Int)),Ul,Re]/\Bs p sd sr gl hm iq cm ua ns cA dH homes st cs zs H Hx) ?_ (fun N hN=>hN _ _ ⟨by rw[eU];rfl,b2⟩);clear b2 s2 p2;rintro σ H2 ⟨rfl,b2⟩;refine lQ (fun σ Hx=>∃g,σ=[some (.ref p),some (.ref sd),some (.int (pr ns:Nat)),some (.ref sr),some (.ref gl),some (.ref hm),some (.ref iq),some (.ref cm),some (.ref ua),some (.int (i:Int)),some (.int (h:Int)),some (.int (g:Nat)),Ul,Re]/\g<pr ns/\h≠g/\Bs p sd sr gl hm iq cm ua ns cA dH homes st cs zs H Hx) ?_ ?_
  rotate_left
  .intro N hN;refine⟨_,rfl,_,rfl,rfl,_,rfl,gG (fun e=>?_) (fun e=>hN _ _ ⟨g0,rfl,YR,fun z=>e (by rw[z];exact decide_eq_true rfl),b2⟩)⟩;refine⟨_,rfl,_,_,rfl,rfl,_,rfl,_,rfl,_,_,rfl,rfl,p,pr ns-1,by rw[show (((pr ns-1:Nat)):Int)=((pr ns:Nat):Int)-1 by lia];rfl,by lia,by lia,b2.CH,fun d3 H3 Ui s3 p3=>⟨_,_,rfl,rfl,_,rfl,_,_,rfl,rfl,(by show (0:Int)<((pr ns:Nat):Int);lia),?_⟩⟩;have ev:((h:Int)+1+(d3:Int)) % ((pr ns:Nat):Int)=(((h+(1+d3)) % pr ns:Nat):Int):=by
    rw[Int.natCast_emod];congr 1;lia
   refine hN _ _ ⟨(h+(1+d3)) % pr ns,?_,jn _ (by lia),(Pr hh (by lia) (by lia)).symm,b2.gQ AD s3 p3⟩;rw[<-ev];rfl
  clear b2;rintro σ Hx ⟨g,rfl,hg,mC,b2⟩;obtain⟨ph,hph⟩:=HW hh hg mC;have lh:=G.lh;have lc:=G.lc;have lz:=G.lz;refine⟨_,rfl,.inl ⟨rfl,_,bh.of b2.AX⟩,_,rfl,hm,_,_,rfl,rfl,b2.AX,by rw[aY,lh,hl];exact bK (show i<17 by lia) (by decide),?_⟩;have b3:=b2.aH AD (g:=g);clear b2;generalize upd Hx hm (.lst (NV homes++[.int (g:Int)]))=Hy at *;have hpy:=b3.CH;have YS:=b3.s0 _ _ Rc (hp.neT Rc);refine⟨_,rfl,_,rfl,_,rfl,_,rfl,sd,ua,ns,h,g,ph,zs,rfl,YS,BX,hph,b3.uZ,b3.po,fun r ys H4 s4 nr Jj yl hy=>?_⟩;have b4:=b3.same AD s4;clear b3;refine lQ (fun σ Hx=>σ=[some (.ref p),some (.ref sd),some (.int (pr ns:Nat)),some (.ref sr),some (.ref gl),some (.ref hm),some (.ref iq),some (.ref cm),some (.ref ua),some (.int (i:Int)),some (.int (h:Int)),some (.int (g:Int)),some (.ref r),Re]/\Bs p sd sr gl hm iq cm ua ns cA dH (homes++[g]) st cs zs H Hx/\Hx r=some (.lst (NV ys))) ?_ (fun N hN=>hN _ _ ⟨rfl,b4,Jj⟩);have nrp:r≠p:=hpy.ne nr;clear b4 Jj s4 nr;rintro σ H4 ⟨rfl,b4,Jj⟩;refine lQ (fun σ Hz=>∃o o' uS y12,σ=[some (.ref p),some (.ref sd),some (.int (pr ns:Nat)),some (.ref sr),some (.ref gl),some (.ref hm),some (.ref iq),some (.ref cm),some (.ref ua),some (.int (i:Int)),some (oV o),some (.int (g:Nat)),y12,some (oV o')]/\Bs p sd sr gl hm iq cm ua ns cA dH (homes++[g]) st cs uS H Hz/\(∀u∈zp zs,u∈zp uS)/\uS.length<=zs.length+1/\(o=none->o'=none)/\(∀h,o=some h->h<pr ns/\g<pr ns/\h≠g/\∃y,o'=some y/\Ln ns h g y/\((h:Int),(y:Int))∈zp uS/\((h:Int),(y:Int))∉zp zs)) ?_ ?_
  rotate_left
  .intro N hN;have no:∀Hz,Bs p sd sr gl hm iq cm ua ns cA dH (homes++[g]) st cs zs H Hz->N [some (.ref p),some (.ref sd),some (.int (pr ns:Nat)),some (.ref sr),some (.ref gl),some (.ref hm),some (.ref iq),some (.ref cm),some (.ref ua),some (.int (i:Int)),some .bA,some (.int (g:Nat)),some (.ref r),some .bA] Hz:=fun Hz b=>hN _ _ ⟨none,none,zs,_,rfl,b,fun u z=>z,Nat.le_succ _,fun _=>rfl,fun h z=>(nomatch z)⟩;refine⟨_,rfl,by show 0<=sizeLine;decide,fun E1 Yw=>?_⟩;have sE:=ao (o:=.lst []) Yw;have b5:=b4.same AD sE;refine⟨r,E1,_,[],rfl,rfl,bh.of (sE _ _ Jj),bh.of ag,fun i h1 h2=>absurd h2 (by simp),_,rfl,?_⟩;rw[ap bo,uW];by_cases c:NV ys=[]
   .rw[decide_eq_true c];exact gD (gD ⟨by show 2<=sizeLine;decide,fun t ht=>⟨t,_,rfl,bz.of ag,rfl,_,_,rfl,_,_,rfl,rfl,no _ (b5.same AD (ao ht))⟩⟩)
   .rw[dP c];have yp:0<ys.length:=by
     rcases y_ ys.length with z|z
     .exact absurd (by rw[yH z];rfl) c
     .exact z
    refine eX ⟨_,rfl,p,16,rfl,by decide,by decide +kernel,b5.CH,fun d4 H5 hd4 s5 p5=>⟨rfl,_,rfl,gG (fun e=>⟨by show 2<=sizeLine;decide,fun t ht=>⟨t,_,rfl,bz.of ag,rfl,_,_,rfl,_,_,rfl,rfl,no _ ((b5.gQ AD s5 p5).same AD (ao ht))⟩⟩) (fun e=>?_)⟩⟩;have b6:=b5.gQ AD s5 p5;have V8:=s5 _ _ (sE _ _ Jj) nrp;refine⟨_,rfl,_,rfl,_,rfl,r,_,rfl,.inl (bh.of V8),p,ys.length,by rw[aY];rfl,yp,by lia,b6.CH,fun d5 H6 hd5 s6 p6=>?_⟩;have b7:=b6.gQ AD s6 p6;have Tp:=s6 _ _ V8 nrp;refine⟨r,_,_,_,rfl,rfl,bh.of Tp,aD (uY hd5),?_⟩;obtain⟨y1,y2⟩:=hy (ys.getD d5 0) (by rw[cg,cJ hd5];exact iF _);generalize ys.getD d5 0=y at *;refine⟨_,rfl,.inl ⟨rfl,_,bh.of b7.uZ⟩,_,rfl,_,rfl,by show 2<=sizeLine;decide,fun t ht=>?_⟩;have a_:=ao (o:=.tup [.int (h:Int),.int (y:Int)]) ht;have b8:=b7.same AD a_;have hzl:(zr zs).length<sizeLine:=by
     show (zs.map _).length<_;rw[aV];exact bK (show zs.length<17 by lia) (by decide)
    refine⟨ua,_,_,rfl,rfl,b8.uZ,hzl,?_⟩;have b9:=b8.aU AD (t:=t) (u:=((h:Int),(y:Int))) ag;refine hN _ _ ⟨some h,some y,zs++[(t,((h:Int),(y:Int)))],_,rfl,b9,fun u z=>by rw[HZ];exact ny _ z,by rw[dF];exact aW _,fun z=>(nomatch z),fun h' e'=>?_⟩;obtain rfl:=bi e';exact⟨hh,hg,mC,y,rfl,y1,by rw[HZ];exact gJ _ (cI.mpr rfl),y2⟩
  clear b4 Jj;rintro σ Hz ⟨o,o',uS,y12,rfl,b5,q1,q4,q2,q3⟩;have G':=G.snoc (g:=g) q1 q4 q2 q3;refine⟨_,rfl,.inl ⟨rfl,_,bh.of b5.iw⟩,_,rfl,iq,_,_,rfl,rfl,b5.iw,by rw[aV,hl];exact bK (show i<17 by lia) (by decide),?_⟩;have b6:=b5.aS AD (o:=o);refine⟨_,rfl,.inl ⟨rfl,_,bh.of b6.yc⟩,_,rfl,cm,_,_,rfl,rfl,b6.yc,by rw[aV,lc,hl];exact bK (show i<17 by lia) (by decide),?_⟩;have b7:=b6.aC AD (o:=o');exact⟨⟨_,_,_,_,_,rfl⟩,homes++[g],st++[o],cs++[o'],uS,b7,G',by rw[dF,hl];rfl⟩
def Ib(K:PySem.W.Frag)(C CB:Addr):Sp:=fun vs H Q _=>∃ (L:Addr->Prop) (b ha sa xa:Addr) (ns homes:List Nat) (st:List (Option Nat)) (xs:List V),vs=[.ref b,.ref ha,.ref sa,.ref xa]/\dZ C CB H L b ns/\H ha=some (.tup (NV homes))/\H sa=some (.tup (st.map oV))/\H xa=some (.tup xs)/\Sn ns homes st/\(∀x∈xs,∃o,AU K H x o)/\HX ns homes st xs/\∀ (H':Hp),az H H'->Q .bA H'
theorem Pw{f C CB:Addr}{fd:FuncData}(F:eN K "check_berthed" "check_berthed" YB f fd)(IB:cy P w K mg base ba 9 "is_berthed" ["box","homes","stand","came"] (Pj K C CB)):bj P w K mg base ba 10 f fd ["box","homes","stand","came"] (Ib K C CB):=by
 refine F.ok YF (fun vs H Q E h=>?_) (fun dt A outer s H vs Q E hr h=>?_)
 .obtain⟨L,b,ha,sa,xa,ns,homes,st,xs,rfl,_⟩:=h;rfl
 .obtain⟨L,b,ha,sa,xa,ns,homes,st,xs,rfl,BA,qt,pP,tR,SN,hW,bt,k⟩:=h;refine⟨_,ak (bW (de (c_ (aw IB hr aF (aa (pv 0) (aa (pv 1) (aa (pv 2) (aa (pv 3) af))))))) cS aN),?_⟩;refine⟨_,rfl,_,rfl,_,rfl,_,rfl,L,b,ha,sa,xa,ns,homes,st,xs,rfl,BA,qt,pP,tR,SN,hW,fun H1 bb s1 hb=>⟨_,rfl,?_⟩⟩;obtain rfl:bb=true:=hb.mpr bt;exact gP rfl (k H1 s1)
end
end ue
namespace PySem
open PySem.Builtin.Range in
def pQ(a b c:Int):Bool:=rangeFitsLong a&&rangeFitsLong b&&rangeFitsLong c&&rangeFitsLong (-c)&&rangeFitsLong (a-c)&&rangeFitsLong (rangeSize a b c)
theorem qu:isSubtype (.type "range_iterator") (.type "reversed")=pure false:=by rw[vO];kernel_rfl
section
variable {prog:Program} {w:World} {A:Around} {E:Value->Shared->Prop} {s:Shared}
def yd(a b c:Int):Obj:={ cls:=.type "range_iterator",data:=.fields #[rawInt (a+(Builtin.Range.rangeSize a b c-1)*c),rawInt (Builtin.Range.rangeSize a b c),rawInt (-c)] }
theorem lJ{r:Addr}{a b c:Int}{t u v:Tok}{Q:Value->Shared->Prop}(hr:IsRange s.heap r a b c t u v)(Jl:pQ a b c=true)(h:Q (.ref s.heap.objs.size) { s with heap:=s.heap.push (yd a b c) }):wpAny (model prog w) A (call (.builtin "range.__reversed__") [.ref r]) Q E s:=by
 have hT:s.TypeIs (.ref r) "range":=⟨_,hr,rfl⟩
 refine g_ F.slot_range_reversed hT F.entry_range_reversed ?_ (F.args_range_reversed_1 _);unfold pQ at Jl;obtain⟨hp,g,d,tk,os⟩:=s
 wp_walk using wpAny_loadPart' hr
 simp only[Jl,rF,l9,gv,mi]
 wp_walk
 exact⟨_,rfl,h⟩
theorem mX{l:Addr}{a b c:Int}{t u v:Tok}{Q₁:Value->Shared->Prop}(hl:IsRange s.heap l a b c t u v)(Jl:pQ a b c=true)(h:Q₁ (.ref s.heap.objs.size) { s with heap:=s.heap.push (yd a b c) }):
  codeAny (model prog w) A (.call (.builtin "reversed.__new__") ⟨[.type "reversed",.ref l],[]⟩) (wants Q₁ E) s:=by
 have hT:s.TypeIs (.ref l) "range":=⟨_,hl,rfl⟩
 refine vL ?_;show wpAny _ A.in1 (do checkBuiltinCall "reversed.__new__" ⟨[.type "reversed",.ref l],[]⟩;again (.builtin "reversed.__new__" ⟨[.type "reversed",.ref l],[]⟩)) _ _ s;refine aj (fz (F.newCall_reversed_1 _) (wpAny_pure ⟨rK F.plain_reversed_new _,gh F.entry_reversed_new ?_⟩));rw[jh F.plain_reversed_new _];unfold Builtin.«reversed.__new__»;refine aj (fz (newClass_reversed _) ?_);try dsimp only
 refine aj (fz (a:=()) (by first|rfl|kernel_rfl) ?_);refine aj (fz (a:=()) (by first|rfl|kernel_rfl) ?_);try dsimp only
 refine aj (vJ hT F.slot_range_reversed.lookup ?_);try dsimp only
 refine aj (fz (F.slot_range_reversed.bind _) ?_);try dsimp only
 first
 |rw[ap (show ¬ ((Value.builtin "range.__reversed__"==Value.none)=true) from bo)]
 |(show wpAny _ _ (if (Value.builtin "range.__reversed__"==Value.none)=true then _ else _) _ _ _;rw[ap (show ¬ ((Value.builtin "range.__reversed__"==Value.none)=true) from bo)])
 refine aj (wpAny_rule ?_);refine aj (m:=runValue (.call (.builtin "range.__reversed__") ⟨[.ref l],[]⟩)) (show wpAny _ _ (call (.builtin "range.__reversed__") [.ref l]) _ _ _ from lJ hl Jl ?_);first
 |exact wpAny_pure h
 |exact aj (wpAny_pure (wpAny_pure h))
theorem lK{l:Addr}{a b c:Int}{t u v:Tok}{Q:Value->Shared->Prop}(hl:IsRange s.heap l a b c t u v)(Jl:pQ a b c=true)(h:Q (.ref s.heap.objs.size) { s with heap:=s.heap.push (yd a b c) }):wpAny (model prog w) A (call (.type "reversed") [.ref l]) Q E s:=by
 refine callType_other (U:="range_iterator") (Q₁:=fun obj s₁=>obj=.ref s.heap.objs.size/\s₁={ s with heap:=s.heap.push (yd a b c) }) (by decide +kernel) F.create_reversed ⟨_,_,F.mro_reversed⟩ F.made_reversed qu (F.typeCall_reversed_1 _) (mX hl Jl ⟨rfl,rfl⟩) ?_;rintro obj s₁ ⟨rfl,rfl⟩;exact⟨⟨_,bR _ rfl,rfl⟩,h⟩
end
end PySem
namespace L2
open PySem PySem.Spec PyProof.Rows
def Rg(hi:Int)(n:Nat):It:=⟨fun i _=>i<n,fun i H x H'=>H'=H/\x=.int (hi-i),fun i _=>n<=i,fun _ _=>False⟩
theorem u4{P:Program}{w:World}{K:PySem.W.Frag}{tg:Expr}(it:Addr)(hi:Int)(n:Nat):qh P w K tg (Rg hi n) [it] it (fun i h=>IsRangeIter h it (hi+(i:Nat)*-1) ((n:Int)-(i:Nat)) (-1)) where
 mem:=by simp
 obj:=fun i h st b hb=>by
  have e:b=it:=by simpa using hb
  subst e;exact⟨_,st,fun v z=>by
   have z':Data.fields _=Data.cell v:=z;cases z'⟩
 keep:=fun i h h' st k=>k it (by simp) _ st
 item:=by
  intro X hP hw hK i ae s σ H E hc I hf st hg;subst hP hw hK;obtain⟨f0,f1,f2,f3,f4,f5⟩:=hf it (by simp);refine wpAny_pyNext_range_item st (by have:i<n:=hg;lia) fun h' a_ sb=>?_;have I1:aE X ae σ H { s with heap:=h',toks:=s.toks+1 }:=I.turned (fun b o hb e=>(sb.2 b hb).trans e) f0 f1 f3 f4 f5;have oo:IsRangeIter h' it (hi+((i+1:Nat):Int)*-1) ((n:Int)-((i+1:Nat):Int)) (-1):=by
   rw[show hi+((i+1:Nat):Int)*-1=hi+(i:Int)*-1+-1 by lia,show (n:Int)-((i+1:Nat):Int)=(n:Int)-(i:Int)-1 by lia];exact a_
  exact⟨_,rfl,xo (s:={ s with heap:=h',toks:=s.toks+1 }) (n:="range_iterator") oo rfl rfl (by decide) ⟨.int (hi-i),H,I1,⟨s.toks,by rw[show hi+(i:Int)*-1=hi-(i:Int) by lia]⟩,⟨rfl,rfl⟩,oo,fun b hb=>(hf b hb).1⟩⟩
 done:=by
  intro X hP hw hK i ae s σ H E tX I hf st hg;subst hP hw hK;have hc:X.calm=true:=tX.elim id fun z=>(show False from z).elim;obtain⟨f0,f1,f2,f3,f4,f5⟩:=hf it (by simp);exact wpAny_pyNext_range_end (I.ok.hd hc) st (by have:n<=i:=hg;lia) fun h' eb=>⟨rfl,I.turned (t':=s.toks) (fun b o hb e=>eb b o hb e) f0 f1 f3 f4 f5⟩
 self:=fun _ _ _ _ _ st h=>y0 st h
theorem Ic{n:Nat}:Builtin.Range.rangeSize 0 (n:Int) 1=n:=by rw[rangeSize_one];split <;> lia
theorem Eo{n:Nat}(h:n<=1000):pQ 0 (n:Int) 1=true:=by
 unfold pQ;rw[Ic];simp only[Builtin.Range.rangeFitsLong,fq,ji];refine⟨⟨⟨⟨⟨?_,?_⟩,?_⟩,?_⟩,?_⟩,?_⟩ <;> lia
section
variable {X:Cx} {tg:Expr}
def Um(ta:TA):TI:=fun σ H R=>ta σ H fun vs H1=>∃ (p:Addr) (n:Nat),vs=[.ref p]/\H1 p=some (.Bi 0 (n:Int))/\n<=1000/\R (Rg ((n:Int)-1) n) H1
theorem Lw{e:Expr}{ta:TA}{p pos:Pos}(hg:Gl X "reversed")(hm:X.mg "reversed"=none)(ha:PA X [e] ta)(hs:starEach [e] X.env=[(false,eval e X.env)]:=by rfl):
  PI X tg (.Call (.Name "reversed" p) [e] [] pos) (Um ta):=by
 intro ae s σ H R I h;refine Call_ (jq I hg hm boot_reversed (ow (cj (ha pos ae s σ H _ I h) fun us s1 ⟨vs,H1,I1,r1,q1⟩=>?_) hs rfl));obtain⟨a,n,rfl,ea,hn,q⟩:=q1;obtain⟨u1,rfl,r2⟩:=r1.one;obtain rfl:u1=Value.ref a:=r2;obtain⟨t,u,v,hp⟩:=(show bX X.prog X.w H1 s1.heap a (.Bi 0 (n:Int)) from I1.bU a _ ea)
 refine lK (show IsRange s1.heap a 0 n 1 t u v from hp) (Eo hn) ?_;have I2:aE X ae σ H1 { s1 with heap:=s1.heap.push (yd 0 n 1) }:=I1.kept (t':=s1.toks) fun b o e=>bp _ e;have st:IsRangeIter (s1.heap.push (yd 0 n 1)) s1.heap.objs.size ((n:Int)-1+((0:Nat):Int)*-1) ((n:Int)-((0:Nat):Int)) (-1):=by
  have e0:=bR s1.heap (o:=yd 0 n 1) rfl;show _=some _;rw[e0];unfold yd;rw[Ic];simp
 refine y0 st ?_;refine⟨s1.heap.objs.size,[s1.heap.objs.size],_,_,H1,rfl,I2,u4 _ ((n:Int)-1) n,st,fun b hb=>?_,q⟩;have e:b=s1.heap.objs.size:=by simpa using hb
 subst e;obtain⟨f0,f⟩:=I1.tW (aW _) (I1.bU.fresh (aW _));exact⟨f0,f⟩
def Uo(ta:TA):TI:=fun σ H R=>ta σ H fun vs H1=>∃n:Nat,vs=[.int ((n:Int)-1),.int (-1),.int (-1)]/\n<=1000/\R (Rg ((n:Int)-1) n) H1
theorem CJ{n:Nat}:Builtin.Range.rangeSize ((n:Int)-1) (-1) (-1)=n:=by
 unfold Builtin.Range.rangeSize;simp only[show ¬ ((-1:Int) > 0) by decide,gv];split
 .rw[show -(-1:Int)=1 by decide,Int.ediv_one];lia
 .lia
theorem Ep{n:Nat}(h:n<=1000):Builtin.Range.small ((n:Int)-1) (-1) (-1)=true:=by
 unfold Builtin.Range.small;rw[CJ];simp only[Builtin.Range.rangeFitsLong,fq,Bool.or_eq_true,ji,dL,show ¬ ((-1:Int) > 0) by decide,gv];refine⟨⟨⟨⟨?_,?_⟩,?_⟩,?_⟩,?_⟩ <;> lia
theorem Es{a b c:Expr}{ta:TA}{p pos:Pos}(hg:Gl X "range")(hm:X.mg "range"=none)(ha:PA X [a,b,c] ta)(hs:starEach [a,b,c] X.env=(false,eval a X.env)::starEach [b,c] X.env:=by rfl)(tY:(backTo pos (starEach [b,c] X.env)).any (·.1)=false:=by rfl):
  PI X tg (.Call (.Name "range" p) [a,b,c] [] pos) (Uo ta):=by
 intro ae s σ H R I h;refine Call_ (jq I hg hm boot_range (ow (cj (ha pos ae s σ H _ I h) fun us s1 ⟨vs,H1,I1,r1,q1⟩=>?_) hs tY));obtain⟨n,rfl,hn,q⟩:=q1;cases r1 with
 |cons ra r1=>
 cases r1 with
 |cons rb r1=>
 cases r1 with
 |cons rc r1=>
 cases r1;obtain⟨t,rfl⟩:=ra;obtain⟨u,rfl⟩:=rb;obtain⟨v,rfl⟩:=rc;refine call_range_3 (by decide) ?_ (.inl (yP (by lia)));refine wpAny_pyIter_range (IsRange.new ..) (Ep hn) ?_;rw[CJ];have I2:aE X ae σ H1 { s1 with heap:=s1.heap.push { cls:=.type "range",data:=.fields #[.int ((n:Int)-1) t,.int (-1) u,.int (-1) v] } }:=I1.kept (t':=s1.toks) fun b o e=>bp _ e;generalize ({ s1 with heap:=s1.heap.push { cls:=.type "range",data:=.fields #[.int ((n:Int)-1) t,.int (-1) u,.int (-1) v] } }:Shared)=s2 at I2 |-;have st:IsRangeIter (s2.heap.push { cls:=.type "range_iterator",data:=.fields #[rawInt ((n:Int)-1),rawInt (n:Int),rawInt (-1)] }) s2.heap.objs.size ((n:Int)-1+((0:Nat):Int)*-1) ((n:Int)-((0:Nat):Int)) (-1):=by
  show _=some _;rw[bR s2.heap rfl];simp
 refine⟨s2.heap.objs.size,[s2.heap.objs.size],_,_,H1,rfl,I2.kept (t':=s2.toks) fun b o e=>bp _ e,u4 _ ((n:Int)-1) n,st,fun b hb=>?_,q⟩;have e:b=s2.heap.objs.size:=by simpa using hb
 subst e;exact I2.tW (aW _) (I2.bU.fresh (aW _))
end
theorem Up{X:Cx}{ae:List (Addr×Obj)}{σ:St}{H:Hp}{s:Shared}{a:Addr}{kvs:List (dI×V)}{k:dI}{u r:Value}{v:V}{A:Around}{E:Value->Shared->Prop}{Q:Unit->Shared->Prop}(I:aE X ae σ H s)(e:H a=some (.dK kvs))(l:kvs.length<sizeLine)(ry:bn (kV k) u)(rv:bn v r)(h:∀s',aE X ae σ (upd H a (.dK (gf kvs k v))) s'->Q () s'):wpAny (model X.prog X.w) A (dictSet a u r) Q E s:=by
 obtain⟨z,hd,vs,xg,dd⟩:=Gm I.bU e;have hz:vs.length<=sizeLine:=by rw[<-xg.length];exact z
 have hl:(gf kvs k v).length<=sizeLine:=by have:=kP kvs k v;lia
 refine wpAny_dictSet_pairs (hsz:=hz) (xH ry) dd fun h' Oj hs=>h _ ?_;have he:∃q,h'.get? a=some q:=let ⟨q,_,_,hq,_⟩:=Oj;⟨q,hq⟩;exact we I (by rw[e];exact True.intro) hs he (Gn hl hd (xg.put k rv) Oj)
def ye(J:It)(g:TG)(tt:TT)(tk tv:TE)(D:Addr)(cK:Hp->Prop)(σB:St)(H1:Hp):Prop:=
 ∃W:Nat->Nat->St->Hp->Prop,(∃m,W 0 m σB H1)/\∀i m σ H,W i m σ H->(J.stop i H/\cK H)\/(J.go i H/\∀x H',J.Ja i H x H'->g x σ H' fun σ2 H2=>tt σ2 H2 fun b H3=>
  if b=true then tk σ2 H3 fun y H4=>tv σ2 H4 fun v H5=>∃kvs k,H5 D=some (.dK kvs)/\y=kV k/\kvs.length<sizeLine/\∃m',m'<m/\W (i+1) m' σ2 (upd H5 D (.dK (gf kvs k v))) else ∃m',m'<m/\W (i+1) m' σ2 H3)
theorem AY{B:Cx}{kx vx tg iter:Expr}{oq:List Expr}{scope:Scope}{pos:Pos}{J:It}{g:TG}{tt:TT}{tk tv:TE}{D it:Addr}{fp:List Addr}{tn:Nat->Heap->Prop}{cK:Hp->Prop}{R:Result->Shared->Prop}{s:Shared}{σB:St}{H1:Hp}(hx:B.xe=fun _ _=>False)(hc:B.calm=true)(T:qh B.prog B.w B.K tg J fp it tn)(hg:PG B tg g)(ht:Jf B oq tt)(hk:PE B kx tk)(hv:PE B vx tv)(I:aE B [] σB H1 s)(st:tn 0 s.heap)(hf:∀b∈fp,f_ B [] H1 b)(hw:ye J g tt tk tv D cK σB H1)(hR:∀σ' H' s',aE B [] σ' H' s'->cK H'->R (.ok .next) s'):
  codeAny (model B.prog B.w) B.A (.compLoop (.DictComp kx vx [⟨tg,iter,oq,0⟩] scope pos) 0 (.ref it) (.ref D) B.env) R s:=by
 obtain⟨W,⟨m0,w0⟩,zP⟩:=hw;have rR:∀ {H':Hp},(∀b∈fp,H' b=none)->∀b∈fp,f_ B [] H' b:=fun hn b hb=>⟨hn b hb,(hf b hb).2⟩
 refine codeAny_loop rfl (fun n s'=>∃i σ' H',aE B [] σ' H' s'/\tn i s'.heap/\(∀b∈fp,H' b=none)/\W i n σ' H') ?_ m0 ⟨0,σB,H1,I,st,fun b hb=>(hf b hb).1,w0⟩;rintro n s3 ⟨i,σ3,H3,I3,xc,Jb,w3⟩;show wpAny _ B.A ((compTurn (.DictComp kx vx [⟨tg,iter,oq,0⟩] scope pos) 0 (.ref it) (.ref D) B.env).onRaise (fun x=>do noteFrame x B.env;theTreesLotGoes x)) _ _ s3;refine wpAny_noted ?_;rw[compTurn_dict];have nx:∀ {α:Type} {t:Sem α} {Q:α->Shared->Prop} {E':Value->Shared->Prop} {s:Shared},wpAny (model B.prog B.w) B.A t Q B.xe s->wpAny (model B.prog B.w) B.A t Q E' s:=fun h=>
  gs h (fun _ _ q=>q) fun _ _ z=>by rw[hx] at z;exact z.elim
 rcases zP i n σ3 H3 w3 with ⟨stop,qn⟩|⟨go,step⟩
 .refine aj (iQ (aj (cj (T.done B rfl rfl rfl i [] s3 σ3 H3 _ (.inl hc) I3 (rR Jb) xc stop) fun r s4 ⟨hr,I4⟩=>?_)));subst hr;exact wpAny_pure (hR σ3 H3 s4 I4 qn)
 .refine aj (iQ (aj (cj (T.item B rfl rfl rfl i [] s3 σ3 H3 _ (.inl hc) I3 (rR Jb) xc go) fun r s4 ⟨u,hr,h4⟩=>?_)));subst hr;refine aj (cj h4 fun _ s5 ⟨x,H5,I5,r5,y5,tO,RN⟩=>?_);have RO:=I5.pinned (rR RN) (T.obj _ _ tO);refine aj (nx (cj (hg _ s5 σ3 H5 x u _ RO r5 (step x H5 y5)) fun _ s6 ⟨σ6,H6,I6,q6⟩=>?_));have back:∀ {σ7:St} {H7:Hp} {s7:Shared} {m':Nat},aE B ([]++o7 fp s5.heap) σ7 H7 s7->m'<n->W (i+1) m' σ7 H7->∃m,m<n/\∃i σ' H',aE B [] σ' H' s7/\tn i s7.heap/\(∀b∈fp,H' b=none)/\W i m σ' H':=fun {σ7 H7 s7 m'} I7 hm w7=>by
   refine⟨m',hm,i+1,σ7,H7,I7.kI,T.keep _ _ _ tO fun b hb o e=>(I7.pin (b,o) (gJ _ (gJ _ (fD hb e)))).1,fun b hb=>?_,w7⟩;obtain⟨o,e,d⟩:=T.obj _ _ tO b hb;exact(I7.pin (b,o) (gJ _ (gJ _ (fD hb e)))).2.1
  refine aj (nx (cj (ht _ s6 σ6 H6 _ I6 q6) fun ok s7 ⟨H7,I7,q7⟩=>?_));cases ok with
  |false=>
   rw[ap bo] at q7;obtain⟨m',hm,w7⟩:=q7;exact wpAny_pure ⟨rfl,back I7 hm w7⟩
  |true=>
   rw[ai rfl] at q7;refine aj (aj (nx (cj (hk _ s7 σ6 H7 _ I7 q7) fun v s8 ⟨y,H8,I8,r8,q8⟩=>?_)));refine aj (f9 (nx (cj (hv _ s8 σ6 H8 _ I8 q8) fun v9 s9 ⟨y9,H9,I9,r9,kvs,k,hD,ey,hl,m',hm,w9⟩=>?_)));subst ey;refine aj (iQ (f9 ?_));exact Up I9 hD hl r8 r9 fun s' I'=>wpAny_pure ⟨rfl,back I' hm w9⟩
section
variable {X:Cx} {kx vx tg iter:Expr} {oq:List Expr} {scope:Scope} {pos:Pos} {wi:TI} {g:TG} {tt:TT} {tk tv:TE} {NB:List Str} {src:List (Option Nat)}
def Ie(src:List (Option Nat))(wi:TI)(g:TG)(tt:TT)(tk tv:TE):TE:=fun σ H Q=>wi σ H fun J H1=>∀D,H1 D=none->ye J g tt tk tv D (fun H'=>Q (.ref D) H') (FO src σ) (upd H1 D (.dK []))
theorem qf{ae:List (Addr×Obj)}{σ:St}{H2:Hp}{s2:Shared}{J:It}{fp:List Addr}{it:Addr}{tn:Nat->Heap->Prop}{cl:List (Str×Addr)}{cK:Addr->Hp->Prop}{E':Value->Shared->Prop}{RR:Value->Addr->Result->Shared->Prop}(S:eE NB src scope X)(hc:X.calm=true)(c1:∀x c,cl.lookup x=some c->X.env.cells.lookup x=some c)(c2:∀x,(x,NameKind.free)∈scope.names->∃c,cl.lookup x=some c)(hg:∀cl C s₃ H₃ fp,PG (nK X NB scope cl C s₃ H₃ fp) tg g)(ht:∀cl C s₃ H₃ fp,Jf (nK X NB scope cl C s₃ H₃ fp) oq tt)(hk:∀cl C s₃ H₃ fp,PE (nK X NB scope cl C s₃ H₃ fp) kx tk)(hv:∀cl C s₃ H₃ fp,PE (nK X NB scope cl C s₃ H₃ fp) vx tv)(I2:aE X ae σ H2 s2)(T:qh X.prog X.w X.K tg J fp it tn)(oo:tn 0 s2.heap)(f2:∀b∈fp,f_ X ae H2 b)(hw:∀D,H2 D=none->ye J g tt tk tv D (cK D) (FO src σ) (upd H2 D (.dK [])))(hR:∀D C H' s',f_ X ae H' C->aE X ae σ H' s'->(∃m,s'.heap.Ns C m)->cK D H'->RR (.ref D) C (.ok .next) s'):
  wpAny (model X.prog X.w) X.A newDict (fun cn s₃=>wpAny (model X.prog X.w) X.A (newFunctionEnv scope X.env.globals cl [] X.env.qual none .none (some X.env)) (fun FQ s₄=>
   codeAny (model X.prog X.w) X.A (.compStart (.DictComp kx vx [⟨tg,iter,oq,0⟩] scope pos) 0 (.ref it) cn { FQ with scope:=relabel scope X.env }) (RR cn FQ.locals) s₄) E' s₃) E' s2:=by
 refine g8 (nM ?_);have I3:aE X ae σ (upd H2 s2.heap.objs.size (.dK [])) { s2 with heap:=s2.heap.push { cls:=.type "dict",data:=.dict #[] } }:=I2.laid (a:=s2.heap.objs.size) (o:=.dK []) (t':=s2.toks) (fun _ _ q=>bp _ q) (aW _) (xJ s2.heap I2.big);have hD:H2 s2.heap.objs.size=none:=I2.fresh;have fo:∀b∈fp,b<s2.heap.objs.size:=fun b hb=>by obtain⟨o,e,_⟩:=T.obj _ _ oo b hb;exact aM e
 have up:∀ {b:Addr},b∈fp->upd H2 s2.heap.objs.size (.dK []) b=H2 b:=fun {b} hb=>al (aT (fo b hb));have f3:∀b∈fp,f_ X ae (upd H2 s2.heap.objs.size (.dK [])) b:=fun b hb=>⟨by rw[up hb];exact(f2 b hb).1,(f2 b hb).2⟩
 have hsz:(s2.heap.push { cls:=.type "dict",data:=.dict #[] }).objs.size=s2.heap.objs.size+1:=by rw[hU]
 generalize WY:({ s2 with heap:=s2.heap.push { cls:=.type "dict",data:=.dict #[] } }:Shared)=s3 at I3 |-;have R_:s3.heap=s2.heap.push { cls:=.type "dict",data:=.dict #[] }:=by rw[<-WY]
 have Sa:∀b∈fp,b<s3.heap.objs.size:=fun b hb=>by rw[R_,hsz];exact dO (fo b hb)
 have FS:(s3.heap.push { cls:=.type "dict",data:=.dict #[] }).objs.size=s3.heap.objs.size+1:=hU ..;have rZ:∀x c,(cellsFrom (s3.heap.objs.size+1) scope.names cl).lookup x=some c->cl.lookup x=some c\/(s3.heap.objs.size<c/\(pushCells (s3.heap.push { cls:=.type "dict",data:=.dict #[] }) scope.names).IsCell c none):=fun x c e=>by
  rw[<-FS] at e;rcases lq _ _ _ _ _ e with z|⟨z1,z2⟩
  .exact .inl z
  .exact .inr ⟨by rw[FS] at z1;exact z1,z2⟩
 have FU:=(Heap.Ns.new s3.heap (.type "dict")).keeps (rD scope.names _);have keep:∀b o,s3.heap.get? b=some o->(pushCells (s3.heap.push { cls:=.type "dict",data:=.dict #[] }) scope.names).get? b=some o:=fun b o e=>rD _ _ b o (bp _ e);generalize hh1:pushCells (s3.heap.push { cls:=.type "dict",data:=.dict #[] }) scope.names=h₁ at rZ FU keep |-;have IB:aE (nK X NB scope (cellsFrom (s3.heap.objs.size+1) scope.names cl) s3.heap.objs.size s3 (upd H2 s2.heap.objs.size (.dK [])) fp) [] (FO src σ) (upd H2 s2.heap.objs.size (.dK [])) { s3 with heap:=h₁,toks:=s3.toks }:=
  BJ I3 S c1 c2 f3 Sa FU keep rZ
 have Sb:tn 0 h₁:=T.keep 0 s2.heap h₁ oo fun b hb o e=>keep b o (by rw[R_];exact bp _ e);have fB:∀b∈fp,f_ (nK X NB scope (cellsFrom (s3.heap.objs.size+1) scope.names cl) s3.heap.objs.size s3 (upd H2 s2.heap.objs.size (.dK [])) fp) [] (upd H2 s2.heap.objs.size (.dK [])) b:=fun b hb=>by
  refine⟨(f3 b hb).1,aT (Sa b hb),fun z=>?_,.inl hb,fun x c e=>(IB.ok.VA b hb).2 x c e,fun p hp=>absurd (show p∈([]:List (Addr×Obj)) from hp) (by simp)⟩;rcases a7.mp (I3.rO b z) with e|e
  .exact(f3 b hb).2.1 e
  .exact(f3 b hb).2.2.1 e
 have loop:codeAny (model X.prog X.w) X.A (.compLoop (.DictComp kx vx [⟨tg,iter,oq,0⟩] scope pos) 0 (.ref it) (.ref s2.heap.objs.size) (compEnvC scope (cellsFrom (s3.heap.objs.size+1) scope.names cl) s3.heap.objs.size X.env)) (RR (.ref s2.heap.objs.size) s3.heap.objs.size)
   { s3 with heap:=h₁,toks:=s3.toks }:=by
  refine AY (B:=nK X NB scope (cellsFrom (s3.heap.objs.size+1) scope.names cl) s3.heap.objs.size s3 (upd H2 s2.heap.objs.size (.dK [])) fp) rfl hc T (hg _ _ _ _ _) (ht _ _ _ _ _) (hk _ _ _ _ _) (hv _ _ _ _ _) IB Sb fB (hw _ hD) fun σ' H' s' J' q=>?_;obtain⟨m,hm,_⟩:=J'.loc;exact hR _ _ H' s' (I3.tW (aW _) J'.free) (I3.Ml J' f3) ⟨m,hm⟩ q
 exact codeAny_compStart_dict loop (T.self _ 0 _ _ _ Sb loop)
theorem Ig(S:eE NB src scope X)(hc:X.calm=true)(hi:PI X tg iter wi)(hg:∀cl C s₃ H₃ fp,PG (nK X NB scope cl C s₃ H₃ fp) tg g)(ht:∀cl C s₃ H₃ fp,Jf (nK X NB scope cl C s₃ H₃ fp) oq tt)(hk:∀cl C s₃ H₃ fp,PE (nK X NB scope cl C s₃ H₃ fp) kx tk)(hv:∀cl C s₃ H₃ fp,PE (nK X NB scope cl C s₃ H₃ fp) vx tv)(hs:∀x,foldedSetIterable iter X.env x=pure x:=by intro _;rfl):PE X (.DictComp kx vx [⟨tg,iter,oq,0⟩] scope pos) (Ie src wi g tt tk tv):=by
 intro ae s σ H Q I h;obtain⟨cl,Ab,c1,c2⟩:=ii I.ok S;rw[arm_eval_DictComp];refine vi (use:=none) (cl:=cl) rfl hs Ab S.kind S.names (cj (hi ae s σ H _ I h) fun v s1 h1=>cj h1 fun QN s2 h2=>?_);obtain⟨it,fp,tn,J,H2,e,I2,T,oo,f2,hw⟩:=h2;subst e;refine qf (RR:=fun cn C=>compPost (model X.prog X.w) X.A X.xe none (EP X ae σ Q) cn C) S hc c1 c2 hg ht hk hv I2 T oo f2 hw fun D C H' s' fC I' hm q=>?_;obtain⟨m,hm⟩:=hm;refine⟨m,hm,fun h' sb=>⟨.ref D,H',?_,rfl,q⟩⟩;obtain⟨g0,g1,_,g3,g4,g5⟩:=fC;exact I'.turned (t':=s'.toks) (fun b o hb e=>(sb.2 b hb).trans e) g0 g1 g3 g4 g5
theorem yf{i:Nat}{y:Str}{py FV:Pos}(S:eE NB src scope X)(hc:X.calm=true)(hi:PI X tg iter wi)(hg:∀cl C s₃ H₃ fp,PG (nK X NB scope cl C s₃ H₃ fp) tg g)(ht:∀cl C s₃ H₃ fp,Jf (nK X NB scope cl C s₃ H₃ fp) oq tt)(hk:∀cl C s₃ H₃ fp,PE (nK X NB scope cl C s₃ H₃ fp) kx tk)(hv:∀cl C s₃ H₃ fp,PE (nK X NB scope cl C s₃ H₃ fp) vx tv)(hN:X.N.Nodup)(FW:X.N[i]?=some y)(hy:X.env.scope.names.lookup y=some .local)(WZ:swapsWith (.DictComp kx vx [⟨tg,iter,oq,0⟩] scope pos) (some (.Name y py)) FV.line X.env=pure true)(hs:∀x,foldedSetIterable iter X.env x=pure x:=by intro _;rfl):
  PS X (.Assign [.Name y py] (.DictComp kx vx [⟨tg,iter,oq,0⟩] scope pos) FV) (Jz (Ie src wi g tt tk tv) (cq i)):=by
 intro ae s σ H D0 I h;obtain⟨cl,Ab,c1,c2⟩:=ii I.ok S;rw[exec_Assign_Name_used _ _ _ _ WZ];refine aj (iQ (aj ?_));show wpAny _ X.A (do let _ <- comprehension (.DictComp kx vx [⟨tg,iter,oq,0⟩] scope pos) scope X.env _ newDict false (eval iter X.env) (some (assign (.Name y py) X.env))) _ _ s;refine aj (gs (vi (use:=some (assign (.Name y py) X.env)) (Q:=fun _ s'=>SP X ae D0 .next s') (cl:=cl) rfl hs Ab S.kind S.names
  (cj (hi ae s σ H _ I h) fun v s1 h1=>cj h1 fun QN s2 h2=>?_)) (fun _ s' hq=>wpAny_pure (wpAny_pure hq)) fun _ _ e=>e)
 obtain⟨it,fp,tn,J,H2,e,I2,T,oo,f2,hw⟩:=h2;subst e;refine qf (RR:=fun cn C=>compPost (model X.prog X.w) X.A X.xe (some (assign (.Name y py) X.env)) (fun _ s'=>SP X ae D0 .next s') cn C) S hc c1 c2 hg ht hk hv I2 T oo f2 hw fun D C H' s' fC I' hm q=>?_;obtain⟨m,hm⟩:=hm;obtain⟨g0,g1,_,g3,g4,g5⟩:=fC;show wpAny _ X.A (assign (.Name y py) X.env (.ref D)) _ _ _;refine zD (o0 I' hN FW (.inl hy) (v:=.ref D) rfl (fun FA W0 sb=>?_) (.inr hy));obtain⟨a,sb,ha⟩:=sb;have mC:C≠a:=by
  rcases ha with z|z
  .rw[z];exact g1
  .exact fun z'=>g4 y a z z'.symm
 refine⟨m,hm.sameBut sb mC,fun h' W1=>⟨_,H',W0.turned (t':=FA.toks) (fun b o hb e=>(W1.2 b hb).trans e) g0 g1 g3 g4 g5,q⟩⟩
end
theorem s_{xs:Array Nat}{j:Nat}(hx:∀i k,i<k->k<xs.size->xs.getD i 0<xs.getD k 0):∀ (dh lo hi:Nat),hi-lo<=dh->lo<=hi->hi<=xs.size->(∀i,i<lo->xs.getD i 0<j)->(∀i,hi<=i->i<xs.size->j<=xs.getD i 0)->
  SetTable.below.go xs j dh lo hi<=xs.size/\(∀i,i<SetTable.below.go xs j dh lo hi->xs.getD i 0<j)/\∀i,SetTable.below.go xs j dh lo hi<=i->i<xs.size->j<=xs.getD i 0
 |0,lo,hi,hf,hl,hh,h1,h2=>by
  unfold SetTable.below.go;exact⟨by lia,h1,fun i z=>h2 i (by lia)⟩
 |dh+1,lo,hi,hf,hl,hh,h1,h2=>by
  unfold SetTable.below.go;by_cases c:lo<hi
  .rw[ai c];dsimp only;have eg:xs.getD ((lo+hi) / 2) j=xs.getD ((lo+hi) / 2) 0:=by
    rw[iB,iB,iX (by lia)];rfl
   rw[eg];by_cases d:xs.getD ((lo+hi) / 2) 0<j
   .rw[ai d];refine s_ hx dh _ hi (by lia) (by lia) hh (fun i ER=>?_) h2;rcases gm i ((lo+hi) / 2) with z|z
    .exact vS (hx i _ z (by lia)) d
    .rw[show i=(lo+hi) / 2 by lia];exact d
   .rw[ap d];refine s_ hx dh lo _ (by lia) (by lia) (by lia) h1 (fun i ER hs=>?_);rcases gm ((lo+hi) / 2) i with z|z
    .exact aZ (zm d) (jl (hx _ i z hs))
    .rw[show i=(lo+hi) / 2 by lia];exact zm d
  .rw[ap c];exact⟨by lia,h1,fun i z=>h2 i (by lia)⟩
def Lx(xs:Array Nat):Prop:=∀i k,i<k->k<xs.size->xs.getD i 0<xs.getD k 0
theorem tf{xs:Array Nat}{j:Nat}(hx:Lx xs):SetTable.below xs j<=xs.size/\(∀i,i<SetTable.below xs j->xs.getD i 0<j)/\∀i,SetTable.below xs j<=i->i<xs.size->j<=xs.getD i 0:=
 s_ hx xs.size 0 xs.size (by lia) (cE _) (aW _) (fun i z=>absurd z (jQ _)) (fun i z z'=>by lia)
theorem yg{xs:Array Nat}(hx:Lx xs){i j:Nat}(hi:i<xs.size)(h1:∀k,k<i->xs.getD k 0<j)(h2:j<=xs.getD i 0):SetTable.below xs j=i:=by
 obtain⟨b0,b1,b2⟩:=tf (j:=j) hx;rcases Nat.lt_trichotomy (SetTable.below xs j) i with z|z|z
 .have:=b2 _ (aW _) (by lia);have:=h1 _ z;lia
 .exact z
 .have:=b1 i z;lia
theorem yh{xs:Array Nat}{p j i:Nat}(hp:p<=xs.size):(SetTable.insertAt xs p j).getD i 0=if i<p then xs.getD i 0 else if i=p then j else xs.getD (i-1) 0:=by
 have e:∀ (ys:Array Nat) k,ys.getD k 0=ys.toList.getD k 0:=fun ys k=>by rw[iB,cg,nq]
 rw[e,e,e];have el:(SetTable.insertAt xs p j).toList=xs.toList.take p++j::xs.toList.drop p:=by
  unfold SetTable.insertAt;simp[List.extract_eq_drop_take];exact yQ (by simp)
 have lp:(xs.toList.take p).length=p:=by rw[j6,eA];exact Nat.min_eq_left hp
 rw[el,cg,cg,cg];split
 .rw[pT (by lia),qW (by lia)]
 .split
  .rw[oz (by lia),lp];subst i;simp
  .rw[oz (by lia),lp,show i-p=(i-1-p)+1 by lia,List.getElem?_cons_succ,List.getElem?_drop];congr 2;lia
theorem Ly{xs:Array Nat}{j:Nat}(hx:Lx xs)(hj:∀i,i<xs.size->xs.getD i 0≠j):Lx (SetTable.insertAt xs (SetTable.below xs j) j):=by
 obtain⟨b0,b1,b2⟩:=tf (j:=j) hx;intro i k h1 h2;rw[eF] at h2;rw[yh b0,yh b0];generalize SetTable.below xs j=p at *;split
 .split
  .exact hx i k h1 (by lia)
  .split
   .exact b1 i (by assumption)
   .have:=b1 i (by assumption);have:=b2 (k-1) (by lia) (by lia);lia
 .split
  .rw[ap (by lia),ap (by lia)];have:=b2 (k-1) (by lia) (by lia);have:=hj (k-1) (by lia);lia
  .rw[ap (by lia),ap (by lia)];exact hx (i-1) (k-1) (by lia) (by lia)
theorem Ih{l:List Nat}(h:l.Pairwise (·<·)):Lx l.toArray:=by
 intro i k h1 h2;have h2':k<l.length:=by simpa using h2
 have:=E6.mp h i k (by lia) h2' h1;simpa [iB,h2',show i<l.length by lia] using this
theorem CL:∀ {l m:List Nat},l.Nodup->(∀x∈l,x∈m)->l.length<=m.length
 |[],_,_,_=>cE _
 |a::l,m,h,hm=>by
  obtain⟨h1,h2⟩:=cM.mp h;have ha:=hm a bN;have:=CL (m:=m.erase a) h2 fun x hx=>(q_ (fun (e:x=a)=>h1 (e ▸ hx))).mpr (hm x (bL _ hx));rw[qV ha] at this;have:=vk ha;rw[cD];lia
theorem yi{l:List Nat}{n:Nat}(nd:l.Nodup)(hl:l.length=n)(lt:∀x∈l,x<n):l.Perm (List.range n):=by
 refine(E3 nd oI).mpr fun x=>⟨fun h=>cU.mpr (lt x h),fun h=>?_⟩
 refine ve fun c=>?_;have:=CL (l:=x::l) (m:=List.range n) (cM.mpr ⟨c,nd⟩) fun y hy=>by
  rcases a7.mp hy with rfl|hy
  .exact h
  .exact cU.mpr (lt y hy)
 rw[cD,fm] at this;lia
def Et(owner:Array (Option Nat)):Prop:=∀i k x,owner.getD i none=some x->owner.getD k none=some x->i=k
theorem Ii{mask:Nat}{owner:Array (Option Nat)}{k j:Nat}(L:si (mask+1) owner k)(h:Et owner):Et (owner.setIfInBounds j (some k)):=by
 have e:∀i,(owner.setIfInBounds j (some k)).getD i none=if j=i/\i<owner.size then some k else owner.getD i none:=fun i=>by
  rw[iB,iB,Array.getElem?_setIfInBounds];by_cases c:j=i
  .subst c;by_cases d:j<owner.size
   .simp[d]
   .simp[d]
  .simp[c]
 have lt:∀i,owner.getD i none≠some k:=fun i z=>by
  rw[iB,<-nq] at z;cases hy:owner.toList[i]? with
  |none=>rw[hy] at z;cases z
  |some v=>rw[hy] at z;obtain rfl:v=some k:=z;exact hX _ (L.lt k (cB hy))
 intro i i' x h1 h2;rw[e] at h1 h2;split at h1
 .cases h1;split at h2
  .lia
  .exact absurd h2 (lt _)
 .split at h2
  .cases h2;exact absurd h1 (lt _)
  .exact h i i' x h1 h2
theorem CM{mask:Nat}(R:yB (mask+1)):∀ (l:List Int) (owner:Array (Option Nat)) (k:Nat),si (mask+1) owner k->Et owner->k+l.length<=mask->∀o n,
  l.foldl (fun cn h=>do
   let (owner,k) <- cn
   let j <- SetTable.layClean.free mask owner (SetTable.turns mask) (SetTable.bits h % (mask+1)) (SetTable.bits h)
   pure (owner.setIfInBounds j (some k),k+1)) (some (owner,k))=some (o,n)->Et o
 |[],owner,k,L,I,_,o,n,e=>by cases e;exact I
 |h::l,owner,k,L,I,hl,o,n,e=>by
  rw[cD] at hl;obtain⟨j,ej,L'⟩:=L.one R (by lia) h;rw[f8] at e;have:(do
   let (owner,k) <- some (owner,k)
   let j <- SetTable.layClean.free mask owner (SetTable.turns mask) (SetTable.bits h % (mask+1)) (SetTable.bits h)
   pure (owner.setIfInBounds j (some k),k+1):Option (Array (Option Nat)×Nat))=some (owner.setIfInBounds j (some k),k+1):=by
   show (SetTable.layClean.free mask owner (SetTable.turns mask) (SetTable.bits h % (mask+1)) (SetTable.bits h)).bind _=_;rw[ej];rfl
  rw[this] at e;exact CM R l _ _ L' (Ii L I) (by lia) o n e
theorem wQ{mask:Nat}(R:yB (mask+1)){hs:Array Int}(h:hs.size<=mask){o:Array (Option Nat)}(e:SetTable.layClean mask hs=some o):Et o:=by
 have L0:si (mask+1) (Array.replicate (mask+1) none) 0:=⟨by simp,by simp[List.countP_replicate],fun x hx=>by simp at hx⟩
 obtain⟨o',e',L⟩:=v_ R hs.toList _ 0 L0 (by simpa using h);have I:=CM R hs.toList _ 0 L0 (fun i k x h1=>by rw[iB,Array.getElem?_replicate] at h1;split at h1 <;> cases h1) (by simpa using h) o' _ e';unfold SetTable.layClean at e;rw[<-Array.foldl_toList] at e;have e2:=congrArg (Option.map (·.1)) e';have e3:some o=some o':=e.symm.trans e2;cases e3;exact I
theorem Lz{M:Nat}{owner:Array (Option Nat)}:(((List.range M).filterMap fun j=>(owner.getD j none).map (j,·)).map (·.1)).Pairwise (·<·):=by
 rw[jL];refine List.Pairwise.filterMap _ (fun a a' (h:a<a') b hb b' jT=>?_) (yR (n:=M));cases e:owner.getD a none with
 |none=>rw[e] at hb;cases hb
 |some x=>
  rw[e] at hb;cases hb;cases e':owner.getD a' none with
  |none=>rw[e'] at jT;cases jT
  |some x'=>rw[e'] at jT;cases jT;exact h
theorem Px{M:Nat}{owner:Array (Option Nat)}(I:Et owner):(((List.range M).filterMap fun j=>(owner.getD j none).map (j,·)).map (·.2)).Nodup:=by
 unfold List.Nodup;rw[jL];refine List.Pairwise.filterMap _ (fun a a' (h:a<a') b hb b' jT=>?_) (yR (n:=M));cases e:owner.getD a none with
 |none=>rw[e] at hb;cases hb
 |some x=>
  rw[e] at hb;cases hb;cases e':owner.getD a' none with
  |none=>rw[e'] at jT;cases jT
  |some x'=>
   rw[e'] at jT;cases jT;intro z;have z:x=x':=z;subst z;have:=I a a' x e e';lia
structure Eu(led:Bool)(es:Array (Int×Value))(t:SetTable):Prop where
 dm:t.dummies=#[]
 sz:t.place.size=es.size
 ms:(t.mask=7/\es.size<=4)\/(t.mask=31/\es.size<=18)
 ld:t.led=led
 pl:t.plain=true
 rs:Lx t.place
theorem Eu.fits{led:Bool}{es:Array (Int×Value)}{t:SetTable}(T:Eu led es t):t.fits es.size=true:=by
 unfold SetTable.fits SetTable.fill;rw[T.dm,T.sz];simp;rcases T.ms with ⟨e,z⟩|⟨e,z⟩ <;> lia
theorem Ij{led:Bool}:Eu led #[] (SetTable.fresh 0 0 led):=⟨rfl,rfl,.inl ⟨rfl,by decide⟩,rfl,rfl,fun i k _ h=>absurd h (jQ _)⟩
theorem yj{t:SetTable}{hashAt:Nat->Int}{h:Int}(hd:t.dummies=#[]):∀ (dh:Nat) (p:SetTable.Probe) (j:Nat) (d:Option Nat),SetTable.probe.go t hashAt h dh p=some (.empty j d)->t.slot j=.empty
 |0,p,j,d,e=>by unfold SetTable.probe.go at e;cases e
 |dh+1,p,j,d,e=>by
  unfold SetTable.probe.go at e;rcases qJ hd p.j with z|⟨i,z,_⟩
  .rw[z] at e;cases e;exact z
  .rw[z] at e;dsimp only at e;split at e
   .cases e
   .exact yj hd dh _ j d e
theorem Ik{led:Bool}{es:Array (Int×Value)}{t:SetTable}{h:Int}{x:Value}(T:Eu led es t)(hl:es.size<18):
  ∃iU t1,layNew t es h x=(iU,t1,false,false)/\iU.size=es.size+1/\t1.dummies=#[]/\t1.place.size=es.size+1/\t1.mask=t.mask/\t1.led=led/\t1.plain=true/\Lx t1.place/\t1.fits iU.size=true:=by
 have Si:t.place.size<=t.mask:=by rw[T.sz];rcases T.ms with ⟨e,z⟩|⟨e,z⟩ <;> lia
 have R:yB (t.mask+1):=by
  rcases T.ms with ⟨e,_⟩|⟨e,_⟩ <;> rw[e]
  .exact Sl
  .exact xz
 obtain⟨j,hp⟩:=sf (hashAt:=fun _=>h+1) (h:=h) R T.dm Si (fun i _ z=>by have z:h+1=h:=z;lia);have hs:=yj T.dm _ _ _ _ hp;have q2:(t.put j).1.dummies=#[]:=by
  show (if SetTable.has t.dummies j=true then _ else t.dummies)=_;rw[T.dm];rfl
 have hj:∀i,i<t.place.size->t.place.getD i 0≠j:=fun i hi e=>by
  have:=yg T.rs hi (j:=j) (fun k hk=>by rw[<-e];exact T.rs k i hk hi) (by rw[e];exact aW _);unfold SetTable.slot at hs;dsimp only at hs;rw[this,iX hi] at hs;rw[iB,iX hi] at e;have e:t.place[i]=j:=e;rw[e] at hs;simp at hs
 have s1:(SetTable.insertAt es (t.put j).2 (h,x)).size=es.size+1:=eF _ _ _;have s2:(t.put j).1.place.size=es.size+1:=by
  show (SetTable.insertAt t.place (SetTable.below t.place j) j).size=_;rw[eF,T.sz]
 have fl:(t.put j).1.fill=es.size+1:=by unfold SetTable.fill;rw[s2,q2];rfl
 have N_:(t.put j).1.fits (SetTable.insertAt es (t.put j).2 (h,x)).size=true:=by
  unfold SetTable.fits;rw[s1,s2,fl,show (t.put j).1.mask=t.mask from rfl];simp;rcases T.ms with ⟨e,z⟩|⟨e,z⟩ <;> lia
 refine⟨SetTable.insertAt es (t.put j).2 (h,x),(t.put j).1,?_,s1,q2,s2,rfl,T.ld,T.pl,Ly T.rs hj,N_⟩;unfold layNew SetTable.freeSlot;rw[hp];dsimp only;have e0:(none:Option Nat).getD j=j:=rfl;rw[e0];unfold SetTable.orStandIn;rw[ai N_,N_];rfl
theorem AZ{led:Bool}{es:Array (Int×Value)}{t:SetTable}(hd:t.dummies=#[])(hz:t.place.size=5)(hs:es.size=5)(hl:t.led=led)(hp:t.plain=true):
  ∃Rh t2,relayAll t es (SetTable.grown es.size)=(Rh,t2,false)/\Eu led Rh t2:=by
 have VQ:SetTable.sizeAbove (SetTable.grown es.size)=31+1:=by rw[hs];rfl
 have Jl:(es.map (·.1)).size=5:=by rw[iP,hs]
 obtain⟨owner,eo,L⟩:=pY (mask:=31) xz (es.map (·.1)) (by rw[Jl];decide);have IO:=wQ xz (by rw[Jl];decide) eo;obtain⟨EQ,Ms⟩:=sj L;have ris:=Lz (M:=31+1) (owner:=owner);have nd:=Px (M:=31+1) IO;rw[Jl] at EQ Ms;generalize Gc:(List.range (31+1)).filterMap (fun j=>(owner.getD j none).map (j,·))=live at EQ Ms ris nd;have er:t.relaid (es.map (·.1)) (SetTable.grown es.size)=some ({ mask:=31,place:=(live.map (·.1)).toArray,dummies:=#[],finger:=t.finger,led:=t.led,moves:=t.movedTo 31,plain:=t.plain },(live.map (·.2)).toArray):=by
  unfold SetTable.relaid SetTable.laid;rw[VQ];simp only[zc];rw[eo];show some _=some _;rw[<-Gc]
 have pm:(live.map (·.2)).Perm (List.range 5):=yi nd (by rw[aV,EQ]) fun x hx=>by
  obtain⟨q,hq,rfl⟩:=aQ.mp hx;exact Ms q hq
 have pA:((live.map (·.2)).toArray.filterMap (es[·]?)).size=5:=by
  rw[<-eA,q0];show ((live.map (·.2)).filterMap _).length=_;rw[<-EQ,zd];refine Aj fun q hq=>?_;show (es[q.2]?).isSome=true;rw[iX (by rw[hs];exact Ms q hq)];rfl
 have N_:({ mask:=31,place:=(live.map (·.1)).toArray,dummies:=#[],finger:=t.finger,led:=t.led,moves:=t.movedTo 31,plain:=t.plain }:SetTable).fits ((live.map (·.2)).toArray.filterMap (es[·]?)).size=true:=by
  rw[pA];unfold SetTable.fits SetTable.fill;simp[EQ]
 refine⟨(live.map (·.2)).toArray.filterMap (es[·]?),{ mask:=31,place:=(live.map (·.1)).toArray,dummies:=#[],finger:=t.finger,led:=t.led,moves:=t.movedTo 31,plain:=t.plain },?_,⟨rfl,?_,.inr ⟨rfl,?_⟩,hl,hp,Ih ris⟩⟩
 .unfold relayAll;rw[er];dsimp only;rw[ai (by
   rw[fq];refine⟨?_,N_⟩;unfold coversAll;rw[hs];exact List.isPerm_iff.mpr pm)]
 .rw[pA];simp[EQ]
 .rw[pA];decide
def iv:Value->Int
 |.int i _=>i
 |_=>0
def bT(w:World):Bool:=w.params.followText "set-order"
def SI(P:Program)(w:World)(h:Heap)(S:Addr)(ks:List Int):Prop:=
 ∃o es ep t,h.get? S=some o/\o.ExactSet/\o.data=.set es ep t/\ElemsOf (intKind P w) es.toList/\Eu (!bT w) es t/\(es.toList.map fun e=>iv e.2).Perm ks
section
variable {prog:Program} {w:World} {A:Around} {E:Value->Shared->Prop} {s:Shared} {S Ia l:Addr} {R:Result->Shared->Prop}
theorem SI.keep{h h':Heap}{ks:List Int}(x:SI prog w h S ks)(k:∀o,h.get? S=some o->h'.get? S=some o):SI prog w h' S ks:=let ⟨o,es,ep,t,a,b⟩:=x;⟨o,es,ep,t,k _ a,b⟩
theorem yk{h:Heap}{o:Obj}{es:Array (Int×Value)}{ep:Nat}{t:SetTable}(ho:h.get? S=some o)(yG:o.ExactSet)(hd:o.data=.set es ep t){es':Array (Int×Value)}{t':SetTable}:
  ∃o',(h.update S (Obj.putSet es' t')).get? S=some o'/\o'.ExactSet/\o'.data=.set es' (ep+1) t':=by
 have g:=oE (Obj.putSet es' t') ho (by rw[putSet_of es' t' hd];rfl);rw[putSet_of es' t' hd] at g;exact⟨_,g,yG,rfl⟩
theorem Py{g:Bool->Sem Unit}(hg:∀ (b:Bool) (s₁:Shared) (Q':Unit->Shared->Prop),Q' () s₁->wpAny (model prog w) A (g b) Q' E s₁){o:Obj}{es:Array (Int×Value)}{ep:Nat}{t:SetTable}(ho:s.heap.get? S=some o)(yG:o.ExactSet)(hd:o.data=.set es ep t){iU:Array (Int×Value)}{t2:SetTable}{ks:List Int}(LA:ElemsOf (intKind prog w) iU.toList)(Mr:(iU.toList.map fun e=>iv e.2).Perm ks)(hm:(t2.mask=7/\iU.size<=5)\/(t2.mask=31/\iU.size<=18))(hz:t2.place.size=iU.size)(YT:t2.dummies=#[])(hld:t2.led=!bT w)(uo:t2.plain=true)(hrs:Lx t2.place){R:Option Bool->Shared->Prop}(h:∀h',Heap.SameBut S s.heap h'->SI prog w h' S ks->R (some true) { s with heap:=h' }):
    wpAny (model prog w) A (do
        storeSet S iU t2
        if (!false&&t2.tooFull)=true then do
            g (relayAll t2 iU (SetTable.grown iU.size)).2.2
            storeSet S (relayAll t2 iU (SetTable.grown iU.size)).1 (relayAll t2 iU (SetTable.grown iU.size)).2.1
            pure (some true)
          else pure (some true)) R E s:=by
  have hsz:iU.size<=sizeLine:=aZ (show iU.size<=18 by rcases hm with ⟨_,z⟩|⟨_,z⟩ <;> lia) (by decide);refine aj (zB ho hd ?_ hsz);obtain⟨o1,Mz,Uq,Rf⟩:=yk (es':=iU) (t':=t2) ho yG hd;have Ur:=vy s.heap S (Obj.putSet iU t2);have fl:t2.fill=iU.size:=by unfold SetTable.fill;rw[hz,YT];rfl
  by_cases c:t2.tooFull=true
  . rw[ai (by rw[c];rfl)]
    have c':=c;unfold SetTable.tooFull at c';rw[fl] at c';have c':iU.size*5>=t2.mask*3:=by simpa using c'
    have e5:iU.size=5:=by rcases hm with ⟨e,z⟩|⟨e,z⟩ <;> rw[e] at c' <;> lia
    obtain⟨Rh,t3,er,T3⟩:=AZ YT (by rw[hz,e5]) e5 hld uo;have hp:=relayAll_perm t2 iU (SetTable.grown iU.size);rw[er] at hp |-;dsimp only at hp |-;refine aj (hg _ _ _ ?_);have pA:Rh.size=iU.size:=by rw[<-eA,hp.length_eq,eA]
    refine aj (zB Mz Rf ?_ (by rw[pA];exact hsz));obtain⟨o2,ho2,YU,Uh⟩:=yk (es':=Rh) (t':=t3) Mz Uq Rf;exact wpAny_pure (h _ (Ur.trans (vy _ S _)) ⟨o2,Rh,_,t3,ho2,YU,Uh,LA.perm hp,T3,(hp.map _).trans Mr⟩)
  . rw[ap (by simpa using c)]
    have c':¬ iU.size*5>=t2.mask*3:=by
      intro z;refine c ?_;unfold SetTable.tooFull;rw[fl];simpa using z
    have Sq:(t2.mask=7/\iU.size<=4)\/(t2.mask=31/\iU.size<=18):=by
      rcases hm with ⟨e,z⟩|⟨e,z⟩
      . rw[e] at c';exact .inl ⟨e,by lia⟩
      . exact .inr ⟨e,z⟩
    exact wpAny_pure (h _ Ur ⟨o1,iU,_,t2,Mz,Uq,Rf,LA,⟨YT,hz,Sq,hld,uo,hrs⟩,Mr⟩)
theorem M3{k:Int}{x:Value}(h:(intKind prog w).is k x=true):iv x=k:=by
 obtain⟨t,rfl⟩:=zE h;rfl
theorem Us{ks:List Int}{i:Int}{t:Tok}{Q:Bool->Shared->Prop}(hS:SI prog w s.heap S ks)(hl:ks.length<18)(h:∀h' tk b,Heap.SameBut S s.heap h'->SI prog w h' S (if i∈ks then ks else ks++[i])->Q b { s with heap:=h',toks:=tk }):wpAny (model prog w) A (setAdd S (.int i t)) Q E s:=by
 unfold setAdd;have nC:(intKind prog w).is i (.int i t)=true:=intKind_is _ _ _ _;refine f9 (aj ((intKind prog w).pyHash (k:=i) nC ?_));obtain⟨o,es,ep,tb,ho,yG,hd,Jm,T,pk⟩:=hS;have YV:(Value.int i t).scannable=true:=rfl;have cG:es.size<18:=by have:=pk.length_eq;rw[aV,eA] at this;lia
 unfold setAddHashed setAddHashedIn;refine f9 (aj (jj (s:={ s with toks:=s.toks+1 }) ho hd T.fits ?_));dsimp only;rw[byScan_of YV (bK cG (by decide)) Jm];simp only[↓reduceIte];unfold setAddByScan;refine aj ?_;refine aj (wpAny_rule ?_);refine aj (wpAny_setScan_of (knd:=intKind prog w) (s:={ s with toks:=s.toks+1 }) nC ho hd T.fits Jm ?_);have mem:i∈ks↔∃e∈es.toList,(intKind prog w).is i e.2=true:=by
  rw[<-pk.mem_iff,aQ];constructor
  .rintro⟨e,he,rfl⟩;obtain⟨⟨k,hk,_⟩,_⟩:=Jm e he;exact⟨e,he,by rw[M3 hk];exact hk⟩
  .rintro⟨e,he,z⟩;exact⟨e,he,M3 z⟩
 cases hr:List.findIdx? (fun e=>(intKind prog w).is i e.2) es.toList with
 |some j=>
  dsimp only;obtain⟨hj,hpj,_⟩:=List.findIdx?_eq_some_iff_getElem.mp hr;refine wpAny_pure (wpAny_pure (h s.heap _ _ (Heap.SameBut.refl S s.heap) ?_));rw[ai (mem.mpr ⟨_,iF hj,hpj⟩)];exact⟨o,es,ep,tb,ho,yG,hd,Jm,T,pk⟩
 |none=>
  dsimp only;have hn:i∉ks:=fun z=>by
   obtain⟨e,he,hp⟩:=mem.mp z;have:=List.findIdx?_eq_none_iff.mp hr e he;rw[hp] at this;exact Bool.noConfusion this
  have sH:=layNew_perm tb es ((intKind prog w).hash i) (.int i t);obtain⟨iU,t1,eL,z1,d1,p1,m1,l1,pl1,r1,f1⟩:=Ik (h:=(intKind prog w).hash i) (x:=.int i t) T cG;rw[eL] at sH |-;dsimp only at sH |-;rw[j_] at sH;have LA:ElemsOf (intKind prog w) iU.toList:=(Jm.push nC YV).perm sH;have Mr:(iU.toList.map fun e=>iv e.2).Perm (ks++[i]):=by
   refine(sH.map _).trans ?_;rw[dR];exact pk.append_right _
  refine aj (show wpAny _ _ (pure ()) _ _ _ from wpAny_pure ?_);rw[ai pl1];refine aj ?_;rw[hashByValue_scannable 8 YV];refine wpAny_pure ?_;have epk:plainKind (Value.int i t)=true:=rfl;simp only[epk,mi];refine Py (s:={ s with toks:=s.toks+1 }) (fun b s₁ Q' hq=>?_) ho yG hd LA Mr ?_ (by rw[p1,z1]) d1 l1 pl1 r1 fun h' VT S'=>?_
  .cases b <;> first|exact wpAny_pure hq|exact wpAny_rule hq
  .rw[m1,z1];rcases T.ms with ⟨e,z⟩|⟨e,z⟩
   .exact .inl ⟨e,by lia⟩
   .exact .inr ⟨e,by lia⟩
  .dsimp only;refine wpAny_pure (h h' _ _ VT ?_);rw[ap hn];exact S'
def iL(ns:List Int):List Int:=ns.foldl (fun ks i=>if i∈ks then ks else ks++[i]) []
theorem Pz{vs:List Value}{ns:List Int}(hI:IntsAre vs ns)(hh:A.handled=none)(W_:l≠S)(Xa:l≠Ia)(Dv:S≠Ia):
  ∀ (k i:Nat) (s:Shared) (ks:List Int),vs.length-i=k->i<=vs.length->s.heap.IsListIter Ia l i->s.heap.IsList l vs.toArray->SI prog w s.heap S ks->ks.length+(ns.length-i)<=17->
   (∀h' tk,(∀b o,b≠S->b≠Ia->s.heap.get? b=some o->h'.get? b=some o)->SI prog w h' S ((ns.drop i).foldl (fun ks i=>if i∈ks then ks else ks++[i]) ks)->R (.ok (.ret .none)) { s with heap:=h',toks:=tk })->
   codeAny (model prog w) A (.builtin "set.update.loop" ⟨[.ref S,.ref Ia],[]⟩) R s:=by
 have cG:vs.length=ns.length:=hI.length;intro k;induction k with
 |zero=>
  intro i s ks hk hi jS hl hS hz hR;have e:i=vs.length:=by lia
  refine gh vb ?_;rw[jh uk _];show wpAny _ A.in1 (pyNext (.ref Ia) >>= _) _ _ s;refine aj (y6 (show A.in1.handled=none from hh) jS hl (by simp;lia) fun h' eb=>?_);show wpAny _ A.in1 (ret Value.none) _ _ _;have hd:ns.drop i=[]:=by rw[List.drop_eq_nil_iff];lia
  rw[hd] at hR;exact wpAny_pure (hR h' s.toks (fun b o hb J2 e=>eb b o J2 e) (hS.keep fun o z=>eb S o Dv z))
 |succ k ih=>
  intro i s ks hk hi jS hl hS hz hR;have df:i<vs.length:=by lia
  refine gh vb ?_;rw[jh uk _];show wpAny _ A.in1 (pyNext (.ref Ia) >>= _) _ _ s;have hv:vs[i]?=some vs[i]:=cJ df;refine aj (yZ jS hl (x:=vs[i]) (by simpa using hv) fun h1 N2 ot=>?_);obtain⟨tk0,ev⟩:=IntsAre.int_at hI i _ hv;rw[ev];have VP:SI prog w h1 S ks:=hS.keep fun o z=>(ot.2 S Dv).trans z;have J3:h1.IsList l vs.toArray:=by
   obtain⟨ol,q1,q2⟩:=hl;exact⟨ol,(ot.2 l Xa).trans q1,q2⟩
  have Ag:i<ns.length:=by lia
  have Xb:ns.drop i=ns[i]::ns.drop (i+1):=oB Ag;have Xc:ns.getD i 0=ns[i]:=by rw[cg,cJ Ag];rfl
  rw[Xb,f8] at hR;rw[Xc];show wpAny _ A.in1 (holding [Value.int ns[i] tk0] (setAdd S (.int ns[i] tk0)) >>= _) _ _ _;refine aj (f9 (Us (s:={ s with heap:=h1 }) VP (by lia) fun h2 tk b ou S2=>?_));refine wpAny_pure ⟨rK uk _,?_⟩;refine ih (i+1) { s with heap:=h2,toks:=tk } _ (by lia) df ?_ ?_ S2 ?_ fun h3 Xd k3 S3=>?_
  .obtain⟨oi,q1,q2⟩:=N2;exact⟨oi,(ou.2 Ia (bE Dv)).trans q1,q2⟩
  .obtain⟨ol,q1,q2⟩:=J3;exact⟨ol,(ou.2 l W_).trans q1,q2⟩
  .split
   .lia
   .rw[dF];simp;lia
  .exact hR h3 Xd (fun b ob hb J2 e=>k3 b ob hb J2 ((ou.2 b hb).trans ((ot.2 b J2).trans e))) S3
theorem A0(a:Value){Q₁:Value->Shared->Prop}(h:Q₁ (.ref s.heap.objs.size) { s with heap:=s.heap.push { cls:=.type "set",dict:=none,data:=.set #[] 0 (.fresh 0 0 (!bT w)) } }):
  codeAny (model prog w) A (.call (.builtin "set.__new__") ⟨[.type "set",a],[]⟩) (wants Q₁ E) s:=by
 refine vL ?_;show wpAny _ A.in1 (do checkBuiltinCall "set.__new__" ⟨[.type "set",a],[]⟩;again (.builtin "set.__new__" ⟨[.type "set",a],[]⟩)) _ _ s;refine aj (fz (PySem.F.newCall_set_1 a) (wpAny_pure ⟨rK PySem.F.plain_set_new _,gh PySem.F.entry_set_new ?_⟩));rw[jh PySem.F.plain_set_new _];unfold Builtin.«set.__new__» Builtin.Frozenset.newClass;have XJ:=sub_set_self;obtain⟨hp,g,d,tk,os⟩:=s;dsimp only
 wp_walk
 refine rC (wpAny_pure ?_);dsimp only;simp only[newObj];refine aj (wpAny_alloc (wpAny_pure ?_));exact wpAny_pure h
theorem Ev{vs:List Value}{ns:List Int}{Q:Value->Shared->Prop}(hh:A.handled=none)(hl:s.heap.IsList l vs.toArray)(hI:IntsAre vs ns)(hz:ns.length<=17)(h:∀ (h':Heap) (tk:Nat),SI prog w h' s.heap.objs.size (iL ns)->(∀b o,b<s.heap.objs.size->s.heap.get? b=some o->h'.get? b=some o)->Q (.ref s.heap.objs.size) { s with heap:=h',toks:=tk }):
  wpAny (model prog w) A (call (.type "set") [.ref l]) Q E s:=by
 obtain⟨c,tl,Xe⟩:=gK.mro;have c1:=gK.made;have c2:=gK.sub;refine rL (vL ?_);show wpAny _ _ (callAny (.type "set") _) _ _ _;refine wpAny_pure ⟨zA _ (by decide +kernel),gh PySem.F.entry_type_call ?_⟩;rw[Around.under_plain (weight_type_call_type "set" [.ref l] []) rfl];have c3:=gK.notType;have c4:=gK.canCreate;have c5:=PySem.F.typeCall_set_1 (.ref l);repeat (any_goals (first|assumption|wp_step))
 refine kn (A0 (.ref l) (E:=E) (Q₁:=fun obj s₁=>∃led:Bool,led=(!bT w)/\obj=.ref s.heap.objs.size/\s₁={ s with heap:=s.heap.push { cls:=.type "set",dict:=none,data:=.set #[] 0 (.fresh 0 0 led) } }) ⟨_,rfl,rfl,rfl⟩) fun r s₁ hr=>?_;cases r with
 |error e=>exact hr
 |ok fl=>
  cases fl with
  |next=>exact hr.elim
  |brk=>exact hr.elim
  |cont=>exact hr.elim
  |ret obj=>
   obtain⟨led,YW,rfl,rfl⟩:=hr;generalize N3:s.heap.push { cls:=.type "set",dict:=none,data:=.set #[] 0 (.fresh 0 0 led) }=hS;have hsz:hS.objs.size=s.heap.objs.size+1:=by rw[<-N3,hU]
   have gS:hS.get? s.heap.objs.size=some { cls:=.type "set",dict:=none,data:=.set #[] 0 (.fresh 0 0 led) }:=by rw[<-N3];exact bR _ rfl
   have up:∀b o,s.heap.get? b=some o->hS.get? b=some o:=fun b o e=>by rw[<-N3];exact bp _ e
   have hT:Shared.TypeIs { s with heap:=hS } (.ref s.heap.objs.size) "set":=⟨_,gS,rfl⟩
   have c6:=gK.init.lookup;have c7:=gK.init.bind (.ref s.heap.objs.size);repeat (any_goals (first|assumption|wp_step))
   refine kn (vt (R:=wants (fun r s₂=>r=.none/\∃h' tk,s₂={ s with heap:=h',toks:=tk }/\SI prog w h' s.heap.objs.size (iL ns)/\
     (∀b o,b<s.heap.objs.size->s.heap.get? b=some o->h'.get? b=some o)) E) gK.init.plain PySem.F.entry_set_init (check_set_init_1 hT ?_)) fun r₂ s₂ F5=>?_
   .obtain⟨ol,F6,Ab,nl,N4⟩:=hl;obtain⟨Xf,Sj,Sk,N5⟩:=ol;simp only at Ab N4;subst Ab;subst N4;have N6:=up _ _ F6;have c8:=PySem.F.sub_list_set;have c9:=EY;have c10:(Value.type "list"==Value.type "dict")=false:=by decide
    have J3:hS.IsList l vs.toArray:=⟨_,N6,rfl,nl,rfl⟩
    unfold Builtin.«set.__init__» noKeywords Builtin.Frozenset.updateFrom;generalize Xg:pyIter=PI
    wp_walk
    subst Xg;refine vD J3 ?_;refine aj (vN ?_);have df:l<s.heap.objs.size:=aM F6;refine Pz (l:=l) (vs:=vs) (ns:=ns) hI (by simp[hh]) (aT df) (by rw[hsz];exact aT (dO df)) (by rw[hsz];exact aT (j5 _))
     (vs.length-0) 0 _ [] rfl (cE _) ⟨_,bR _ rfl,rfl,rfl⟩ (J3.push _) ⟨_,#[],0,_,bp _ gS,⟨rfl,rfl,rfl⟩,rfl,(fun e he=>by simp at he),YW ▸ Ij,.refl _⟩ (by simpa using hz) fun h' tk k S'=>?_
    show wpAny _ _ _ _ _ _;refine wpAny_pure ?_;show wpAny _ _ (ret Value.none) _ _ _;refine wpAny_pure ⟨rfl,h',tk,rfl,S',fun b o hb e=>?_⟩;exact k b o (aT hb) (by rw[hsz];exact aT (dO hb)) (bp _ (up b o e))
   .cases r₂ with
    |error e=>exact F5
    |ok Xh=>
     cases Xh with
     |next=>exact F5.elim
     |brk=>exact F5.elim
     |cont=>exact F5.elim
     |ret r=>
      obtain⟨rfl,h',tk,rfl,S',k⟩:=F5;repeat (any_goals (first|assumption|wp_step))
      exact h h' tk S' k
end
theorem tj:Manifest.owners.lookup (String.ofList ['r','o','t','a','r','e','t','i','_','t','e','s'].reverse)=some Manifest.sig_set_iterator:=by kernel_rfl
theorem dw:Slot "set_iterator" "__next__" "set_iterator.__next__":=
 .of (owner:="set_iterator") (n:="__next__") (by rw[typeLookup_type,builtinLookup_eq_fast];kernel_rfl) (by decide +kernel) (by decide +kernel) (by decide +kernel)
  (by first|exact .inl (by decide +kernel)|exact .inr (by decide +kernel)) (by rw[vO];kernel_rfl)
theorem jU:entryFor table "set_iterator.__next__"=some Builtin.«set_iterator.__next__»:=entryFor_of_tree (by kernel_rfl)
theorem jc(a:Value):argsOk "set_iterator.__next__" ⟨[a],[]⟩:=by
 unfold argsOk;rw[signature?_of (id:="set_iterator.__next__") (n:=['_','_','t','x','e','n','_','_']) (o:=['r','o','t','a','r','e','t','i','_','t','e','s']) (by kernel_rfl) tj];kernel_rfl
theorem k_:Slot "set_iterator" "__iter__" "set_iterator.__iter__":=
 .of (owner:="set_iterator") (n:="__iter__") (by rw[typeLookup_type,builtinLookup_eq_fast];kernel_rfl) (by decide +kernel) (by decide +kernel) (by decide +kernel)
  (by first|exact .inl (by decide +kernel)|exact .inr (by decide +kernel)) (by rw[vO];kernel_rfl)
theorem pR(a:Value):argsOk "set_iterator.__iter__" ⟨[a],[]⟩:=by
 unfold argsOk;rw[signature?_of (id:="set_iterator.__iter__") (n:=['_','_','r','e','t','i','_','_']) (o:=['r','o','t','a','r','e','t','i','_','t','e','s']) (by kernel_rfl) tj];kernel_rfl
theorem qv:entryFor table "set_iterator.__iter__"=some Builtin.«dict_keyiterator.__iter__»:=
 entryFor_alias (id':="dict_keyiterator.__iter__") (by kernel_rfl) (by first|rfl|decide +kernel|(unfold String.splitOn;simp +decide [String.splitOnAux])) (by decide +kernel) (by kernel_rfl)
theorem tm:entryFor table "set.__iter__"=some Builtin.«frozenset.__iter__»:=
 entryFor_alias (id':="frozenset.__iter__") (by kernel_rfl) (by first|rfl|decide +kernel|(unfold String.splitOn;simp +decide [String.splitOnAux])) (by decide +kernel) (by kernel_rfl)
section
variable {prog:Program} {w:World} {A:Around} {E:Value->Shared->Prop} {s:Shared} {S I:Addr}
def YX(S:Addr)(slot i n ep:Nat):Obj:={ cls:=.type "set_iterator",data:=.fields #[rawInt slot,rawInt i,.ref S,rawInt n,rawInt ep] }
def lf(h:Heap)(I S:Addr)(slot i n ep:Nat):Prop:=h.get? I=some (YX S slot i n ep)
theorem lf.ty{slot i n ep:Nat}(x:lf s.heap I S slot i n ep):s.TypeIs (.ref I) "set_iterator":=⟨_,x,rfl⟩
theorem PB{o:Obj}{es:Array (Int×Value)}{ep:Nat}{t:SetTable}(ho:s.heap.get? S=some o)(yG:o.ExactSet)(hd:o.data=.set es ep t)(T:Eu (!bT w) es t){Q:Value->Shared->Prop}(h:Q (.ref s.heap.objs.size) { s with heap:=s.heap.push (YX S 0 0 es.size ep) }):wpAny (model prog w) A (pyIter (.ref S)) Q E s:=by
 have hT:s.TypeIs (.ref S) "set":=⟨o,ho,yG.1⟩
 refine wpAny_pyIter_slot hT PySem.F.slot_set_iter (g_ PySem.F.slot_set_iter hT tm ?_ (PySem.F.args_set_iter_1 _));unfold Builtin.«frozenset.__iter__»;refine aj (fz (a:=S) rfl ?_);dsimp only;unfold Builtin.Frozenset.sizeOf;refine aj (aj (zi ho hd T.fits (wpAny_pure ?_)));unfold setDrawn setsByText;obtain⟨mask,place,dummies,finger,led,moves,plain⟩:=t;obtain rfl:plain=true:=T.pl;refine aj (aj ?_);refine jj ho hd T.fits ?_;dsimp only;refine aj (aj (rC (wpAny_pure (wpAny_pure ?_))));have e:(!(w.params.followText "set-order")&&false)=false:=by rw[Bool.and_false]
 show wpAny _ _ (if (!(w.params.followText "set-order")&&false)=true then _ else _) _ _ _;rw[e,ap bo];refine aj (wpAny_pure ?_);unfold setEpoch;refine aj (aj (jj ho hd T.fits (wpAny_pure ?_)));dsimp only;simp only[newFields,newObj];refine aj (aj (wpAny_alloc (wpAny_pure ?_)));exact wpAny_pure ⟨_,rfl,"set_iterator",_,⟨_,bR _ rfl,rfl⟩,dw.lookup,h⟩
def lL(w:World)(S ep:Nat)(es:Array (Int×Value)):Array (Int×Value):=if bT w=true then pickOrder (w.params.setOrder S ep) es else es
def jd(w:World)(t:SetTable):Nat->Nat
 |0=>0
 |i+1=>if bT w=true then 0 else t.place.getD i 0+1
theorem u_{o:Obj}{es:Array (Int×Value)}{ep:Nat}{t:SetTable}(ho:s.heap.get? S=some o)(hd:o.data=.set es ep t)(T:Eu (!bT w) es t){i:Nat}(hi:i<=es.size){Q:Option (Value×Nat)->Shared->Prop}(h:Q (((lL w S ep es)[i]?).map fun e=>(e.2,jd w t (i+1))) s):wpAny (model prog w) A (setNext S (jd w t i) i ep) Q E s:=by
 unfold setNext;refine aj (jj ho hd T.fits ?_);dsimp only;unfold setsByText;refine aj (aj (rC (wpAny_pure ?_)));dsimp only;cases hb:bT w with
 |true=>
  have jT:(model prog w).w.params.followText "set-order"=true:=hb;rw[jT,ai rfl];rw[ap (by simp)];unfold setWalk;refine aj (aj ?_);refine jj ho hd T.fits ?_;dsimp only;unfold setsByText;refine aj (aj (rC (wpAny_pure ?_)));dsimp only;rw[jT,ai rfl];refine aj (rC (wpAny_pure (wpAny_pure ?_)));have e1:lL w S ep es=pickOrder (w.params.setOrder S ep) es:=ai hb;have e2:∀i,jd w t i=0:=fun i=>by cases i with
   |zero=>rfl
   |succ i=>exact ai hb
  rw[e1,e2] at h;rw[e2];exact h
 |false=>
  have jT:(model prog w).w.params.followText "set-order"=false:=hb;rw[jT,ap bo];obtain⟨mask,place,dummies,finger,led,moves,plain⟩:=t;obtain rfl:plain=true:=T.pl;obtain rfl:led=true:=by have:=T.ld;rw[hb] at this;exact this
  refine wpAny_ite_split (fun z=>absurd (show false=true from z) bo) (fun _=>?_);refine aj (show wpAny _ _ (pure PUnit.unit) _ _ _ from wpAny_pure ?_);have e1:lL w S ep es=es:=ap (by rw[hb];exact bo);have sz:place.size=es.size:=T.sz;have rs:Lx place:=T.rs;rw[e1] at h;have eb:SetTable.below place (jd w { mask,place,dummies,finger,led:=true,moves,plain:=true } i)=i:=by
   obtain⟨b0,b1,b2⟩:=tf (j:=jd w { mask,place,dummies,finger,led:=true,moves,plain:=true } i) rs;have lo:∀k,k<i->place.getD k 0<jd w { mask,place,dummies,finger,led:=true,moves,plain:=true } i:=fun k hk=>by
    cases i with
    |zero=>lia
    |succ i=>
     show _<(if bT w=true then 0 else place.getD i 0+1);rw[hb,ap bo];rcases gm k i with z|z
     .exact dO (rs k i z (by lia))
     .rw[show k=i by lia];exact j5 _
   rcases gm i place.size with z|z
   .refine yg rs z lo ?_;cases i with
    |zero=>exact cE _
    |succ i=>
     show (if bT w=true then 0 else place.getD i 0+1)<=_;rw[hb,ap bo];exact rs i (i+1) (j5 _) z
   .have ei:i=place.size:=by lia
    rcases gm (SetTable.below place (jd w { mask,place,dummies,finger,led:=true,moves,plain:=true } i)) place.size with y|y
    .have:=b2 _ (aW _) y;have:=lo _ (Nat.lt_of_lt_of_eq y ei.symm);lia
    .lia
  refine wpAny_pure ?_;dsimp only;rw[eb];rcases gm i es.size with z|z
  .have e2:jd w { mask,place,dummies,finger,led:=true,moves,plain:=true } (i+1)=place[i]'(by lia)+1:=by
    show (if bT w=true then 0 else place.getD i 0+1)=_;rw[hb,ap bo,iB,iX (by lia)];rfl
   rw[e2,iX z] at h;rw[iX z,iX (show i<place.size by lia)];exact h
  .rw[vm z] at h |-;exact h
theorem tu{α:Type}:∀ (l:List α) (i:Nat) (h:i<l.length),(l[i]::l.eraseIdx i).Perm l
 |a::l,0,_=>.refl _
 |a::l,i+1,h=>by
  show (l[i]'(lX h)::a::l.eraseIdx i).Perm (a::l);exact(List.Perm.swap a _ _).trans (List.Perm.cons a (tu l i (lX h)))
theorem CN(next:Nat->Nat):∀ (dh k:Nat) (left:List (Int×Value)) (out:Array (Int×Value)),left.length=dh->(pickOrder.go next dh k left out).toList.Perm (out.toList++left)
 |0,k,left,out,h=>by
  obtain rfl:=yH h;unfold pickOrder.go;rw[oK]
 |dh+1,k,left,out,h=>by
  unfold pickOrder.go;have hl:next k % left.length<left.length:=jn _ (by lia)
  rw[cJ hl];dsimp only;refine(CN next dh (k+1) _ _ (by rw[List.length_eraseIdx_of_lt hl];lia)).trans ?_;rw[j_,cT];exact nk _ (tu left _ hl)
theorem lj{ep:Nat}{es:Array (Int×Value)}:(lL w S ep es).toList.Perm es.toList:=by
 unfold lL;split
 .unfold pickOrder;refine(CN _ es.size 0 es.toList #[] (by simp)).trans ?_;simp
 .exact .refl _
theorem PD{o:Obj}{es:Array (Int×Value)}{ep:Nat}{t:SetTable}(ho:s.heap.get? S=some o)(hd:o.data=.set es ep t)(T:Eu (!bT w) es t)(Dv:S≠I){i:Nat}{e:Int×Value}(he:(lL w S ep es)[i]?=some e)(jS:lf s.heap I S (jd w t i) i es.size ep){Q:Option Value->Shared->Prop}(hQ:∀h',lf h' I S (jd w t (i+1)) (i+1) es.size ep->Heap.SameBut I s.heap h'->Q (some e.2) { s with heap:=h' }):wpAny (model prog w) A (pyNext (.ref I)) Q E s:=by
 have Jg:(lL w S ep es).size=es.size:=by
  have:=(lj (w:=w) (S:=S) (ep:=ep) (es:=es)).length_eq;rwa [eA,eA] at this
 have hi:i<es.size:=by rw[<-Jg];exact(oA.mp he).1
 unfold pyNext;refine aj (mh (lN (name:=Str.ofString "__next__") jS.ty dw
  (g_ dw jS.ty jU ?_ (jc _))))
 unfold Builtin.«set_iterator.__next__»;refine aj (fz (a:=(Value.ref I,[])) rfl ?_);dsimp only;refine aj (wpAny_fieldsOf jS rfl ?_);dsimp only[rawInt];refine aj (zi ho hd T.fits ?_);rw[ap (by simp)];refine aj ?_;simp only[j9];refine u_ ho hd T (jl hi) ?_;rw[he];dsimp only[Option.map];refine aj (j8 jS (by simp) fun h1 g1 ot=>?_);refine aj (j8 (s:={ s with heap:=h1 }) g1 (by simp) fun h2 g2 ou=>?_);refine wpAny_pure ⟨e.2,rfl,wpAny_pure (hQ h2 ?_ (ot.trans ou))⟩;show h2.get? I=some _;rw[g2];rfl
theorem Il{o:Obj}{es:Array (Int×Value)}{ep:Nat}{t:SetTable}(hh:A.handled=none)(ho:s.heap.get? S=some o)(hd:o.data=.set es ep t)(T:Eu (!bT w) es t)(Dv:S≠I)(jS:lf s.heap I S (jd w t es.size) es.size es.size ep){Q:Option Value->Shared->Prop}(hQ:∀h',Heap.ExtBut I s.heap h'->Q none { s with heap:=h' }):wpAny (model prog w) A (pyNext (.ref I)) Q E s:=by
 have Jg:(lL w S ep es).size=es.size:=by
  have:=(lj (w:=w) (S:=S) (ep:=ep) (es:=es)).length_eq;rwa [eA,eA] at this
 unfold pyNext;refine aj (mh (lN (name:=Str.ofString "__next__") jS.ty dw
  (g_ dw jS.ty jU ?_ (jc _))))
 unfold Builtin.«set_iterator.__next__»;refine aj (fz (a:=(Value.ref I,[])) rfl ?_);dsimp only;refine aj (wpAny_fieldsOf jS rfl ?_);dsimp only[rawInt];refine aj (zi ho hd T.fits ?_);rw[ap (by simp)];refine aj ?_;simp only[j9];refine u_ ho hd T (aW _) ?_;rw[vm (by rw[Jg];exact aW _)];dsimp only[Option.map];refine aj (j8 jS (by simp) fun h1 g1 ot=>?_);first
 |show wpAny _ _ (newExc (.type "StopIteration") [] >>= _) _ _ _
 |(refine aj ?_;show wpAny _ _ (newExc (.type "StopIteration") [] >>= _) _ _ _)
 refine aj ?_;simp only[newExc,newTuple];refine aj (g8 ?_ (by size_fits));refine aj (m:=firstArgMember _ _) (fz (a:=Value.none) (by first|rfl|(simp only[firstArgMember];rfl)) ?_);refine g8 ?_ (by size_fits);simp only[raiseNew];refine aj (wpAny_handled ?_);first|rw[show A.in1.handled=none from hh]|rw[hh]
 refine aj (wpAny_pure (wpAny_throw ?_));refine aj (rB (T:="StopIteration") (b:=true) ⟨_,bR _ rfl,rfl⟩ vP ?_);exact wpAny_pure (hQ _ ((ot.extBut.push _).push _))
theorem A1{slot i n ep:Nat}{Q:Value->Shared->Prop}(jS:lf s.heap I S slot i n ep)(h:Q (.ref I) s):wpAny (model prog w) A (pyIter (.ref I)) Q E s:=by
 refine wpAny_pyIter_slot jS.ty k_ (g_ k_ jS.ty qv ?_ (pR _));show wpAny _ _ (ret (.ref I)) _ _ s;exact wpAny_pure ⟨_,rfl,"set_iterator",_,jS.ty,dw.lookup,h⟩
end
open PySem PySem.Spec PyProof.Rows PySem.W
section
variable {prog:Program} {w:World} {A:Around} {E:Value->Shared->Prop} {s:Shared} {S I:Addr}
theorem Im{r:Addr}{Q:Bool->Shared->Prop}(hT:s.TypeIs (.ref r) "set")(h:Q false s):wpAny (model prog w) A (Builtin.List.listLengthHint (.ref r)) Q E s:=by
 unfold Builtin.List.listLengthHint;refine aj (vJ hT PySem.F.slot_set_len.lookup ?_);generalize QU:("set.__len__":String)=id0
 wp_delta
 rw[show splitId id0=some ("set","__len__") from by subst QU;decide +kernel];subst QU;refine aj (rB (T:="set") (b:=true) hT (by rw[vO];kernel_rfl) ?_);refine wpAny_ite_split (fun ES=>absurd ES (by decide)) (fun _=>?_);refine wpAny_ite_split (fun _=>?_) (fun ES=>absurd (by decide +kernel) ES);refine aj (vU hT ?_);exact wpAny_pure h
theorem LB{o:Obj}{es:Array (Int×Value)}{ep:Nat}{t:SetTable}(hh:A.handled=none)(hd:o.data=.set es ep t)(T:Eu (!bT w) es t)(Dv:S≠I):
  Walks prog w A I [I,S] [I] es.size (fun i v=>((lL w S ep es)[i]?).map (·.2)=some v) (fun i h=>i<=es.size/\lf h I S (jd w t i) i es.size ep/\h.get? S=some o) where
 sub:=fun b hb=>by simp at hb;simp[hb]
 frame:=fun _ _ _ st hk=>⟨st.1,hk I (by simp) _ st.2.1,hk S (by simp) _ st.2.2⟩
 item:=fun i s Q E hi st hQ=>by
  have Jg:(lL w S ep es).size=es.size:=by
   have:=(lj (w:=w) (S:=S) (ep:=ep) (es:=es)).length_eq;rwa [eA,eA] at this
  have he:(lL w S ep es)[i]?=some ((lL w S ep es)[i]'(by rw[Jg];exact hi)):=iX _;refine PD st.2.2 hd T Dv he st.2.1 fun h' YY hs'=>?_;exact hQ _ h' s.toks (by rw[he];rfl) ⟨hi,YY,(hs'.2 S Dv).trans st.2.2⟩ fun b o hb e=>hs'.extBut b o (fun h=>hb (by simp[h])) e
 done:=fun s Q E st hQ=>Il hh st.2.2 hd T Dv st.2.1 fun h' he'=>hQ h' s.toks fun b o hb e=>he' b o (fun h=>hb (by simp[h])) e
 self:=fun _ _ _ _ st hQ=>A1 st.2.1 hQ
theorem Ut{o:Obj}{es:Array (Int×Value)}{ep:Nat}{t:SetTable}(yG:o.ExactSet)(hd:o.data=.set es ep t)(T:Eu (!bT w) es t):
  KdlSrc prog w "set" S S es.size (fun i v=>((lL w S ep es)[i]?).map (·.2)=some v) (fun h=>h.get? S=some o) where
 type:=fun s h=>⟨o,h,yG.1⟩
 there:=fun h e=>⟨aM e,aM e⟩
 keep:=fun h h' e k=>k S (.inl rfl) _ e
 notList:=by decide
 notTuple:=by decide
 hint:=fun A E s Q e q=>Im ⟨o,e,yG.1⟩ q
 iter:=fun A s hh e=>⟨YX S 0 0 es.size ep,fun i h=>i<=es.size/\lf h s.heap.objs.size S (jd w t i) i es.size ep/\h.get? S=some o,fun E Q q=>PB e yG hd T q,
  LB hh hd T (aT (aM e)),⟨cE _,bR _ rfl,bp _ e⟩⟩
theorem Ew{o:Obj}{es:Array (Int×Value)}{ep:Nat}{t:SetTable}(hh:A.handled=none)(ho:s.heap.get? S=some o)(yG:o.ExactSet)(hd:o.data=.set es ep t)(T:Eu (!bT w) es t){Q:List Value->Shared->Prop}(h:∀h' tk (vs:List Value),(∀b o,s.heap.get? b=some o->h'.get? b=some o)->vs.Perm (es.toList.map (·.2))->Q vs { s with heap:=h',toks:=tk }):wpAny (model prog w) A (collect (.ref S)) Q E s:=by
 have df:=aM ho;have hn:es.size<=sizeLine:=aZ (show es.size<=18 by rcases T.ms with ⟨_,z⟩|⟨_,z⟩ <;> lia) (by decide);have Jg:(lL w S ep es).size=es.size:=by
  have:=(lj (w:=w) (S:=S) (ep:=ep) (es:=es)).length_eq;rwa [eA,eA] at this
 have gen:∀R:Result->Shared->Prop,(∀h' tk ym c',(∀b o,b≠s.heap.objs.size->(s.heap.push { cls:=.type "list",data:=.seq ([]:List Value).toArray }).get? b=some o->h'.get? b=some o)->h'.get? s.heap.objs.size=some { cls:=.type "list",dict:=none,data:=.seq ym c',slots:=#[] }->ItemsOf (fun i v=>((lL w S ep es)[i]?).map (·.2)=some v) ym es.size->R (.ok (.ret (.ref s.heap.objs.size))) { s with heap:=h',toks:=tk })->
   codeAny (model prog w) A (.builtin "proto.collect" ⟨[.ref S],[]⟩) R s:=by
  intro R hR;refine gh PySem.F.entry_proto_collect ?_;rw[jh PySem.F.plain_proto_collect _];show wpAny _ A.in1 (newList [] >>= fun l=>again (.builtin "list.__iadd__" ⟨[l,.ref S],[]⟩)) _ _ s;refine aj (g8 ?_);refine wpAny_pure ⟨rK PySem.F.plain_list_iadd _,gh PySem.F.entry_list_iadd ?_⟩;rw[jh PySem.F.plain_list_iadd _];show wpAny _ A.in1 (Builtin.List.listExtendWith (.ref s.heap.objs.size) (.ref S) (.ref s.heap.objs.size)) _ _ _;exact kdl_extend (prog:=prog) (w:=w) (R:=R) (s:={ s with heap:=s.heap.push { cls:=.type "list",data:=.seq ([]:List Value).toArray } }) (A:=A) (Ut yG hd T) hh (show _=some o from bp _ ho) s.heap.objs.size (gj df) (gj df) _ 0 (bR _ rfl) (fun h' tk ym c' k YZ ia=>hR h' tk ym c' k YZ ia) hn
 unfold collect;refine aj (vN (gen _ fun h' tk ym c' k YZ ia=>?_));show wpAny _ A (load s.heap.objs.size >>= _) _ _ _;refine aj (wpAny_load YZ ?_);refine wpAny_pure (h h' tk _ (fun b o' e=>k b o' (aT (aM e)) (bp _ e)) ?_);have eq:ym.toList=(lL w S ep es).toList.map (·.2):=by
  apply rj;intro i;rw[bv,nq,nq];rcases gm i es.size with z|z
  .have hv:ym[i]?=some (ym[i]'(by rw[ia.1];exact z)):=iX _;rw[hv];exact(ia.2 i _ hv).symm
  .rw[vm (by rw[ia.1];exact z),vm (by rw[Jg];exact z)];rfl
 rw[eq];exact lj.map _
theorem CO:∀ {vs:List Value},(∀v∈vs,∃i t,v=Value.int i t)->IntsAre vs (vs.map iv)
 |[],_=>.nil
 |v::vs,h=>by
  obtain⟨i,t,rfl⟩:=h v bN;exact .cons i t (CO fun u hu=>h u (bL _ hu))
theorem A2{ks:List Int}{Q:Value->Shared->Prop}(hh:A.handled=none)(hS:SI prog w s.heap S ks)(h:∀l h' tk (out:Array Value) e (Hs:List Int),s.heap.get? l=none->(∀b o,s.heap.get? b=some o->h'.get? b=some o)->h'.get? l=some (seqObj "list" out e)->IntsAre out.toList Hs->Hs.Perm ks->Q (.ref l) { s with heap:=h',toks:=tk }):
  wpAny (model prog w) A (call (.builtin "sorted") [.ref S]) Q E s:=by
 obtain⟨o,es,ep,t,ho,yG,hd,Jm,T,pk⟩:=hS;refine Calls.call_function_entry kind_sorted plain_sorted entry_sorted (args_sorted1 _) ?_;unfold Builtin.«sorted»;refine aj (m:=checkCount "sorted" 1 1 _) (wpAny_pure ?_);refine aj (Ew (A:=A.in1) (prog:=prog) (w:=w) hh ho yG hd T fun h1 tk vs k pv=>?_);have hvs:∀v∈vs,∃i t,v=Value.int i t:=fun v hv=>by
  obtain⟨e,he,rfl⟩:=aQ.mp (pv.mem_iff.mp hv);obtain⟨⟨k,hk,_⟩,_⟩:=Jm e he;obtain⟨t,ht⟩:=zE hk;exact⟨k,t,ht⟩
 have cG:vs.length<64:=by
  rw[pv.length_eq,aV,eA];rcases T.ms with ⟨_,z⟩|⟨_,z⟩ <;> lia
 refine aj (wpAny_newList ?_);have EJ:(h1.push (seqObj "list" vs.toArray 0)).get? h1.objs.size=some (seqObj "list" vs.toArray 0):=bR _ rfl;show wpAny _ _ _ _ _ { s with heap:=h1.push (seqObj "list" vs.toArray 0),toks:=tk };refine aj (f9 (g_ slot_list_sort ⟨_,EJ,rfl⟩ entry_list_sort (list_sort_tree (s:={ s with heap:=h1.push (seqObj "list" vs.toArray 0),toks:=tk }) EJ (CO hvs) cG fun out Hs a1 a2 a3=>⟨_,rfl,?_⟩) (args_list_sort _)));obtain⟨e,he⟩:=sortedHeap_at (out:=out) EJ;have free:s.heap.get? h1.objs.size=none:=by
  cases q:s.heap.get? h1.objs.size with
  |none=>rfl
  |some u=>exact absurd (aM (k _ _ q)) (hX _)
 refine wpAny_pure ⟨_,rfl,h h1.objs.size _ tk out e Hs free (fun b u eb=>?_) he a1 ?_⟩
 .have hb:=k b u eb;have df:=aM hb;rw[sortedHeap_old (aT df) (by rw[ky];exact dO df)];exact bp _ hb
 .refine a2.trans ((pv.map iv).trans ?_);rw[fu];exact pk
end
def tw(P:Program)(w:World)(S:Addr)(ks:List Int):HO:=.ext fun h=>SI P w h S ks
section
variable {X:Cx}
def Uu(X:Cx):List V->Hp->VK->Prop:=fun xs H Q=>∃ (l:Addr) (ns:List Int),xs=[.ref l]/\bh X.K H l (ns.map V.int)/\ns.length<=17/\∀D,H D=none->Q (.ref D) (upd H D (tw X.prog X.w D (iL ns)))
theorem A4(hc:X.calm=true):gb X (.type "set") (Uu X):=by
 intro ae s σ H xs us Q I r h;obtain⟨l,ns,rfl,hl,VR,q⟩:=h;obtain⟨u1,rfl,r1⟩:=r.one;obtain rfl:u1=Value.ref l:=r1;obtain⟨its,rv,pl,_⟩:=I.list hl;refine Ev (I.ok.hd hc) pl.isList (z5 rv) VR fun h' tk S' k=>?_;refine⟨.ref s.heap.objs.size,_,I.xy (t':=tk) (o:=tw X.prog X.w s.heap.objs.size (iL ns)) (fun b u e=>k b u (aM e) e) (re (aW _)) ⟨S',?_,fun h1 h2 z kk=>z.keep kk⟩,rfl,q _ I.fresh⟩;obtain⟨o,_,_,_,q1,_⟩:=S';exact⟨o,q1⟩
def PF(X:Cx):List V->Hp->VK->Prop:=fun xs H Q=>∃ (S:Addr) (ks:List Int),xs=[.ref S]/\H S=some (tw X.prog X.w S ks)/\ks.length<=17/\∀ (D:Addr) (Hs:List Int),H D=none->Hs.Perm ks->Q (.ref D) (upd H D (.lst (Hs.map V.int)))
theorem A6(hc:X.calm=true):gb X (.builtin "sorted") (PF X):=by
 intro ae s σ H xs us Q I r h;obtain⟨S,ks,rfl,hS,h17,q⟩:=h;obtain⟨u1,rfl,r1⟩:=r.one;obtain rfl:u1=Value.ref S:=r1;obtain⟨S',_⟩:=(show bX X.prog X.w H s.heap S (tw X.prog X.w S ks) from I.bU S _ hS)
 refine A2 (I.ok.hd hc) S' fun l h' tk out e Hs free keep ho a1 a2=>?_;have eo:out=out.toList.toArray:=by simp
 refine⟨.ref l,_,I.xy (t':=tk) (o:=.lst (Hs.map V.int)) keep free ⟨?_,out.toList,e,pj a1,by rw[ho]⟩,rfl,q _ Hs (I.bU.r_ free) a2⟩;rw[aV,a2.length_eq];exact aZ h17 (by decide)
end
theorem yn{hi:Int}{n:Nat}{g:TG}{tb:TS}{D:vX}{σ:St}{H:Hp}(Pv:Nat->St->Hp->Prop)(h0:Pv 0 σ H)(hs:∀i σ H,i<n->Pv i σ H->g (.int (hi-i)) σ H fun σ2 H2=>tb { D with nx:=Pv (i+1),ct:=Pv (i+1),bk:=D.nx } σ2 H2)(hd:∀σ H,Pv n σ H->D.nx σ H):
  ∃W:Nat->Nat->St->Hp->Prop,(∃m,W 0 m σ H)/\∀i m σ H,W i m σ H->
   ((Rg hi n).stop i H/\D.nx σ H)\/((Rg hi n).go i H/\∃N:St->Hp->Prop,(∀σ' H',N σ' H'->∃m',m'<m/\W (i+1) m' σ' H')/\∀x H',(Rg hi n).Ja i H x H'->g x σ H' fun σ2 H2=>tb { D with nx:=N,ct:=N,bk:=D.nx } σ2 H2):=by
 refine⟨fun i m σ H=>m=n-i/\i<=n/\Pv i σ H,⟨n,by simp,cE _,h0⟩,?_⟩;rintro i m σ H ⟨rfl,hi,p⟩;by_cases df:i<n
 .refine .inr ⟨df,Pv (i+1),fun σ' H' p'=>⟨n-(i+1),by lia,rfl,df,p'⟩,fun x H' y=>?_⟩;obtain⟨e,y⟩:=y;subst e y;exact hs i σ _ df p
 .have e:i=n:=by lia
  subst e;exact .inl ⟨aW _,hd σ H p⟩
section
variable {X:Cx} {tg:Expr}
def PJ(tl:TE):TI:=fun σ H R=>tl σ H fun x H1=>∃d kvs,x=.ref d/\Rd H1 d (.dK kvs)/\∀o H2,H2 d=some (.mm o (.dK kvs))->(∀b,b≠d->H2 b=H1 b)->R (VW d o kvs) H2
theorem Io{l:Expr}{tl:TE}(hl:PE X l tl):PI X tg l (PJ tl):=by
 intro ae s σ H R I h;refine cj (hl ae s σ H _ I h) fun v s1 ⟨x,H1,I1,r1,q1⟩=>?_;obtain⟨d,kvs,e,hd,q⟩:=q1;subst e;cases r1;have cK:∀ (o:Obj) (H2:Hp),aE X ae σ H2 s1->H2 d=some (.mm o (.dK kvs))->(∀b,b≠d->H2 b=H1 b)->wpAny (model X.prog X.w) X.A (pyIter (.ref d)) (WB X ae σ tg R) X.xe s1:=by
  intro o H2 I2 h2 k2;obtain⟨ho,z,hS,vs,kv,o',es,ep,g1,g2,g3,g4,g5,g6⟩:=I2.bU d _ h2;rw[ho] at g1;cases g1;have hm:s1.heap.DictAt (cX X.prog X.w) d vs ep:=⟨o,es,ho,g2,g3,g4,g5,g6⟩
  refine wpAny_pyIter_dict hS hm ?_;refine⟨s1.heap.objs.size,[s1.heap.objs.size],_,_,_,rfl,I2.kept (t':=s1.toks) fun b o e=>bp _ e,DK d _ o kvs es ep g3,⟨_,bR _ rfl,rfl,by rw[kv.length];rfl⟩,fun b hb=>?_,q o H2 h2 k2⟩;have e:b=s1.heap.objs.size:=by simpa using hb
  subst e;exact I2.tW (aW _) (I2.bU.fresh (aW _))
 rcases hd with hd|⟨o,hd⟩
 .obtain⟨z,hS,vs,kv,o,es,ep,g1,g2,g3,g4,g5,g6⟩:=Gm I1.bU hd;exact cK o _ (I1.freeze hd g1 ⟨(fun _ z=>by cases z),(fun _ _ z=>by cases z),(fun _ z=>by cases z),(fun _ z=>by cases z)⟩) ag fun b hb=>al hb
 .exact cK o H1 I1 hd fun b _=>rfl
end
theorem Ey{d D:Addr}{o:Obj}{kvs:List (dI×V)}{g:TG}{tt:TT}{te:TE}{cK:Hp->Prop}{σB:St}{H0:Hp}(Pv:Nat->List V->St->Hp->Prop)(h0:Pv 0 [] σB H0)(hl:∀i ys σ H,i<=kvs.length->Pv i ys σ H->H d=some (.mm o (.dK kvs)))(hs:∀i k v ys σ H (Kt:V->St->Hp->Prop) (Kf:St->Hp->Prop),kvs[i]?=some (k,v)->Pv i ys σ H->
   (∀v σ2 H4,H4 D=some (.lst ys)->ys.length<sizeLine->Pv (i+1) (ys++[v]) σ2 (upd H4 D (.lst (ys++[v])))->Kt v σ2 H4)->(∀σ2 H3,Pv (i+1) ys σ2 H3->Kf σ2 H3)->
   g (kV k) σ H fun σ2 H2=>tt σ2 H2 fun b H3=>if b=true then te σ2 H3 fun v H4=>Kt v σ2 H4 else Kf σ2 H3)(hd:∀ys σ H,Pv kvs.length ys σ H->cK H):iG (VW d o kvs) g tt te D cK σB H0:=by
 refine⟨fun i m σ H=>m=kvs.length-i/\i<=kvs.length/\∃ys,Pv i ys σ H,⟨kvs.length,by simp,cE _,[],h0⟩,?_⟩;rintro i m σ H ⟨rfl,hi,ys,p⟩;have q:=hl i ys σ H hi p;by_cases df:i<kvs.length
 .refine .inr ⟨⟨q,df⟩,?_⟩;rintro x H' ⟨rfl,k,v,hk,rfl⟩;exact hs i k v ys σ _ (fun v σ2 H4=>∃ys,H4 D=some (.lst ys)/\ys.length<sizeLine/\∃m',m'<kvs.length-i/\m'=kvs.length-(i+1)/\i+1<=kvs.length/\∃pD,Pv (i+1) pD σ2 (upd H4 D (.lst (ys++[v]))))
   (fun σ2 H3=>∃m',m'<kvs.length-i/\m'=kvs.length-(i+1)/\i+1<=kvs.length/\∃pD,Pv (i+1) pD σ2 H3) hk p
   (fun v σ2 H4 z1 z2 z3=>⟨ys,z1,z2,_,by lia,rfl,df,_,z3⟩) (fun σ2 H3 z=>⟨_,by lia,rfl,df,_,z⟩)
 .have e:i=kvs.length:=by lia
  subst e;exact .inl ⟨⟨q,aW _⟩,hd ys σ H p⟩
theorem A7{K:PySem.W.Frag}{a D:Addr}{xs:List V}{g:TG}{tt:TT}{tk tv:TE}{cK:Hp->Prop}{σB:St}{H0:Hp}(Pv:Nat->List (dI×V)->St->Hp->Prop)(h0:Pv 0 [] σB H0)(hl:∀i kvs σ H,i<=xs.length->Pv i kvs σ H->bh K H a xs)(hs:∀i x kvs σ H (Kt:V->V->St->Hp->Prop) (Kf:St->Hp->Prop),xs[i]?=some x->Pv i kvs σ H->
   (∀k v σ2 H4,H4 D=some (.dK kvs)->kvs.length<sizeLine->Pv (i+1) (gf kvs k v) σ2 (upd H4 D (.dK (gf kvs k v)))->Kt (kV k) v σ2 H4)->(∀σ2 H3,Pv (i+1) kvs σ2 H3->Kf σ2 H3)->
   g x σ H fun σ2 H2=>tt σ2 H2 fun b H3=>if b=true then tk σ2 H3 fun y H4=>tv σ2 H4 fun v H5=>Kt y v σ2 H5 else Kf σ2 H3)(hd:∀kvs σ H,Pv xs.length kvs σ H->cK H):ye (Fh K a) g tt tk tv D cK σB H0:=by
 refine⟨fun i m σ H=>m=xs.length-i/\i<=xs.length/\∃kvs,Pv i kvs σ H,⟨xs.length,by simp,cE _,[],h0⟩,?_⟩;rintro i m σ H ⟨rfl,hi,ys,p⟩;have q:=hl i ys σ H hi p;by_cases df:i<xs.length
 .refine .inr ⟨⟨xs,xs[i],q,by simp[df]⟩,?_⟩;rintro x H' ⟨rfl,y⟩;exact hs i x ys σ _ (fun y v σ2 H4=>∃kvs k,H4 D=some (.dK kvs)/\y=kV k/\kvs.length<sizeLine/\∃m',m'<xs.length-i/\m'=xs.length-(i+1)/\i+1<=xs.length/\∃lM,Pv (i+1) lM σ2 (upd H4 D (.dK (gf kvs k v))))
   (fun σ2 H3=>∃m',m'<xs.length-i/\m'=xs.length-(i+1)/\i+1<=xs.length/\∃pD,Pv (i+1) pD σ2 H3) (y xs q) p
   (fun k v σ2 H4 z1 z2 z3=>⟨ys,k,z1,rfl,z2,_,by lia,rfl,df,_,z3⟩) (fun σ2 H3 z=>⟨_,by lia,rfl,df,_,z⟩)
 .have e:i=xs.length:=by lia
  subst e;exact .inl ⟨⟨xs,q,aW _⟩,hd ys σ H p⟩
end L2
namespace jW
theorem Ez{p q:Prop}[Decidable p][Decidable q]{α:Type}{a b:α}(h:p↔q):(if p then a else b)=if q then a else b:=by
 by_cases c:p
 .rw[ai c,ai (h.mp c)]
 .rw[ap c,ap (fun z=>c (h.mpr z))]
abbrev Gf:=Nat->Option Nat
def sg(g:Gf)(i y:Nat):Gf:=fun j=>if j=i then some y else g j
theorem fX{g:Gf}{i y:Nat}:sg g i y i=some y:=ai rfl
theorem je{g:Gf}{i y j:Nat}(h:j≠i):sg g i y j=g j:=ap h
def wR(W:Nat->Nat)(s:Gf×List Nat)(i:Nat):Gf×List Nat:=if W i∈s.2 then (sg s.1 i (W i),s.2.erase (W i)) else s
def fw(c:Nat->Nat)(s:Gf×List Nat)(i:Nat):Gf×List Nat:=
 if s.1 i=none then (if c i∈s.2 then (sg s.1 i (c i),s.2.erase (c i)) else (sg s.1 i (s.2.headD 0),s.2.erase (s.2.headD 0))) else s
def lst(W:Nat->Nat)(ls:List Nat)(s:Gf×List Nat)(t:Nat):Gf×List Nat:=
 match ls.find? (fun i=>decide (s.1 i=none/\W i=t)) with
 |some i=>(sg s.1 i t,s.2)
 |none=>(s.1,s.2++[t])
def FT(W:Nat->Nat)(ls T:List Nat)(g:Gf):Gf:=fun i=>if W i∈T/\ls.find? (fun j=>decide (W j=W i))=some i then some (W i) else g i
def FR(W:Nat->Nat)(ls T:List Nat):List Nat:=T.filter fun t=>decide (∀j∈ls,W j≠t)
theorem iM(W:Nat->Nat):∀ (ls T:List Nat) (g:Gf),T.Nodup->ls.foldl (wR W) (g,T)=(FT W ls T g,FR W ls T)
 |[],T,g,_=>by
  show (g,T)=_;refine eK (funext fun i=>?_) ?_
  .show g i=if _ then _ else _
   rw[ap (fun z=>(nomatch z.2))]
  .show T=T.filter _;exact(List.filter_eq_self.mpr fun t _=>decide_eq_true fun j hj=>(nomatch hj)).symm
 |i0::ls,T,g,nd=>by
  rw[f8];by_cases c:W i0∈T
  .rw[show wR W (g,T) i0=(sg g i0 (W i0),T.erase (W i0)) from ai c,iM W ls _ _ (nd.erase _)];have ne:W i0∉T.erase (W i0):=fun z=>((nd.mem_erase_iff).mp z).1 rfl;refine eK (funext fun i=>?_) ?_
   .show (if _ then _ else _)=if _ then _ else _
    by_cases e:W i0=W i
    .rw[ap (by rw[<-e];exact fun z=>ne z.1),List.find?_cons_of_pos (by rw[e];exact decide_eq_true rfl)];by_cases ei:i=i0
     .subst ei;rw[fX,ai ⟨c,rfl⟩]
     .rw[je ei,ap (fun z=>ei (bi z.2).symm)]
    .have ei:i≠i0:=fun z=>e (by rw[z]);rw[yS (by simpa using e),je ei];exact Ez (by rw[q_ (bE e)])
   .show (T.erase (W i0)).filter _=T.filter _;rw[nd.erase_eq_filter,List.filter_filter];refine zg fun t _=>?_;rw[jR,fq,iC,iC,bne_iff_ne];constructor
    .rintro⟨h1,h2⟩ j hj;rcases a7.mp hj with rfl|hj
     .exact fun e=>h2 e.symm
     .exact h1 j hj
    .exact fun h=>⟨fun j hj=>h j (bL _ hj),fun e=>h i0 bN e.symm⟩
  .rw[show wR W (g,T) i0=(g,T) from ap c,iM W ls _ _ nd];refine eK (funext fun i=>?_) ?_
   .show (if _ then _ else _)=if _ then _ else _
    by_cases e:W i0=W i
    .rw[ap (by rw[<-e];exact fun z=>c z.1),ap (by rw[<-e];exact fun z=>c z.1)]
    .rw[yS (by simpa using e)]
   .show T.filter _=T.filter _;refine zg fun t ht=>?_;rw[jR,iC,iC];constructor
    .intro h1 j hj;rcases a7.mp hj with rfl|hj
     .exact fun e=>c (e ▸ ht)
     .exact h1 j hj
    .exact fun h j hj=>h j (bL _ hj)
theorem mZ{α:Type}{p q:α->Bool}:∀ {l:List α},(∀x∈l,p x=q x)->l.find? p=l.find? q
 |[],_=>rfl
 |x::l,h=>by
  rw[jk,jk,h x bN,mZ fun y hy=>h y (bL _ hy)]
theorem n_(W:Nat->Nat)(ls:List Nat):∀ (T:List Nat) (g:Gf) (cn:List Nat),T.Nodup->(∀i∈ls,W i∈T->g i=none)->T.foldl (lst W ls) (g,cn)=(FT W ls T g,cn++FR W ls T)
 |[],g,cn,_,_=>by
  show (g,cn)=_;refine eK (funext fun i=>?_) ?_
  .show g i=FT W ls [] g i;unfold FT;rw[ap (fun z=>(nomatch z.1))]
  .show cn=cn++[];rw[oK]
 |t::T,g,cn,nd,hg=>by
  obtain⟨n1,n2⟩:=cM.mp nd;rw[f8];have ef:ls.find? (fun i=>decide (g i=none/\W i=t))=ls.find? (fun i=>decide (W i=t)):=mZ fun i hi=>show decide (g i=none/\W i=t)=decide (W i=t) by
   refine(md (p:=g i=none/\W i=t) (q:=W i=t)).mpr ?_;exact⟨fun z=>z.2,fun z=>⟨hg i hi (by rw[z];exact bN),z⟩⟩
  cases ec:ls.find? (fun i=>decide (W i=t)) with
  |some i1=>
   have w1:W i1=t:=by simpa using vG ec
   have Y0:lst W ls (g,cn) t=(sg g i1 t,cn):=by
    unfold lst;dsimp only;rw[ef,ec]
   rw[Y0,n_ W ls T _ cn n2 (fun i hi hw=>by rw[je (fun z=>n1 (by rw[<-w1,<-z];exact hw))];exact hg i hi (bL _ hw))];refine eK (funext fun i=>?_) ?_
   .show (if _ then _ else _)=if _ then _ else _
    by_cases e:W i=t
    .rw[ap (by rw[e];exact fun z=>n1 z.1),e,ec];by_cases ei:i=i1
     .rw[ei,fX,ai ⟨bN,rfl⟩]
     .rw[je ei,ap (fun z=>ei (bi z.2).symm)]
    .rw[je (fun z=>e (by rw[z,w1]))];simp only[a7,e,false_or]
   .show cn++T.filter _=cn++(t::T).filter _;rw[List.filter_cons_of_neg];intro z;exact dA z i1 (vd ec) w1
  |none=>
   have Do:∀j∈ls,W j≠t:=fun j hj=>by simpa using rf.mp ec j hj
   have Y0:lst W ls (g,cn) t=(g,cn++[t]):=by
    unfold lst;dsimp only;rw[ef,ec]
   rw[Y0,n_ W ls T _ _ n2 (fun i hi hw=>hg i hi (bL _ hw))];refine eK (funext fun i=>?_) ?_
   .show (if _ then _ else _)=if _ then _ else _
    by_cases e:W i=t
    .rw[ap (by rw[e];exact fun z=>n1 z.1),e,ec,ap (fun z=>(nomatch z.2))]
    .simp only[a7,e,false_or]
   .show (cn++[t])++T.filter _=cn++(t::T).filter _;rw[yO (p:=fun t=>decide (∀j∈ls,W j≠t)) (decide_eq_true Do),cT];rfl
theorem CP{W:Nat->Nat}{ls T T':List Nat}{g:Gf}(h:∀x,x∈T↔x∈T'):FT W ls T g=FT W ls T' g:=by
 funext i;exact Ez (by rw[h])
theorem LC{W:Nat->Nat}{ls T T':List Nat}(h:T.Perm T'):(FR W ls T).Perm (FR W ls T'):=h.filter _
structure KI(c:Nat->Nat)(bV:List Nat)(s:Gf×List Nat):Prop where
 nd:bV.Nodup
 fn:s.2.Nodup
 l2:s.2.length<=2
 ct:(bV.filter fun i=>decide (s.1 i=none)).length<=s.2.length
 co:s.2.length=2->∀i∈bV,s.1 i=none->c i∈s.2
theorem KI.skip{c:Nat->Nat}{i:Nat}{bV:List Nat}{s:Gf×List Nat}(K:KI c (i::bV) s)(h:s.1 i≠none):KI c bV s:=
 ⟨(cM.mp K.nd).2,K.fn,K.l2,by have:=K.ct;rwa [List.filter_cons_of_neg (by simpa using h)] at this,fun z j hj=>K.co z j (bL _ hj)⟩
theorem KI.take{c:Nat->Nat}{i y:Nat}{bV:List Nat}{s:Gf×List Nat}(K:KI c (i::bV) s)(h:s.1 i=none)(hy:y∈s.2):KI c bV (sg s.1 i y,s.2.erase y):=by
 obtain⟨n1,n2⟩:=cM.mp K.nd;have ct:=K.ct;rw[yO (p:=fun i=>decide (s.1 i=none)) (decide_eq_true h),cD] at ct;have le:=qV hy;have l2:=K.l2;have ef:(bV.filter fun j=>decide (sg s.1 i y j=none))=bV.filter fun j=>decide (s.1 j=none):=zg fun j hj=>by rw[je (fun (e:j=i)=>n1 (e ▸ hj))]
 refine⟨n2,K.fn.erase _,by show (s.2.erase y).length<=2;lia,?_,fun z=>?_⟩
 .show (bV.filter fun j=>decide (sg s.1 i y j=none)).length<=(s.2.erase y).length;rw[ef];lia
 .have z:(s.2.erase y).length=2:=z;lia
theorem KI.head{c:Nat->Nat}{i:Nat}{bV:List Nat}{s:Gf×List Nat}(K:KI c (i::bV) s)(h:s.1 i=none)(hc:c i∉s.2):∃y,s.2=[y]:=by
 have ct:=K.ct;rw[yO (p:=fun i=>decide (s.1 i=none)) (decide_eq_true h),cD] at ct;have l2:=K.l2;have h1:s.2.length=1:=by
  rcases gm s.2.length 2 with z|z
  .lia
  .exact absurd (K.co (by lia) i bN h) hc
 match e:s.2,h1 with
 |[y],_=>exact⟨y,rfl⟩
theorem KI.step{c:Nat->Nat}{i:Nat}{bV:List Nat}{s:Gf×List Nat}(K:KI c (i::bV) s):KI c bV (fw c s i)/\(fw c s i).1 i≠none/\∀s':Gf×List Nat,s'.1=s.1->s'.2.Perm s.2->(fw c s' i).1=(fw c s i).1/\(fw c s' i).2.Perm (fw c s i).2:=by
 unfold fw;by_cases h:s.1 i=none
 .rw[ai h];by_cases hc:c i∈s.2
  .rw[ai hc];refine⟨K.take h hc,(fun z=>by have z:sg s.1 i _ i=none:=z;rw[fX] at z;cases z),fun s' e p=>?_⟩;rw[e,ai h,ai (p.mem_iff.mpr hc)];exact⟨rfl,p.erase _⟩
  .rw[ap hc];obtain⟨y,ey⟩:=K.head h hc;have hy:s.2.headD 0=y:=by rw[ey];rfl
   rw[hy];refine⟨K.take h (by rw[ey];exact bN),(fun z=>by have z:sg s.1 i _ i=none:=z;rw[fX] at z;cases z),fun s' e p=>?_⟩;have e2:s'.2=s.2:=by rw[ey] at p |-;exact List.perm_singleton.mp p
   rw[e,ai h,e2,ap hc,hy];exact⟨rfl,.refl _⟩
 .rw[ap h];refine⟨K.skip h,h,fun s' e p=>?_⟩;rw[e,ap h];exact⟨e,p⟩
theorem yo{c:Nat->Nat}{s:Gf×List Nat}{i j:Nat}(h:s.1 j≠none):(fw c s i).1 j=s.1 j:=by
 unfold fw;by_cases h0:s.1 i=none
 .have ne:j≠i:=fun e=>h (e ▸ h0);rw[ai h0];split
  .exact je ne
  .exact je ne
 .rw[ap h0]
theorem pS{c:Nat->Nat}:∀ (bV:List Nat) (s:Gf×List Nat) (j:Nat),s.1 j≠none->(bV.foldl (fw c) s).1 j=s.1 j
 |[],s,j,_=>rfl
 |i::bV,s,j,h=>by
  rw[f8,pS bV _ j (by rw[yo h];exact h),yo h]
theorem lD{c:Nat->Nat}:∀ (bV:List Nat) (s:Gf×List Nat) (j:Nat),j∉bV->(bV.foldl (fw c) s).1 j=s.1 j
 |[],s,j,_=>rfl
 |i::bV,s,j,h=>by
  rw[f8,lD bV _ j (fun z=>h (bL _ z))];have ne:j≠i:=fun e=>h (e ▸ bN);unfold fw;split
  .split <;> exact je ne
  .rfl
theorem wS{c:Nat->Nat}:∀ (bV:List Nat) (s:Gf×List Nat) (y:Nat),y∈(bV.foldl (fw c) s).2->y∈s.2
 |[],s,y,h=>h
 |i::bV,s,y,h=>by
  rw[f8] at h;have:=wS bV _ y h;unfold fw at this;split at this
  .split at this <;> exact List.mem_of_mem_erase this
  .exact this
theorem A8{c:Nat->Nat}:∀ (bV:List Nat) (s:Gf×List Nat),s.2.Nodup->(bV.foldl (fw c) s).2.Nodup
 |[],s,h=>h
 |i::bV,s,h=>by
  rw[f8];refine A8 bV _ ?_;unfold fw;split
  .split <;> exact h.erase _
  .exact h
theorem kst_all{c:Nat->Nat}:∀ (bV:List Nat) (s:Gf×List Nat),KI c bV s->(∀i∈bV,(bV.foldl (fw c) s).1 i≠none)/\∀s':Gf×List Nat,s'.1=s.1->s'.2.Perm s.2->(bV.foldl (fw c) s').1=(bV.foldl (fw c) s).1/\(bV.foldl (fw c) s').2.Perm (bV.foldl (fw c) s).2
 |[],s,_=>⟨fun i h=>(nomatch h),fun s' e p=>⟨e,p⟩⟩
 |i::bV,s,K=>by
  obtain⟨K1,n1,r1⟩:=K.step;obtain⟨a1,a2⟩:=kst_all bV _ K1;refine⟨fun j hj=>?_,fun s' e p=>?_⟩
  .rcases a7.mp hj with rfl|hj
   .rw[f8,pS bV _ _ n1];exact n1
   .exact a1 j hj
  .obtain⟨e1,p1⟩:=r1 s' e p;exact a2 _ e1 p1
theorem M4{α:Type}{p q:α->Bool}(h:∀x,p x=true->q x=true->False):∀l:List α,(l.filter p).length+(l.filter q).length<=l.length
 |[]=>aW _
 |x::l=>by
  have ih:=M4 h l;rw[eT,eT,cD];by_cases c1:p x=true
  .by_cases c2:q x=true
   .exact(h x c1 c2).elim
   .rw[ai c1,ap c2,cD];lia
  .rw[ap c1];split
   .rw[cD];lia
   .lia
theorem M5{α:Type}{p:α->Bool}:∀l:List α,l.length=(l.filter p).length+(l.filter fun x=>!p x).length
 |[]=>rfl
 |x::l=>by
  have ih:=M5 (p:=p) l;rw[eT,eT,cD];cases c:p x <;> simp <;> lia
theorem yq{α:Type}[DecidableEq α]:∀ {a b:List α},a.Nodup->(∀x∈a,x∈b)->a.length<=b.length
 |[],b,_,_=>cE _
 |x::xs,b,hn,hs=>by
  obtain⟨h1,h2⟩:=cM.mp hn;have hx:x∈b:=hs x bN;have:=yq (b:=b.erase x) h2 fun y hy=>(q_ (fun (e:y=x)=>h1 (e ▸ hy))).mpr (hs y (bL _ hy));rw[qV hx] at this;have:0<b.length:=vk hx;rw[cD];lia
theorem yr{W c:Nat->Nat}{own T:List Nat}{g:Gf}(nd:own.Nodup)(tn:T.Nodup)(t2:T.length<=2)(hc:∀i∈own,c i∈T)(inj:∀i∈own,∀j∈own,c i=c j->i=j):KI c own (FT W own T g,FR W own T):=by
 have fl:(FR W own T).length<=T.length:=gZ _ _;refine⟨nd,tn.filter _,aZ fl t2,?_,fun z i hi _=>?_⟩
 .have o1:own.length<=T.length:=by
   have:=yq (a:=own.map c) (b:=T) ?_ (fun x hx=>by obtain⟨i,hi,rfl⟩:=aQ.mp hx;exact hc i hi)
   .rwa [aV] at this
   .unfold List.Nodup;rw[jL];exact nd.imp_of_mem fun {a b} ha hb ne e=>ne (inj a ha b hb e)
  have o2:=M4 (p:=fun i=>decide (FT W own T g i=none)) (q:=fun i=>decide (W i∈T/\own.find? (fun j=>decide (W j=W i))=some i)) (fun x h1 h2=>by
   have h1:=dA h1;have h2:=dA h2;unfold FT at h1;rw[ai h2] at h1;cases h1) own
  have o3:=M5 (p:=fun t=>decide (∀j∈own,W j≠t)) T;have o4:=yq (a:=T.filter fun t=>!decide (∀j∈own,W j≠t)) (b:=(own.filter fun i=>decide (W i∈T/\own.find? (fun j=>decide (W j=W i))=some i)).map W) (tn.filter _) fun t ht=>by
   obtain⟨h1,h2⟩:=bw.mp ht;have h2:∃j∈own,W j=t:=by
    refine ve fun z=>?_;rw[decide_eq_true (show ∀j∈own,W j≠t from fun j hj e=>z ⟨j,hj,e⟩)] at h2;cases h2
   obtain⟨j,hj,ej⟩:=h2;cases ec:own.find? (fun i=>decide (W i=t)) with
   |none=>exact absurd ej (by simpa using rf.mp ec j hj)
   |some i=>
    have wi:W i=t:=by simpa using vG ec
    exact aQ.mpr ⟨i,bw.mpr ⟨vd ec,decide_eq_true ⟨by rw[wi];exact h1,by rw[wi];exact ec⟩⟩,wi⟩
  rw[aV] at o4;show (own.filter fun i=>decide (FT W own T g i=none)).length<=(FR W own T).length;unfold FR;lia
 .have z:(FR W own T).length=2:=z;have e:FR W own T=T:=(vq (p:=fun t=>decide (∀j∈own,W j≠t)) (l:=T)).eq_of_length (show (FR W own T).length=T.length by lia);show c i∈FR W own T;rw[e];exact hc i hi
structure HA(d:Nat)(here:List Nat)(W c p l:Nat->Nat)(T:Nat->List Nat):Prop where
 nd:here.Nodup
 hw:∀i∈here,∀k,k<d->(W i∈T k↔p i=k)
 hc:∀i∈here,∀k,k<d->(c i∈T k↔l i=k)
 le:∀i∈here,l i<=p i/\p i<d
 inj:∀i∈here,∀j∈here,c i=c j->i=j
 tn:∀k,k<d->(T k).Nodup/\(T k).length<=2
def a8(here:List Nat)(l:Nat->Nat)(k:Nat):List Nat:=here.filter fun i=>decide (l i=k)
def oa(here:List Nat)(l:Nat->Nat)(k:Nat):List Nat:=here.filter fun i=>decide (l i<k)
def qw(here:List Nat)(W c l:Nat->Nat)(T:List Nat)(k:Nat)(g:Gf):Gf:=((oa here l k).foldl (wR W) ((a8 here l k).foldl (fw c) ((a8 here l k).foldl (wR W) (g,T)))).1
def PM(here:List Nat)(W c l:Nat->Nat)(T:List Nat)(k:Nat)(g:Gf):Gf:=
 (((a8 here l k).foldl (fw c) (T.foldl (lst W (a8 here l k)) (g,[]))).2.foldl (lst W here) (((a8 here l k).foldl (fw c) (T.foldl (lst W (a8 here l k)) (g,[]))).1,[])).1
structure JI(here:List Nat)(p l:Nat->Nat)(k:Nat)(g:Gf):Prop where
 lo:∀i∈here,g i≠none->k<=p i
 hi:∀i∈here,k<=l i->g i≠none
section
variable {d:Nat} {here:List Nat} {W c p l:Nat->Nat} {T:Nat->List Nat}
theorem HA.own(A:HA d here W c p l T){k:Nat}(hk:k<d){g:Gf}:KI c (a8 here l k) (FT W (a8 here l k) (T k) g,FR W (a8 here l k) (T k)):=
 yr (A.nd.filter _) (A.tn k hk).1 (A.tn k hk).2 (fun i hi=>(A.hc i (bw.mp hi).1 k hk).mpr (dA (bw.mp hi).2)) fun i hi j hj=>A.inj i (bw.mp hi).1 j (bw.mp hj).1
theorem wT{ls T:List Nat}{g:Gf}{i:Nat}(h:g i≠none):FT W ls T g i≠none:=by
 unfold FT;split
 .exact fun z=>(nomatch z)
 .exact h
theorem tD{ls T:List Nat}{g:Gf}{i:Nat}:(W i∈T/\i∈ls/\FT W ls T g i=some (W i))\/FT W ls T g i=g i:=by
 unfold FT;split
 .rename_i h;exact .inl ⟨h.1,vd h.2,rfl⟩
 .exact .inr rfl
theorem JI.step(A:HA d here W c p l T){k:Nat}(hk:k<d){g:Gf}(J:JI here p l (k+1) g):JI here p l k (qw here W c l (T k) k g):=by
 have K:=A.own hk (g:=g);obtain⟨ka,_⟩:=kst_all _ _ K;have e1:=iM W (a8 here l k) (T k) g (A.tn k hk).1;have fn:((a8 here l k).foldl (fw c) (FT W (a8 here l k) (T k) g,FR W (a8 here l k) (T k))).2.Nodup:=A8 _ _ ((A.tn k hk).1.filter _);have e2:=iM W (oa here l k) _ ((a8 here l k).foldl (fw c) (FT W (a8 here l k) (T k) g,FR W (a8 here l k) (T k))).1 fn;have e:qw here W c l (T k) k g=FT W (oa here l k) ((a8 here l k).foldl (fw c) (FT W (a8 here l k) (T k) g,FR W (a8 here l k) (T k))).2 ((a8 here l k).foldl (fw c) (FT W (a8 here l k) (T k) g,FR W (a8 here l k) (T k))).1:=by
  unfold qw;rw[e1,e2]
 refine⟨fun i hi h=>?_,fun i hi h=>?_⟩
 .have hp:W i∈T k->k<=p i:=fun z=>rH ((A.hw i hi k hk).mp z).symm;rw[e] at h;rcases tD (W:=W) (ls:=oa here l k) (T:=((a8 here l k).foldl (fw c) (FT W (a8 here l k) (T k) g,FR W (a8 here l k) (T k))).2) (g:=((a8 here l k).foldl (fw c) (FT W (a8 here l k) (T k) g,FR W (a8 here l k) (T k))).1) (i:=i) with ⟨z,_,_⟩|z
  .exact hp (bw.mp (wS _ _ _ z)).1
  .rw[z] at h;by_cases o:i∈a8 here l k
   .have:=(A.le i hi).1;have:=dA (bw.mp o).2;lia
   .rw[lD _ _ _ o] at h;rcases tD (W:=W) (ls:=a8 here l k) (T:=T k) (g:=g) (i:=i) with ⟨y,_,_⟩|y
    .exact hp y
    .have h:FT W (a8 here l k) (T k) g i≠none:=h;rw[y] at h;have:=J.lo i hi h;lia
 .rw[e];refine wT ?_;by_cases o:i∈a8 here l k
  .exact ka i o
  .have ne:l i≠k:=fun z=>o (bw.mpr ⟨hi,decide_eq_true z⟩);have hg:=J.hi i hi (by lia);rw[pS _ _ _ (wT hg)];exact wT hg
theorem PP(A:HA d here W c p l T){k:Nat}(hk:k<d){g:Gf}(J:JI here p l (k+1) g){T':List Nat}(pm:T'.Perm (T k)):PM here W c l T' k g=qw here W c l (T k) k g:=by
 have K:=A.own hk (g:=g);obtain⟨ka,kp⟩:=kst_all _ _ K;have tn:=(A.tn k hk).1;have tn':=pm.nodup_iff.mpr tn;have gn:∀i∈here,W i∈T k->g i=none:=fun i hi hw=>by
  refine ve fun z=>?_;have:=J.lo i hi z;have:=(A.hw i hi k hk).mp hw;lia
 have f1:=iM W (a8 here l k) (T k) g tn;have f2:=n_ W (a8 here l k) T' g [] tn' fun i hi hw=>gn i (bw.mp hi).1 (pm.mem_iff.mp hw);rw[zy] at f2;unfold PM qw;rw[f1,f2];obtain⟨r1,r2⟩:=kp (FT W (a8 here l k) T' g,FR W (a8 here l k) T') (CP fun x=>pm.mem_iff) (LC pm);have fn:((a8 here l k).foldl (fw c) (FT W (a8 here l k) (T k) g,FR W (a8 here l k) (T k))).2.Nodup:=A8 _ _ (tn.filter _);have fs:=wS (c:=c) (a8 here l k) (FT W (a8 here l k) (T k) g,FR W (a8 here l k) (T k));have fo:=lD (c:=c) (a8 here l k) (FT W (a8 here l k) (T k) g,FR W (a8 here l k) (T k));rw[r1];generalize (a8 here l k).foldl (fw c) (FT W (a8 here l k) T' g,FR W (a8 here l k) T')=s' at *;generalize (a8 here l k).foldl (fw c) (FT W (a8 here l k) (T k) g,FR W (a8 here l k) (T k))=s at *;have free:∀i∈here,W i∈s.2->i∉a8 here l k/\l i<k:=fun i hi hw=>by
  obtain⟨a,b⟩:=bw.mp (fs _ hw);have no:i∉a8 here l k:=fun z=>dA b i z rfl;refine⟨no,?_⟩;have:=(A.le i hi).1;have:=(A.hw i hi k hk).mp a;have:l i≠k:=fun z=>no (bw.mpr ⟨hi,decide_eq_true z⟩);lia
 rw[n_ W here s'.2 s.1 [] (r2.nodup_iff.mpr fn) (fun i hi hw=>?_),show oa here l k=oa here l k from rfl,show s=(s.1,s.2) from rfl,iM W (oa here l k) s.2 s.1 fn]
 .show FT W here s'.2 s.1=FT W (oa here l k) s.2 s.1;rw[CP (fun x=>r2.mem_iff)];funext i;refine Ez (and_congr_right fun hw=>?_);have ef:here.find? (fun j=>decide (W j=W i))=(oa here l k).find? fun j=>decide (W j=W i):=by
   unfold oa;rw[List.find?_filter];refine mZ fun j hj=>?_;rw[jR];simp only[ji,fq];exact⟨fun z=>⟨(free j hj (by rw[z];exact hw)).2,z⟩,fun z=>z.2⟩
  rw[ef]
 .have yD:=r2.mem_iff.mp hw;obtain⟨no,_⟩:=free i hi yD;rw[fo i no];show FT W (a8 here l k) (T k) g i=none;have a:=(bw.mp (fs _ yD)).1;rcases tD (W:=W) (ls:=a8 here l k) (T:=T k) (g:=g) (i:=i) with ⟨_,z,_⟩|z
  .exact absurd z no
  .rw[z];exact gn i hi a
end
def yt(here:List Nat)(W c l:Nat->Nat)(T:Nat->List Nat)(d:Nat):Nat->Gf->Gf
 |0,g=>g
 |m+1,g=>qw here W c l (T (d-1-m)) (d-1-m) (yt here W c l T d m g)
theorem JI.all{d:Nat}{here:List Nat}{W c p l:Nat->Nat}{T:Nat->List Nat}(A:HA d here W c p l T){g:Gf}(hg:∀i∈here,g i=none):∀m,m<=d->JI here p l (d-m) (yt here W c l T d m g)
 |0,_=>⟨fun i hi h=>absurd (hg i hi) h,fun i hi h=>by have:=A.le i hi;lia⟩
 |m+1,hm=>by
  have ih:=JI.all A hg m (by lia);rw[show d-m=(d-1-m)+1 by lia] at ih;have:=ih.step A (k:=d-1-m) (by lia);rw[show d-(m+1)=d-1-m by lia];exact this
def We(S:List Nat)(s s':Gf×List Nat):Prop:=(∀i∈S,s.1 i=s'.1 i)/\s.2=s'.2
theorem A9{S:List Nat}{g g':Gf}{i y:Nat}(h:∀j∈S,g j=g' j):∀j∈S,sg g i y j=sg g' i y j:=fun j hj=>by
 unfold sg;split
 .rfl
 .exact h j hj
theorem wU{S:List Nat}{W:Nat->Nat}:∀ (ls:List Nat) {s s':Gf×List Nat},We S s s'->We S (ls.foldl (wR W) s) (ls.foldl (wR W) s')
 |[],s,s',h=>h
 |i::ls,s,s',h=>by
  refine wU ls ?_;unfold wR;rw[h.2];split
  .exact⟨A9 h.1,rfl⟩
  .exact h
theorem CQ{S:List Nat}{c:Nat->Nat}:∀ (ls:List Nat) {s s':Gf×List Nat},(∀i∈ls,i∈S)->We S s s'->We S (ls.foldl (fw c) s) (ls.foldl (fw c) s')
 |[],s,s',_,h=>h
 |i::ls,s,s',hs,h=>by
  refine CQ ls (fun j hj=>hs j (bL _ hj)) ?_;unfold fw;rw[h.2,h.1 i (hs i bN)];split
  .split
   .exact⟨A9 h.1,rfl⟩
   .exact⟨A9 h.1,rfl⟩
  .exact h
theorem LD{here:List Nat}{W c l:Nat->Nat}{T:List Nat}{k:Nat}{g g':Gf}(h:∀i∈here,g i=g' i):∀i∈here,qw here W c l T k g i=qw here W c l T k g' i:=
 (wU (S:=here) _ (CQ _ (fun i hi=>(bw.mp hi).1) (wU _ (s:=(g,T)) (s':=(g',T)) ⟨h,rfl⟩))).1
theorem CU{here:List Nat}{W c l:Nat->Nat}{T:Nat->List Nat}{d:Nat}{g g':Gf}(h:∀i∈here,g i=g' i):∀m,∀i∈here,yt here W c l T d m g i=yt here W c l T d m g' i
 |0=>h
 |m+1=>LD (CU h m)
theorem wV{W:Nat->Nat}{i:Nat}:∀ (ls:List Nat) (s:Gf×List Nat),i∉ls->(ls.foldl (wR W) s).1 i=s.1 i
 |[],s,_=>rfl
 |j::ls,s,h=>by
  rw[f8,wV ls _ (fun z=>h (bL _ z))];unfold wR;split
  .exact je fun e=>h (e ▸ bN)
  .rfl
theorem LF{here:List Nat}{W c l:Nat->Nat}{T:List Nat}{k:Nat}{g:Gf}{i:Nat}(h:i∉here):qw here W c l T k g i=g i:=by
 unfold qw oa a8;rw[wV _ _ (fun z=>h (bw.mp z).1),lD _ _ _ (fun z=>h (bw.mp z).1),wV _ _ (fun z=>h (bw.mp z).1)]
theorem CV{here:List Nat}{W c l:Nat->Nat}{T:Nat->List Nat}{d:Nat}{g:Gf}{i:Nat}(h:i∉here):∀m,yt here W c l T d m g i=g i
 |0=>rfl
 |m+1=>(LF h).trans (CV h m)
end jW
namespace ue
open PySem L2 jW
def dz(st:List (Option Nat))(h:Nat):List Nat:=(List.range st.length).filter fun i=>decide (st.getD i none=some h)
def ir(ns homes:List Nat)(h i:Nat):Nat:=(AS ns h (homes.getD i 0)).getD 0
def iu(cs:List (Option Nat))(i:Nat):Nat:=(cs.getD i none).getD 0
def PQ(ns homes:List Nat)(h i:Nat):Nat:=(jC ns h (homes.getD i 0)).getD 0
def fZ(ns:List Nat)(cs:List (Option Nat))(h i:Nat):Nat:=(jC ns h (iu cs i)).getD 0
def LG(ns:List Nat)(h k:Nat):List Nat:=(dG (pr ns) (lA ns) h).filter fun y=>decide (jC ns h y=some k)
theorem eO{st:List (Option Nat)}{h i:Nat}:i∈dz st h↔st.getD i none=some h:=by
 unfold dz;rw[bw,cU,iC];refine⟨fun z=>z.2,fun z=>⟨?_,z⟩⟩;rcases gm i st.length with c|c
 .exact c
 .rw[cg,j4 c] at z;cases z
theorem iN{st:List (Option Nat)}{h i:Nat}(hi:i∈dz st h):i<st.length:=cU.mp (bw.mp hi).1
theorem wW{ns:List Nat}{h y k:Nat}(BX:Bx ns)(FI:i_ (pr ns) (lA ns))(hh:h<pr ns)(hk:k<ns.length):y∈LG ns h k↔Hn ns h y k:=by
 unfold LG;rw[bw,iC,eG FI hh];constructor
 .rintro⟨h1,h2⟩;have hy:y<pr ns:=rJ.mp (FI.rg _ h1).2.2;obtain⟨k',t⟩:=(lx BX.pos hh hy).mp h1;have:=jb t;rw[h2] at this;rw[bi this];exact t
 .intro t;exact⟨(lx BX.pos hh (HU BX FI hh hk t)).mpr ⟨k,t⟩,jb t⟩
theorem Ip{ns:List Nat}{h k:Nat}(BX:Bx ns)(hk:k<ns.length):(ni ns h k).Nodup:=by
 have pp:0<pr (ns.take k):=Hu fun x hx=>BX.pos x (l6 hx);unfold ni wJ;rw[ap (by decide),ai rfl];by_cases c1:1<=(ck ns h).getD k 0
 .rw[ai c1];by_cases c2:(ck ns h).getD k 0+1<ns.getD k 0
  .rw[ai c2];refine cM.mpr ⟨fun z=>?_,cM.mpr ⟨fun z=>(nomatch z),ft⟩⟩;have:=cI.mp z;lia
  .rw[ap c2];exact cM.mpr ⟨fun z=>(nomatch z),ft⟩
 .rw[ap c1];by_cases c2:(ck ns h).getD k 0+1<ns.getD k 0
  .rw[ai c2];exact cM.mpr ⟨fun z=>(nomatch z),ft⟩
  .rw[ap c2];exact ft
theorem tE{ns:List Nat}{h k:Nat}(BX:Bx ns)(FI:i_ (pr ns) (lA ns))(hh:h<pr ns)(hk:k<ns.length):(ni ns h k).Perm (LG ns h k):=
 (E3 (Ip BX hk) ((mJ hh).filter _)).mpr fun y=>(sY BX.pos hk).trans (wW BX FI hh hk).symm
structure Lt(ns homes:List Nat)(cs:List (Option Nat))(h i:Nat):Prop where
 hh:h<pr ns
 hg:homes.getD i 0<pr ns
 ph:jC ns h (homes.getD i 0)=some (PQ ns homes h i)
 ws:AS ns h (homes.getD i 0)=some (ir ns homes h i)
 wt:Hn ns h (ir ns homes h i) (PQ ns homes h i)
 cm:cs.getD i none=some (iu cs i)
 ct:Hn ns h (iu cs i) (fZ ns cs h i)
 le:fZ ns cs h i<=PQ ns homes h i
 pl:PQ ns homes h i<ns.length
theorem Uv{ns:List Nat}{a b k:Nat}(BX:Bx ns)(h:jC ns a b=some k):∃y,AS ns a b=some y/\Hn ns a y k:=by
 have hk:=(jD h).1;have e:=M2 BX.pos h;have e2:AS ns a b=some (if (ck ns a).getD k 0<(ck ns b).getD k 0 then a+pr (ns.take k) else a-pr (ns.take k)):=by unfold AS;rw[h];rfl
 refine⟨_,e2,(sY BX.pos hk).mp ?_⟩;rw[e] at e2;unfold ni;rw[cR];cases c:decide ((ck ns a).getD k 0<(ck ns b).getD k 0) with
 |true=>rw[c] at e2;right;rw[e2];exact cI.mpr rfl
 |false=>rw[c] at e2;left;rw[e2];exact cI.mpr rfl
theorem CW{ns homes:List Nat}{st cs:List (Option Nat)}{h i:Nat}(BX:Bx ns)(SN:Sn ns homes st)(BT:HX ns homes st (cs.map oV))(e:st.getD i none=some h):Lt ns homes cs h i:=by
 obtain⟨hh,hg,ne⟩:=SN.ok i h e;obtain⟨p,hp⟩:=HW hh hg ne;have hi:i<st.length:=iN (eO.mpr e);obtain⟨y,ey,⟨k,p',Mp,t,kp⟩,_⟩:=(BT.2 i hi).2 h e;obtain rfl:p=p':=bi (hp.symm.trans Mp);rw[u3] at ey;have ey:=H_ ey;have ec:iu cs i=y:=by unfold iu;rw[ey];rfl
 have el:fZ ns cs h i=k:=by unfold fZ;rw[ec,jb t];rfl
 have ep:PQ ns homes h i=p:=by unfold PQ;rw[hp];rfl
 obtain⟨w,ew,wt⟩:=Uv BX hp;have eW:ir ns homes h i=w:=by unfold ir;rw[ew];rfl
 exact⟨hh,hg,by rw[ep];exact hp,by rw[eW];exact ew,by rw[eW,ep];exact wt,by rw[ec];exact ey,by rw[ec,el];exact t,by rw[el,ep];exact kp,by rw[ep];exact(jD hp).1⟩
theorem Iq{ns homes:List Nat}{st cs:List (Option Nat)}{h:Nat}(BX:Bx ns)(FI:i_ (pr ns) (lA ns))(SN:Sn ns homes st)(BT:HX ns homes st (cs.map oV))(hh:h<pr ns):HA ns.length (dz st h) (ir ns homes h) (iu cs) (PQ ns homes h) (fZ ns cs h) (LG ns h):=by
 have L:∀i∈dz st h,Lt ns homes cs h i:=fun i hi=>CW BX SN BT (eO.mp hi);refine⟨oI.filter _,fun i hi k hk=>?_,fun i hi k hk=>?_,fun i hi=>⟨(L i hi).le,(L i hi).pl⟩,?_,fun k hk=>⟨(mJ hh).filter _,?_⟩⟩
 .rw[wW BX FI hh hk];exact⟨fun t=>bi ((jb (L i hi).wt).symm.trans (jb t)),fun e=>e ▸ (L i hi).wt⟩
 .rw[wW BX FI hh hk];exact⟨fun t=>bi ((jb (L i hi).ct).symm.trans (jb t)),fun e=>e ▸ (L i hi).ct⟩
 .have key:∀i∈dz st h,∀j∈dz st h,j<i->iu cs i=iu cs j->False:=fun i hi j hj lt e=>by
   obtain⟨y,ey,_,no⟩:=(BT.2 i (iN hi)).2 h (eO.mp hi);refine no j lt (eO.mp hj) ?_;rw[u3,(L j hj).cm,<-e,<-ey,u3,(L i hi).cm]
  intro i hi j hj e;rcases Nat.lt_trichotomy i j with z|z|z
  .exact(key j hj i hi z e.symm).elim
  .exact z
  .exact(key i hi j hj z e).elim
 .rw[<-(tE BX FI hh hk).length_eq];exact sZ
def CZ(ns homes:List Nat)(st cs:List (Option Nat))(i:Nat):Option Nat:=
 match st.getD i none with
 |none=>none
 |some h=>yt (dz st h) (ir ns homes h) (iu cs) (fZ ns cs h) (LG ns h) ns.length ns.length (fun _=>none) i
abbrev Y1:Stmt:=fV 23
abbrev Y2:Stmt:=fV 24
def lE(xs:List Addr)(H H':Hp):Prop:=∀b o,H b=some o->b∉xs->H' b=some o
theorem lE.refl{xs:List Addr}{H:Hp}:lE xs H H:=fun b o e _=>e
theorem lE.trans{xs:List Addr}{H H' H'':Hp}(a:lE xs H H')(b:lE xs H' H''):lE xs H H'':=fun c o e n=>b c o (a c o e n) n
theorem lE.same{xs:List Addr}{H H':Hp}(a:az H H'):lE xs H H':=fun c o e _=>a c o e
theorem lE.upd{xs:List Addr}{H H':Hp}{a:Addr}{o:HO}(k:lE xs H H')(h:a∈xs):lE xs H (upd H' a o):=fun c u e n=>by rw[al (fun (z:c=a)=>n (z ▸ h))];exact k c u e n
def dE(n:Nat)(G:Gf):List V:=(List.range n).map fun i=>oV (G i)
theorem fh{n:Nat}{G:Gf}:(dE n G).length=n:=by unfold dE;rw[aV,fm]
theorem jF{n i:Nat}{G:Gf}(h:i<n):(dE n G)[i]?=some (oV (G i)):=by
 unfold dE;rw[bv,List.getElem?_range h];rfl
theorem og{n i y:Nat}{G:Gf}:(dE n G).set i (.int (y:Int))=dE n (sg G i y):=by
 apply rj;intro j;rw[List.getElem?_set];rcases gm j n with z|z
 .rw[jF z];by_cases e:i=j
  .subst e;rw[ai rfl,ai (by rw[fh];exact z),jF z,fX];rfl
  .rw[ap e,jF z,je (bE e)]
 .have n1:(dE n (sg G i y))[j]?=none:=j4 (by rw[fh];exact z);have n2:(dE n G)[j]?=none:=j4 (by rw[fh];exact z);rw[n1,n2];split
  .rw[ap (by rw[fh];lia)]
  .rfl
theorem LI{y:Nat}{T:List Nat}:BI (.int (y:Int)) (NV T)=decide (y∈T):=by
 rw[jR,wM wN,iC,aQ];exact⟨fun ⟨z,hz,e⟩=>by injection e with e;rw[<-cV e];exact hz,fun h=>⟨y,h,rfl⟩⟩
theorem m6{T:List Nat}:NV T=(T.map fun (n:Nat)=>(n:Int)).map V.int:=by rw[fu];rfl
theorem ll{T:List Nat}{y:Nat}:((T.map fun (n:Nat)=>(n:Int)).eraseIdx ((T.map fun (n:Nat)=>(n:Int)).idxOf (y:Int))).map V.int=NV (T.erase y):=by
 rw[<-List.erase_eq_eraseIdx_of_idxOf (l:=T.map fun (n:Nat)=>(n:Int)) (a:=(y:Int)) rfl,m6];congr 1;induction T with
 |nil=>rfl
 |cons t T ih=>
  rw[eD,List.erase_cons,List.erase_cons];by_cases e:t=y
  .subst e;simp
  .rw[ap (by rw[dL];exact fun z=>e (cV z)),ap (by rw[dL];exact e),eD,ih]
theorem dJ{α:Type}{l:List α}{i:Nat}{x:α}(h:l[i]?=some x):l.take (i+1)=l.take i++[x]:=by
 rw[List.take_succ,h];rfl
section
variable {P:Program} {w:World} {K:PySem.W.Frag} {mg:Str->Option Value} {base:Heap}
theorem Uw:aA ["wishes","letters","free","goes","letter"] ["wishes","letters","free","goes"] (am Y1):=⟨rfl,rfl,rfl,by decide +kernel,rfl,by decide +kernel,by decide +kernel⟩
def PU:Sp:=fun vs H Q _=>∃ (wa la fa ga:Addr) (kvs:List (dI×V)) (W:Nat->Nat) (ls T:List Nat) (n:Nat) (G:Gf),vs=[.ref wa,.ref la,.ref fa,.ref ga]/\H wa=some (.dK kvs)/\(∀i∈ls,iz kvs (.inl (i:Int))=some (.int (W i:Nat)))/\H la=some (.lst (NV ls))/\H fa=some (.lst (NV T))/\H ga=some (.lst (dE n G))/\la≠fa/\la≠ga/\fa≠ga/\(∀i∈ls,i<n)/\
 ∀ (H':Hp),lE [fa,ga] H H'->H' fa=some (.lst (NV (ls.foldl (wR W) (G,T)).2))->H' ga=some (.lst (dE n (ls.foldl (wR W) (G,T)).1))->Q .bA H'
theorem Ux{f:Addr}{fd:FuncData}(F:eN K "take_wished" "take_wished" Y1 f fd)(B:Bl mg):bj P w K mg base ba 1 f fd ["wishes","letters","free","goes"] PU:=by
 refine F.ok Uw (fun vs H Q E h=>?_) (fun dt A outer s H vs Q E hr h=>?_)
 .obtain⟨wa,la,fa,ga,kvs,W,ls,T,n,G,rfl,_⟩:=h;rfl
 .obtain⟨wa,la,fa,ga,kvs,W,ls,T,n,G,rfl,hw,hW,hl,hf,hg,n1,n2,n3,hn,q⟩:=h;have sq:=hr.u (n:=1);refine⟨_,(ak (bZ du rfl (bC (pv 1)) (au (i:=4) Uw.nd rfl (Or.inl rfl))
    (ak (bW (aK fE (iJ sq (pv 0) (pv 4) (fun _ _=>rfl)) (pv 2) rfl) (ah (ic (iJ sq (pv 0) (pv 4) (fun _ _=>rfl)) (mv (pv 3) (pv 4) ge))
     (ak (bq (ig gY yK yJ pG (pv 2) (aa (iJ sq (pv 0) (pv 4) (fun _ _=>rfl)) af))))) aN)))),?_⟩
  have nwf:wa≠fa:=bG hw hf (fun z=>nomatch z);have nwg:wa≠ga:=bG hw hg (fun z=>nomatch z);refine⟨_,rfl,la,rfl,⟨_,bh.of hl⟩,dU (K:=K) (a:=la) (xs:=NV ls) (fun i σ H1=>(∃u,σ=[some (.ref wa),some (.ref la),some (.ref fa),some (.ref ga),u])/\lE [fa,ga] H H1/\H1 fa=some (.lst (NV ((ls.take i).foldl (wR W) (G,T)).2))/\H1 ga=some (.lst (dE n ((ls.take i).foldl (wR W) (G,T)).1))) ⟨⟨_,rfl⟩,.refl,hf,hg⟩ (fun i σ H1 _ z=>bh.of (z.2.1 _ _ hl (by simp[n1,n2]))) ?_ ?_⟩
  .rintro i x σ H1 hx ⟨⟨u,rfl⟩,k1,f1,g1⟩;have d7:(NV ls)[i]?=some x:=hx;rw[bv] at d7;cases jg:ls[i]? with
   |none=>rw[jg] at d7;cases d7
   |some j=>
   rw[jg] at d7;obtain rfl:V.int (j:Int)=x:=bi d7;have hj:j∈ls:=cB jg;have Y3:H1 wa=some (.dK kvs):=k1 _ _ hw (by simp[nwf,nwg]);have gd:∀ {H2:Hp},H2 wa=some (.dK kvs)->qm H2 wa (.int (j:Int)) (some (.int (W j:Nat))):=fun {H2} e=>by rw[<-hW j hj];exact qm.k (k:=.inl (j:Int)) e
   have Jn:(ls.take (i+1)).foldl (wR W) (G,T)=wR W ((ls.take i).foldl (wR W) (G,T)) j:=by rw[dJ jg,l_];rfl
   rw[Jn];generalize (ls.take i).foldl (wR W) (G,T)=s1 at *;refine⟨_,rfl,_,rfl,wa,_,rfl,gd Y3,_,rfl,fa,_,rfl,.inl (bh.of f1),rfl,jE,?_⟩;rw[ap bo,LI];unfold wR;refine⟨_,rfl,gG (fun c=>?_) (fun c=>?_)⟩
   .have c:W j∈s1.2:=dA c;rw[ai c];refine⟨_,rfl,_,rfl,wa,_,rfl,gd Y3,_,rfl,_,rfl,ga,_,_,j,rfl,rfl,g1,gR (by rw[fh];exact hn j hj),?_⟩;rw[og];have f2:(upd H1 ga (.lst (dE n (sg s1.1 j (W j))))) fa=some (.lst (NV s1.2)):=by rw[al n3];exact f1
    refine⟨_,rfl,.inl ⟨rfl,_,bh.of f2⟩,_,rfl,_,rfl,wa,_,rfl,gd (by rw[al nwg];exact Y3),fa,s1.2.map fun (n:Nat)=>(n:Int),_,rfl,rfl,by rw[f2,m6],aQ.mpr ⟨_,c,rfl⟩,?_⟩;rw[ll];exact⟨⟨_,rfl⟩,(k1.upd (by simp)).upd (by simp),ag,by rw[al (bE n3),ag]⟩
   .have c:¬ W j∈s1.2:=fun z=>c (decide_eq_true z);rw[ap c];exact⟨⟨_,rfl⟩,k1,f1,g1⟩
  .rintro σ H1 ⟨_,k1,f1,g1⟩;rw[aY,et] at f1 g1;exact q H1 k1 f1 g1
theorem Uy:aA ["came","letters","free","goes","letter"] ["came","letters","free","goes"] (am Y2):=⟨rfl,rfl,rfl,by decide +kernel,rfl,by decide +kernel,by decide +kernel⟩
def PV:Sp:=fun vs H Q _=>∃ (ca la fa ga:Addr) (cs:List (Option Nat)) (ls T:List Nat) (n:Nat) (G:Gf),vs=[.ref ca,.ref la,.ref fa,.ref ga]/\H ca=some (.tup (cs.map oV))/\(∀i∈ls,cs.getD i none=some (iu cs i))/\H la=some (.lst (NV ls))/\H fa=some (.lst (NV T))/\H ga=some (.lst (dE n G))/\la≠fa/\la≠ga/\fa≠ga/\(∀i∈ls,i<n/\i<cs.length)/\KI (iu cs) ls (G,T)/\
 ∀ (H':Hp),lE [fa,ga] H H'->H' fa=some (.lst (NV (ls.foldl (fw (iu cs)) (G,T)).2))->H' ga=some (.lst (dE n (ls.foldl (fw (iu cs)) (G,T)).1))->Q .bA H'
theorem wX{c:Nat->Nat}:∀ (i:Nat) (ls:List Nat) (s:Gf×List Nat),KI c ls s->KI c (ls.drop i) ((ls.take i).foldl (fw c) s)
 |0,ls,s,k=>k
 |i+1,[],s,k=>k
 |i+1,x::ls,s,k=>wX i ls _ k.step.1
theorem Uz{f:Addr}{fd:FuncData}(F:eN K "keep_to_lane" "keep_to_lane" Y2 f fd)(B:Bl mg):bj P w K mg base ba 1 f fd ["came","letters","free","goes"] PV:=by
 refine F.ok Uy (fun vs H Q E h=>?_) (fun dt A outer s H vs Q E hr h=>?_)
 .obtain⟨ca,la,fa,ga,cs,ls,T,n,G,rfl,_⟩:=h;rfl
 .obtain⟨ca,la,fa,ga,cs,ls,T,n,G,rfl,hc,hC,hl,hf,hg,n1,n2,n3,hn,KK,q⟩:=h;have sq:=hr.u (n:=1);refine⟨_,(ak (bZ du rfl (bC (pv 1)) (au (i:=4) Uy.nd rfl (Or.inl rfl))
    (ak (bW (aK o_ (bg bD (pv 3) (pv 4) (fun _ _=>rfl)) dC (be _)) (ah (ic (kF (aK fE (bg cp (pv 0) (pv 4) (fun _ _=>rfl)) (pv 2) rfl) (bg cp (pv 0) (pv 4) (fun _ _=>rfl)) (bg bD (pv 2) aB (fun _ _=>rfl))) (mv (pv 3) (pv 4) ge))
     (ak (bq (ig gY yK yJ pG (pv 2) (aa (bg bD (pv 3) (pv 4) (fun _ _=>rfl)) af))))) aN)))),?_⟩
  have ncf:ca≠fa:=bG hc hf (fun z=>nomatch z);have ncg:ca≠ga:=bG hc hg (fun z=>nomatch z);refine⟨_,rfl,la,rfl,⟨_,bh.of hl⟩,dU (K:=K) (a:=la) (xs:=NV ls) (fun i σ H1=>(∃u,σ=[some (.ref ca),some (.ref la),some (.ref fa),some (.ref ga),u])/\lE [fa,ga] H H1/\H1 fa=some (.lst (NV ((ls.take i).foldl (fw (iu cs)) (G,T)).2))/\H1 ga=some (.lst (dE n ((ls.take i).foldl (fw (iu cs)) (G,T)).1))) ⟨⟨_,rfl⟩,.refl,hf,hg⟩ (fun i σ H1 _ z=>bh.of (z.2.1 _ _ hl (by simp[n1,n2]))) ?_ ?_⟩
  .rintro i x σ H1 hx ⟨⟨u,rfl⟩,k1,f1,g1⟩;have d7:(NV ls)[i]?=some x:=hx;rw[bv] at d7;cases jg:ls[i]? with
   |none=>rw[jg] at d7;cases d7
   |some j=>
   rw[jg] at d7;obtain rfl:V.int (j:Int)=x:=bi d7;have hj:j∈ls:=cB jg;have UA:H1 ca=some (.tup (cs.map oV)):=k1 _ _ hc (by simp[ncf,ncg]);have gc:(cs.map oV)[j]?=some (.int (iu cs j:Nat)):=by rw[lV (hn j hj).2,hC j hj];rfl
   have Jn:(ls.take (i+1)).foldl (fw (iu cs)) (G,T)=fw (iu cs) ((ls.take i).foldl (fw (iu cs)) (G,T)) j:=by rw[dJ jg,l_];rfl
   rw[Jn];have K1:=wX i ls (G,T) KK;have Y4:ls.drop i=j::ls.drop (i+1):=by
    obtain⟨df,e⟩:=cQ.mp jg;rw[oB df,e]
   rw[Y4] at K1;generalize (ls.take i).foldl (fw (iu cs)) (G,T)=s1 at *;refine⟨_,rfl,_,rfl,ga,_,_,_,rfl,rfl,bh.of g1,aD (jF (hn j hj).1),?_⟩;unfold fw;cases eg:s1.1 j with
   |some y=>
    refine⟨rfl,_,rfl,gP rfl ?_⟩;rw[ap (fun z=>nomatch z)];exact⟨⟨_,rfl⟩,k1,f1,g1⟩
   |none=>
    refine⟨rfl,_,rfl,gD ?_⟩;rw[ai rfl];refine⟨_,rfl,_,rfl,ca,_,_,_,rfl,rfl,bz.of UA,aD gc,_,rfl,fa,_,rfl,.inl (bh.of f1),rfl,jE,?_⟩;rw[ap bo,LI];have bV:∀y:Nat,y∈s1.2->∀H2:Hp,H2=upd H1 ga (.lst (dE n (sg s1.1 j y)))->H2 fa=some (.lst (NV s1.2))/\H2 ga=some (.lst (dE n (sg s1.1 j y))):=fun y _ H2 e=>by
     subst e;exact⟨by rw[al n3];exact f1,ag⟩
    refine⟨_,rfl,gG (fun c=>?_) (fun c=>?_)⟩
    .have c:iu cs j∈s1.2:=dA c;rw[ai c];refine⟨_,rfl,_,rfl,ca,_,_,_,rfl,rfl,bz.of UA,aD gc,_,rfl,_,rfl,ga,_,_,j,rfl,rfl,g1,gR (by rw[fh];exact(hn j hj).1),?_⟩;rw[og];obtain⟨f2,g2⟩:=bV _ c _ rfl;refine⟨_,rfl,.inl ⟨rfl,_,bh.of f2⟩,_,rfl,_,rfl,ga,_,_,_,rfl,rfl,bh.of g2,aD (by rw[jF (hn j hj).1,fX];rfl),fa,s1.2.map fun (n:Nat)=>(n:Int),_,rfl,rfl,by rw[f2,m6],aQ.mpr ⟨_,c,rfl⟩,?_⟩;rw[ll];exact⟨⟨_,rfl⟩,(k1.upd (by simp)).upd (by simp),ag,by rw[al (bE n3),ag]⟩
    .have c:¬ iu cs j∈s1.2:=fun z=>c (decide_eq_true z);rw[ap c];obtain⟨y,ey⟩:=K1.head eg c;have hy:s1.2.headD 0=y:=by rw[ey];rfl
     have my:y∈s1.2:=by rw[ey];exact bN
     rw[hy];refine⟨_,rfl,fa,_,0,_,rfl,rfl,bh.of f1,by rw[ey];exact aD (j:=0) rfl,_,rfl,_,rfl,ga,_,_,j,rfl,rfl,g1,gR (by rw[fh];exact(hn j hj).1),?_⟩;rw[og];obtain⟨f2,g2⟩:=bV _ my _ rfl;refine⟨_,rfl,.inl ⟨rfl,_,bh.of f2⟩,_,rfl,_,rfl,ga,_,_,_,rfl,rfl,bh.of g2,aD (by rw[jF (hn j hj).1,fX];rfl),fa,s1.2.map fun (n:Nat)=>(n:Int),_,rfl,rfl,by rw[f2,m6],aQ.mpr ⟨_,my,rfl⟩,?_⟩;rw[ll];exact⟨⟨_,rfl⟩,(k1.upd (by simp)).upd (by simp),ag,by rw[al (bE n3),ag]⟩
  .rintro σ H1 ⟨_,k1,f1,g1⟩;rw[aY,et] at f1 g1;exact q H1 k1 f1 g1
end
abbrev Y5:Stmt:=eJ (fV 47) 2
abbrev Y6:Stmt:=fV 15
abbrev Y7:Stmt:=fV 22
theorem M6:(["letter","house"]:List Str).Nodup:=by decide +kernel
theorem PX:(["letter","stand","house"]:List Str).Nodup:=by decide +kernel
theorem LJ:(["letter","box","house","homes"]:List Str).Nodup:=by decide +kernel
theorem PY:(["other","box","house"]:List Str).Nodup:=by decide +kernel
theorem C0:(["letter","ways","came","way"]:List Str).Nodup:=by decide +kernel
theorem PZ:(["other","ways","way"]:List Str).Nodup:=by decide +kernel
theorem Ir{pn sr:Addr}:(Cw pn sr).lookup ("sides":Str)=none:=mV (by decide +kernel) (by decide +kernel)
theorem LL{pn sr:Addr}:(Cw pn sr).lookup ("wish":Str)=none:=mV (by decide +kernel) (by decide +kernel)
def UB:R2:=fun x y H Q=>y=.bA/\Q (.bl (!decide (x=.bA))) H
theorem P0{st:List (Option Nat)}{i:Nat}{x:V}(h:(st.map oV)[i]?=some x):i<st.length/\x=oV (st.getD i none):=by
 have hi:=(cQ.mp h).1;rw[aV] at hi;refine⟨hi,?_⟩;rw[lV hi] at h;exact(bi h).symm
theorem LM{o:Option Nat}:(!decide (oV o=.bA))=o.isSome:=by cases o <;> simp[oV]
def yu(st:List (Option Nat))(i:Nat):List Nat:=(List.range i).filter fun j=>(st.getD j none).isSome
theorem yv{st:List (Option Nat)}{i:Nat}:yu st (i+1)=yu st i++if (st.getD i none).isSome then [i] else []:=by
 unfold yu;rw[kh,jK,eT];rfl
theorem qR{st:List (Option Nat)}{i:Nat}:(yu st i).length<=i:=by
 have:=gZ (fun j=>(st.getD j none).isSome) (List.range i);rwa [fm] at this
theorem C1{kvs:List (dI×V)}{f:Nat->V}{ms:List Nat}{m:Nat}(e:kvs=ms.map fun (n:Nat)=>((.inl (n:Int):dI),f n))(h:m∉ms):gf kvs (.inl (m:Int)) (f m)=(ms++[m]).map fun (n:Nat)=>((.inl (n:Int):dI),f n):=by
 rw[Gk _ ?_,e,dR]
 .rfl
 .cases q:iz kvs (.inl (m:Int)) with
  |none=>rfl
  |some v=>
   have:=B8 q;rw[e,fu] at this;obtain⟨n,hn,en⟩:=aQ.mp this;have en:(Sum.inl (n:Int):dI)=Sum.inl (m:Int):=en;injection en with en;exact absurd (cV en ▸ hn) h
theorem oh{f:Nat->V}{m:Nat}:∀ {ms:List Nat},m∈ms->iz (ms.map fun (n:Nat)=>((.inl (n:Int):dI),f n)) (.inl (m:Int))=some (f m)
 |n::ms,h=>by
  by_cases e:n=m
  .subst e;exact nU rfl
  .rw[eD,nV (fun z=>e (by injection z with z;exact cV z))];exact oh ((a7.mp h).resolve_left (bE e))
theorem yw{K:PySem.W.Frag}{a D:Addr}{g:TG}{tk tv:TE}{cK:Hp->Prop}{σB:St}{H0:Hp}(ms:List Nat)(f:Nat->V)(cF:St->Prop)(ha:H0 a=some (.lst (NV ms)))(hD:H0 D=none)(nd:ms.Nodup)(hn:ms.length<=1000)(h0:cF σB)(hs:∀m σ H (Kt:V->V->St->Hp->Prop),m∈ms->cF σ->az H0 H->(∀σ2 H2,cF σ2->az H H2->Kt (.int (m:Int)) (f m) σ2 H2)->g (.int (m:Int)) σ H fun σ2 H2=>tk σ2 H2 fun y H4=>tv σ2 H4 fun v H5=>Kt y v σ2 H5)(hd:∀H,az H0 H->H D=some (.dK (ms.map fun (n:Nat)=>((.inl (n:Int):dI),f n)))->cK H):ye (Fh K a) g JY tk tv D cK σB (upd H0 D (.dK [])):=by
 refine A7 (xs:=NV ms) (fun i kvs σ H=>cF σ/\az H0 H/\H D=some (.dK kvs)/\kvs=(ms.take i).map fun (n:Nat)=>((.inl (n:Int):dI),f n)) ⟨h0,ao hD,ag,rfl⟩ (fun i ys σ H _ z=>bh.of (z.2.1 _ _ ha)) ?_ ?_
 .rintro i x kvs σ H Kt Kf hx ⟨sh,sm,lR,rfl⟩ kt kf;have d7:(ms.map fun (n:Nat)=>V.int (n:Int))[i]?=some x:=hx;rw[bv] at d7;obtain⟨m,hm,rfl⟩:=qY.mp d7;have tk:ms.take (i+1)=ms.take i++[m]:=dJ hm;have Y8:m∉ms.take i:=fun z=>by
   obtain⟨df,e⟩:=cQ.mp hm;have n2:(ms.take (i+1)).Nodup:=nd.sublist (List.take_sublist _ _);rw[tk] at n2;exact(oH.mp n2).2.2 m z m (cI.mpr rfl) rfl
  have:=hs m σ H Kt (cB hm) sh sm fun σ2 H2 wz s2=>by
   refine kt (.inl (m:Int)) _ _ _ (s2 _ _ lR) ?_ ⟨wz,cx (sm.trans s2) hD,ag,?_⟩
   .rw[aV];exact dN (yW _ _) (dN hn (by decide))
   .rw[tk];exact C1 rfl Y8
  exact this
 .rintro kvs σ H ⟨_,sm,lR,rfl⟩;rw[aY,et] at lR;exact hd H sm lR
section
variable {P:Program} {w:World} {K:PySem.W.Frag} {mg:Str->Option Value} {base:Heap}
theorem Y9:aA ["self"] ["self"] (am Y5):=⟨rfl,rfl,rfl,by decide +kernel,rfl,by decide +kernel,by decide +kernel⟩
def P1(C CB:Addr):Sp:=fun vs H Q _=>∃ (L:Addr->Prop) (b:Addr) (ns:List Nat),vs=[.ref b]/\dZ C CB H L b ns/\∀sr:Addr,H sr=some (.tup (NV ns))->Q (.ref sr) H
theorem UC{f C CB:Addr}{fd:FuncData}(F:eN K "sides" "Box.sides" Y5 f fd)(TB:EV K mg CB):bj P w K mg base ba 1 f fd ["self"] (P1 C CB):=by
 refine F.ok Y9 (fun vs H Q E h=>?_) (fun dt A outer s H vs Q E hr h=>?_)
 .obtain⟨L,b,ns,rfl,_⟩:=h;rfl
 .obtain⟨L,b,ns,rfl,⟨BX,dx,pn,sr,hb,N,im⟩,q⟩:=h;refine⟨_,ak (aI (gC (pv 0) rfl)),?_⟩;exact⟨_,rfl,b,CB,dx,_,_,rfl,hb,TB.cl,TB.nS,Cy,q sr im⟩
theorem Y_:aA ["stand"] ["stand"] (am Y6):=⟨rfl,rfl,rfl,by decide +kernel,rfl,by decide +kernel,by decide +kernel⟩
def P3:Sp:=fun vs H Q _=>∃ (sa:Addr) (st:List (Option Nat)),vs=[.ref sa]/\H sa=some (.tup (st.map oV))/\st.length<=16/\∀ (r:Addr) (H':Hp),az H H'->H r=none->H' r=some (.lst (NV (yu st st.length)))->Q (.ref r) H'
theorem UD{f:Addr}{fd:FuncData}(F:eN K "under_way" "under_way" Y6 f fd)(hE:mg "enumerate"=none):bj P w K mg base ba 1 f fd ["stand"] P3:=by
 refine F.ok Y_ (fun vs H Q E h=>?_) (fun dt A outer s H vs Q E hr h=>?_)
 .obtain⟨sa,st,rfl,_⟩:=h;rfl
 .obtain⟨sa,st,rfl,hS,hl,q⟩:=h;refine'⟨_,(ak (aI ?c1)),?_⟩;case c1=>
   refine' d9 (g:=(De K 2 (kH (cq 0) (kH (cq 1) Dd)))) (tt:=(iZ (nB UB (bf 1) (tC .bA)))) (te:=(bf 0)) (NB:=["letter","house"]) (src:=[none,none]) (cw (by kernel_rfl)) rfl (Gq rfl hE (aa (pv 0) af)) ?g ?t ?e;case g=>exact fun cl C s₃ H₃ fp=>(gw (n:=2) rfl (aR (au (i:=0) M6 rfl (Or.inl rfl) (Or.inr rfl)) (aR (au (i:=1) M6 rfl (Or.inl rfl) (Or.inr rfl)) eI)))
   case t=>exact fun cl C s₃ H₃ fp=>dD (aK Bu (pv 1) dC (be _))
   case e=>exact fun cl C s₃ H₃ fp=>(pv 0)
  refine⟨_,rfl,sa,_,rfl,bz.of hS,fun D hD=>?_⟩;refine Au (K:=K) (a:=sa) (xs:=st.map oV) (fun i ys σ H3=>(∃u v,σ=[u,v])/\ys=NV (yu st i)/\az H H3/\H3 D=some (.lst ys)) ⟨⟨_,_,rfl⟩,rfl,ao hD,ag⟩ (fun i ys σ H3 _ z=>bz.of (z.2.2.1 _ _ hS)) ?_ ?_
  .rintro i x t ys σ H3 Kt Kf hx ⟨⟨u,v,rfl⟩,rfl,sm,sK⟩ ht kt kf;obtain⟨hi,rfl⟩:=P0 hx;have a_:=ao (o:=.tup [.int (i:Int),oV (st.getD i none)]) ht;refine⟨_,_,rfl,bz.of ag,rfl,_,_,rfl,_,_,rfl,rfl,?_⟩;refine⟨_,rfl,rfl,_,rfl,?_⟩;rw[LM];refine gG (fun e=>?_) (fun e=>?_)
   .refine⟨_,rfl,kt _ _ _ (a_ _ _ sK) (by rw[aY];exact dN qR (bK (show i<17 by lia) (by decide))) ⟨⟨_,_,rfl⟩,?_,cx (sm.trans a_) hD,ag⟩⟩;rw[yv,ai e,gU]
   .refine kf _ _ ⟨⟨_,_,rfl⟩,?_,sm.trans a_,a_ _ _ sK⟩;rw[yv,ap e,oK]
  .rintro ys σ H3 ⟨_,rfl,sm,sK⟩;rw[aV] at sK;exact q D H3 sm hD sK
end
theorem LN{d D:Addr}{o:Obj}{g:TG}{tt:TT}{te:TE}{cK:Hp->Prop}{σB:St}{H0:Hp}(ms:List Nat)(f:Nat->V)(c:Nat->Bool)(cF:St->Prop)(ha:H0 d=some (.mm o (.dK (ms.map fun (n:Nat)=>((.inl (n:Int):dI),f n)))))(hD:H0 D=none)(hn:ms.length<=1000)(h0:cF σB)(hs:∀m σ H (Kt:V->St->Hp->Prop) (Kf:St->Hp->Prop),m∈ms->cF σ->az H0 H->(∀σ2 H2,cF σ2->az H H2->c m=true->Kt (.int (m:Int)) σ2 H2)->(∀σ2 H2,cF σ2->az H H2->c m=false->Kf σ2 H2)->
   g (.int (m:Int)) σ H fun σ2 H2=>tt σ2 H2 fun b H3=>if b=true then te σ2 H3 fun v H4=>Kt v σ2 H4 else Kf σ2 H3)(hd:∀H,az H0 H->H D=some (.lst (NV (ms.filter c)))->cK H):iG (VW d o (ms.map fun (n:Nat)=>((.inl (n:Int):dI),f n))) g tt te D cK σB (upd H0 D (.lst [])):=by
 refine Ey (kvs:=ms.map fun (n:Nat)=>((.inl (n:Int):dI),f n)) (fun i ys σ H=>cF σ/\az H0 H/\H D=some (.lst ys)/\ys=NV ((ms.take i).filter c)) ⟨h0,ao hD,ag,rfl⟩ (fun i ys σ H _ z=>z.2.1 _ _ ha) ?_ ?_
 .rintro i k v ys σ H Kt Kf hx ⟨sh,sm,lR,rfl⟩ kt kf;rw[bv] at hx;obtain⟨y,hy,e⟩:=qY.mp hx;obtain⟨rfl,rfl⟩:=Prod.mk.inj e;have tk:ms.take (i+1)=ms.take i++[y]:=dJ hy;refine hs y σ H Kt Kf (cB hy) sh sm (fun σ2 H2 wz s2 e=>?_) (fun σ2 H2 wz s2 e=>?_)
  .refine kt _ _ _ (s2 _ _ lR) ?_ ⟨wz,cx (sm.trans s2) hD,ag,?_⟩
   .rw[aY];exact dN (aZ (gZ _ _) (yW _ _)) (dN hn (by decide))
   .rw[tk,jK,eT,e,ai rfl];exact gU (xs:=(ms.take i).filter c)
  .refine kf _ _ ⟨wz,sm.trans s2,s2 _ _ lR,?_⟩;rw[tk,jK,eT,e];simp
 .rintro ys σ H ⟨_,sm,lR,rfl⟩;rw[aV,et] at lR;exact hd H sm lR
section
variable {P:Program} {w:World} {K:PySem.W.Frag} {mg:Str->Option Value} {base:Heap}
theorem yx:aA ["box","homes","stand","came","house","goes","letters","wishes","ways","way","same_lane","lesser_lane","free"] ["box","homes","stand","came","house","goes"] (am Y7):=⟨rfl,rfl,rfl,by decide +kernel,rfl,by decide +kernel,by decide +kernel⟩
abbrev m9(ns homes:List Nat)(st cs:List (Option Nat))(h m:Nat)(G:Gf):Gf:=yt (dz st h) (ir ns homes h) (iu cs) (fZ ns cs h) (LG ns h) ns.length m G
def P6(C CB:Addr):Sp:=fun vs H Q _=>∃ (L:Addr->Prop) (b ha sa xa ga:Addr) (ns homes:List Nat) (st cs:List (Option Nat)) (h:Nat) (G:Gf),vs=[.ref b,.ref ha,.ref sa,.ref xa,.int h,.ref ga]/\dZ C CB H L b ns/\H ha=some (.tup (NV homes))/\H sa=some (.tup (st.map oV))/\H xa=some (.tup (cs.map oV))/\Sn ns homes st/\HX ns homes st (cs.map oV)/\h<pr ns/\H ga=some (.lst (dE st.length G))/\
 ∀H',lE [ga] H H'->H' ga=some (.lst (dE st.length (m9 ns homes st cs h ns.length G)))->Q .bA H'
set_option maxHeartbeats 8000000 in
theorem UE{f C CB CE CT:Addr}{fd:FuncData}(F:eN K "hand_from" "hand_from" Y7 f fd)(B:Bl mg)(hRv:mg "reversed"=none)(TB:EV K mg CB)(MT:fk P w K mg base ba 6 CB "tied" ["self","house"] (Lr C CB))(MY:fk P w K mg base (iy P w) 7 CB "way" ["self","one","other"] (yb K C CB CT))(MI:fk P w K mg base (iy P w) 7 CB "wish" ["self","house","home"] (CD K C CB CE))(MS:fk P w K mg base ba 1 CB "sides" ["self"] (P1 C CB))(TW:cy P w K mg base ba 1 "take_wished" ["wishes","letters","free","goes"] PU)(KL:cy P w K mg base ba 1 "keep_to_lane" ["came","letters","free","goes"] PV):
  bj P w K mg base ba 8 f fd ["box","homes","stand","came","house","goes"] (P6 C CB):=by
 obtain⟨fT,fdT,mT,bT,GT⟩:=MT.ex;obtain⟨fY,fdY,mY,bY,GY⟩:=MY.ex;obtain⟨fI,ET,mI,bI,GI⟩:=MI.ex;obtain⟨fS,fdS,mS,bS,GS⟩:=MS.ex;refine F.ok yx (fun vs H Q E h=>?_) (fun dt A outer s H vs Q E hr h=>?_)
 .obtain⟨L,b,ha,sa,xa,ga,ns,homes,st,cs,h,G,rfl,_⟩:=h;rfl
 .obtain⟨L,b,ha,sa,xa,ga,ns,homes,st,cs,h,G,rfl,BA,qt,pP,tR,SN,BT,hh,xh,q⟩:=h;have h1:bQ 1 _:=hr.mono (by decide);have h6:bQ 6 _:=hr.mono (by decide);have h7:bQ 7 _:=hr.mono (by decide);have sq:=hr.u (n:=1);have BX:=BA.bx;obtain⟨dx,pn,sr,hb,N,im⟩:=id BA.ob;have FI:=N.pM;have wO:=SN.wO;have l5:=BX.l5;have cl:cs.length=st.length:=by have:=BT.1;rwa [aV] at this
  have Iu:=Iq BX FI SN BT hh;have LT:∀i∈dz st h,Lt ns homes cs h i:=fun i hi=>CW BX SN BT (eO.mp hi);refine'⟨_,(ah (dg (i:=6) (g:=(cq 0)) (tt:=(iZ (nB QQ (nB (tZ K) (bf 1) (bf 0)) (bf 2)))) (te:=(bf 0)) (NB:=["letter","stand","house"]) (src:=[none,some 2,some 4]) (cw (by kernel_rfl)) rfl (ce rfl B.range (aa (aG aJ (by rfl) B.len dS (aa (pv 2) af)) af)) ?g1 ?t1 ?e1 yx.nd rfl rfl rfl)
   (ah (yf (i:=7) (g:=(cq 0)) (tt:=JY) (tk:=(bf 0)) (tv:=(Bv CB "wish" (CD K C CB CE) [] E0 (bf 1) (dq (bf 2) (dq (nB (tZ K) (bf 3) (bf 0)) mz)))) (NB:=["letter","box","house","homes"]) (src:=[none,some 0,some 4,some 1]) (cw (by kernel_rfl)) rfl (bC (pv 6)) ?g2 ?t2 ?k2 ?v2 yx.nd rfl rfl rfl)
   (ah (aO (i:=8) yx.nd rfl (Or.inr rfl) ?c3)
   (ak (bZ du rfl (Lw rfl hRv (aa (cf p7 (by rfl) B.range PyProof.Rows.boot_range (aa (aG aJ (by rfl) B.len dS (aa (rW (pv 0) TB.cl mS GS h1 bS .nil aF) af)) af)) af)) (au (i:=9) yx.nd rfl (Or.inr rfl))
    (ah (dg (i:=10) (g:=(cq 0)) (tt:=(iZ (nB QQ (B6 (bf 1) (nB (tZ K) (bf 2) (bf 0))) (bf 3)))) (te:=(bf 0)) (NB:=["letter","ways","came","way"]) (src:=[none,some 8,some 3,some 9]) (cw (by kernel_rfl)) rfl (bC (pv 6)) ?g4 ?t4 ?e4 yx.nd rfl rfl rfl)
    (ah (dg (i:=11) (g:=(cq 0)) (tt:=(iZ (nB (JE fun i j=>.bl (decide (i<j))) (B6 (bf 1) (nB (tZ K) (bf 2) (bf 0))) (bf 3)))) (te:=(bf 0)) (NB:=["letter","ways","came","way"]) (src:=[none,some 8,some 3,some 9]) (cw (by kernel_rfl)) rfl (bC (pv 6)) ?g5 ?t5 ?e5 yx.nd rfl rfl rfl)
    (ah (dg (i:=12) (g:=(cq 0)) (tt:=(iZ (nB QQ (B6 (bf 1) (bf 0)) (bf 2)))) (te:=(bf 0)) (NB:=["other","ways","way"]) (src:=[none,some 8,some 9]) (cw (by kernel_rfl)) rfl (Io (pv 8)) ?g6 ?t6 ?e6 yx.nd rfl rfl rfl)
    (ah (bq (aw TW h1 aF (aa (pv 7) (aa (pv 10) (aa (pv 12) (aa (pv 5) af))))))
    (ah (bq (aw KL h1 aF (aa (pv 3) (aa (pv 10) (aa (pv 12) (aa (pv 5) af))))))
    (ak (bq (aw TW h1 aF (aa (pv 7) (aa (pv 11) (aa (pv 12) (aa (pv 5) af))))))))))))))))),?_⟩
  case c3=>
   refine' Ig (g:=(cq 0)) (tt:=JY) (tk:=(bf 0)) (tv:=(Bv CB "way" (yb K C CB CT) [] E0 (bf 1) (dq (bf 2) (dq (bf 0) mz)))) (NB:=["other","box","house"]) (src:=[none,some 0,some 4]) (cw (by kernel_rfl)) rfl (bC (cP (pv 0) TB.cl mT GT h6 bT .nil aF (aa (pv 4) af))) ?g ?t ?k ?v;case g=>exact fun cl C s₃ H₃ fp=>(au (i:=0) PY rfl (Or.inl rfl) (Or.inr rfl))
   case t=>exact fun cl C s₃ H₃ fp=>fQ
   case k=>exact fun cl C s₃ H₃ fp=>(pv 0)
   case v=>exact fun cl C' s₃ H₃ fp=>(cP (pv 1) TB.cl mY GY h7 bY .nil kL (aa (pv 2) (aa (pv 0) af)))
  case g1=>exact fun cl C s₃ H₃ fp=>(au (i:=0) PX rfl (Or.inl rfl) (Or.inr rfl))
  case t1=>exact fun cl C s₃ H₃ fp=>dD (aK iY (bg cp (pv 1) (pv 0) (fun _ _=>rfl)) (pv 2) (be _))
  case e1=>exact fun cl C s₃ H₃ fp=>(pv 0)
  case g2=>exact fun cl C s₃ H₃ fp=>(au (i:=0) LJ rfl (Or.inl rfl) (Or.inr rfl))
  case t2=>exact fun cl C s₃ H₃ fp=>fQ
  case k2=>exact fun cl C s₃ H₃ fp=>(pv 0)
  case v2=>exact fun cl C' s₃ H₃ fp=>(cP (pv 1) TB.cl mI GI h7 bI .nil kL (aa (pv 2) (aa (bg cp (pv 3) (pv 0) (fun _ _=>rfl)) af)))
  case g4=>exact fun cl C s₃ H₃ fp=>(au (i:=0) C0 rfl (Or.inl rfl) (Or.inr rfl))
  case t4=>exact fun cl C s₃ H₃ fp=>dD (aK iY (iJ sq (pv 1) (bg cp (pv 2) (pv 0) (fun _ _=>rfl)) (fun _ _=>rfl)) (pv 3) (be _))
  case e4=>exact fun cl C s₃ H₃ fp=>(pv 0)
  case g5=>exact fun cl C s₃ H₃ fp=>(au (i:=0) C0 rfl (Or.inl rfl) (Or.inr rfl))
  case t5=>exact fun cl C s₃ H₃ fp=>dD (aK rS (iJ sq (pv 1) (bg cp (pv 2) (pv 0) (fun _ _=>rfl)) (fun _ _=>rfl)) (pv 3) (be _))
  case e5=>exact fun cl C s₃ H₃ fp=>(pv 0)
  case g6=>exact fun cl C s₃ H₃ fp=>(au (i:=0) PZ rfl (Or.inl rfl) (Or.inr rfl))
  case t6=>exact fun cl C s₃ H₃ fp=>dD (aK iY (iJ sq (pv 1) (pv 0) (fun _ _=>rfl)) (pv 2) (be _))
  case e6=>exact fun cl C s₃ H₃ fp=>(pv 0)
  have F2:∀ {H1:Hp},az H H1->bz K H1 sa (st.map oV):=fun s=>bz.of (s _ _ pP);refine⟨_,rfl,sa,_,rfl,.inr (bz.of pP),_,rfl,by rw[aV];lia,by rw[aV];lia,fun D1 A_=>?_⟩;rw[aV];refine wK (lo:=0) (n:=st.length) (fun j=>decide (st.getD j none=some h)) (fun σ=>∃u,σ=[u,some (.ref sa),some (.int (h:Int))]) A_ (by lia) ⟨_,rfl⟩ ?_ ?_
  .rintro j σ H5 Kt Kf hj ⟨u,rfl⟩ s5 kt kf;rw[eU] at kt |-;refine⟨_,rfl,_,rfl,sa,_,_,_,rfl,rfl,F2 s5,aD (lV hj),_,rfl,wL,_,rfl,?_⟩;rw[CG];exact gG (fun c=>⟨_,rfl,kt _ _ ⟨_,rfl⟩ (az.refl _) c⟩) (fun c=>kf _ _ ⟨_,rfl⟩ (az.refl _) (jM.mpr c))
  intro H1 s1 Iv;rw[show (((List.range st.length).filter fun j=>decide (st.getD j none=some h)).map fun (x:Nat)=>V.int (0+(x:Int)))=NV (dz st h) from jJ fun x _=>by rw[eU]] at Iv;have Jm:(dz st h).length<=16:=aZ (gZ _ _) (by rw[fm];exact wO);have hen:(dz st h).Nodup:=oI.filter _;refine⟨_,rfl,D1,rfl,⟨_,bh.of Iv⟩,fun D2 iA=>?_⟩;refine yw (K:=K) (dz st h) (fun i=>.int (ir ns homes h i:Nat)) (fun σ=>∃u,σ=[u,some (.ref b),some (.int (h:Int)),some (.ref ha)]) Iv iA hen (by lia) ⟨_,rfl⟩ ?_ ?_
  .rintro j σ H5 Kt hj ⟨u,rfl⟩ s5 kt;have C2:=s1.trans s5;have Lj:=LT j hj;refine⟨_,rfl,_,rfl,b,dx,_,rfl,C2 _ _ hb,LL,_,rfl,_,rfl,_,rfl,ha,_,_,_,rfl,rfl,bz.of (C2 _ _ qt),aD (uY (by rw[SN.l];exact iN hj)),L,b,ns,_,_,some (h:Int),some (homes.getD j 0:Nat),rfl,BA.same C2,gW,gW,(fun z=>by rw[dv hh,dv Lj.hg] at z;rcases z with z|z <;> cases z),fun h' g' _ _ e1 e2 H6 s6=>?_⟩;obtain rfl:h=h':=cV (bi e1);obtain rfl:homes.getD j 0=g':=cV (bi e2);rw[Lj.ws];exact kt _ _ ⟨_,rfl⟩ s6
  intro H2 s2 P7;have jZ:=s1.trans s2;have M7:=s2 _ _ Iv;refine⟨_,rfl,b,dx,_,rfl,jZ _ _ hb,CF,_,rfl,L,b,ns,h,rfl,BA.same jZ,hh,fun r H3 s3 Za=>⟨r,rfl,⟨_,bh.of Za⟩,fun D3 sK=>?_⟩⟩;have uh:=jZ.trans s3;refine yw (K:=K) (dG (pr ns) (lA ns) h) (fun y=>oV (jC ns h y)) (fun σ=>∃u,σ=[u,some (.ref b),some (.int (h:Int))]) Za sK (mJ hh) (by have h0:(dG (pr ns) (lA ns) h).length<=pr ns:=aZ (gZ _ _) (by rw[aV,fm];exact aW _);have:=BX.MZ;lia) ⟨_,rfl⟩ ?_ ?_
  .rintro y σ H5 Kt hy ⟨u,rfl⟩ s5 kt;have C2:=uh.trans s5;have ht:((h:Int),(y:Int))∈lA ns:=(eG FI hh).mp hy;have Pg:y<pr ns:=rJ.mp (FI.rg _ ht).2.2;have Ph:=(HR BX hh Pg).mpr ((lx BX.pos hh Pg).mp ht);refine⟨_,rfl,_,rfl,b,dx,_,rfl,C2 _ _ hb,HQ,_,rfl,_,rfl,L,b,ns,_,_,some (h:Int),some (y:Int),rfl,BA.same C2,gW,gW,(fun z=>by rw[Ph] at z;cases z),fun h' y' _ _ e1 e2 _ H6 s6=>?_⟩;obtain rfl:h=h':=cV (bi e1);obtain rfl:y=y':=cV (bi e2);exact kt _ _ ⟨_,rfl⟩ s6
  intro H4 s4 Eb;have Pp:=s3.trans s4;have Ri:=jZ.trans Pp;refine⟨_,rfl,b,dx,_,rfl,Ri _ _ hb,Ir,L,b,ns,rfl,BA.same Ri,fun sr im=>⟨sr,_,rfl,.inr (bz.of im),_,rfl,fun rp hrp=>⟨rp,ns.length,rfl,by rw[ag,aY],by lia,?_⟩⟩⟩;have Rj:=ao (o:=.Bi 0 ((NV ns).length:Nat)) hrp;have C2:=Ri.trans Rj;generalize Zb:upd H4 rp (.Bi 0 ((NV ns).length:Nat))=H5 at Rj C2 |-;clear Zb;have d1:=Rj _ _ (Pp _ _ M7);have d2:=Rj _ _ (Pp _ _ P7);have d3:=Rj _ _ Eb;have g5:=C2 _ _ xh;have n3g:D3≠ga:=bG d3 g5 (fun z=>nomatch z);have UF:D1≠ga:=fun z=>by rw[z,xh] at A_;cases A_
  have Zc:D2≠D3:=fun z=>by rw[<-z,s3 _ _ P7] at sK;cases sK
  have XM:D1≠D3:=bG d1 d3 (fun z=>nomatch z);have Iw:D2≠ga:=bG d2 g5 (fun z=>nomatch z);have ngg:∀ {a:Addr} {ys:List V},H5 a=some (.tup ys)->a≠ga/\a≠D3:=fun e=>⟨bG e g5 (fun z=>nomatch z),bG e d3 (fun z=>nomatch z)⟩
  have x5:=C2 _ _ tR;obtain⟨nxg,Zd⟩:=ngg x5;have n3:H D3=none:=by
   cases e:H D3 with
   |none=>rfl
   |some u=>rw[uh _ _ e] at sK;cases sK
  clear A_ iA sK hrp F2 s1 s2 s3 s4 jZ uh Ri Pp Rj Iv M7 P7 Eb Za im;have rd0:Rd H5 D3 (.dK ((dG (pr ns) (lA ns) h).map fun (n:Nat)=>((.inl (n:Int):dI),oV (jC ns h n)))):=.inl d3;refine yn (hi:=(ns.length:Int)-1) (n:=ns.length) (fun i σ H6=>(∃u9 Ze Zf Zg,σ=[some (.ref b),some (.ref ha),some (.ref sa),some (.ref xa),some (.int (h:Int)),some (.ref ga),some (.ref D1),some (.ref D2),some (.ref D3),u9,Ze,Zf,Zg])/\lE [D3,ga] H5 H6/\Rd H6 D3 (.dK ((dG (pr ns) (lA ns) h).map fun (n:Nat)=>((.inl (n:Int):dI),oV (jC ns h n))))/\H6 ga=some (.lst (dE st.length (m9 ns homes st cs h i G)))) ⟨⟨_,_,_,_,rfl⟩,.refl,rd0,g5⟩ ?_ ?_
  .rintro i σ H6 hi ⟨⟨u9,Ze,Zf,Zg,rfl⟩,k6,Wf,g6⟩;have hk:ns.length-1-i<ns.length:=by lia
   rw[show ((ns.length:Int)-1-(i:Int))=((ns.length-1-i:Nat):Int) by lia];have LO:m9 ns homes st cs h (i+1) G=qw (dz st h) (ir ns homes h) (iu cs) (fZ ns cs h) (LG ns h (ns.length-1-i)) (ns.length-1-i) (m9 ns homes st cs h i G):=rfl;rw[LO];generalize m9 ns homes st cs h i G=G1 at *;clear LO hi;generalize ns.length-1-i=k at *;have x6:H6 xa=some (.tup (cs.map oV)):=k6 _ _ x5 (by simp[nxg,Zd]);have e1:H6 D1=some (.lst (NV (dz st h))):=k6 _ _ d1 (by simp[UF,XM]);have e2:=k6 _ _ d2 (by simp[Zc,Iw]);have LK:∀j∈dz st h,iu cs j∈dG (pr ns) (lA ns) h/\jC ns h (iu cs j)=some (fZ ns cs h j):=fun j hj=>by
    have Lj:=LT j hj;have hl:fZ ns cs h j<ns.length:=dN Lj.le Lj.pl;exact⟨(bw.mp ((wW BX FI hh hl).mpr Lj.ct)).1,jb Lj.ct⟩
   have gx:∀ {H7:Hp} {j:Nat},j∈dz st h->az H6 H7->bz K H7 xa (cs.map oV)/\(cs.map oV)[j]?=some (.int (iu cs j:Nat))/\∀H8,(∀o,H6 D3=some o->H8 D3=some o)->qm H8 D3 (.int (iu cs j:Nat)) (some (.int (fZ ns cs h j:Nat))):=fun {H7 j} hj s7=>by
    obtain⟨l1,l2⟩:=LK j hj;refine⟨bz.of (s7 _ _ x6),by rw[lV (by rw[cl];exact iN hj),(LT j hj).cm];rfl,fun H8 s8=>.inl ⟨_,.inl (iu cs j:Nat),Wf.elim (fun z=>.inl (s8 _ z)) (fun ⟨o,z⟩=>.inr ⟨o,s8 _ z⟩),rfl,?_⟩⟩;rw[oh (f:=fun n=>oV (jC ns h n)) l1,l2];rfl
   refine⟨_,rfl,D1,rfl,⟨_,bh.of e1⟩,fun D4 xZ=>?_⟩;refine lB (dz st h) (fun (j:Nat)=>V.int (j:Int)) (fun j=>decide (fZ ns cs h j=k)) (fun (j:Nat)=>V.int (j:Int)) (fun σ=>∃u,σ=[u,some (.ref D3),some (.ref xa),some (.int (k:Int))]) e1 xZ (by lia) ⟨_,rfl⟩ ?_ ?_
   .rintro j σ H7 Kt Kf hj ⟨u,rfl⟩ s7 kt kf;obtain⟨t1,t2,t3⟩:=gx hj s7;refine⟨_,rfl,_,rfl,_,rfl,xa,_,_,_,rfl,rfl,t1,aD t2,D3,_,rfl,t3 _ (s7 _),_,rfl,rfl,_,rfl,?_⟩;rw[show decide (V.int ((fZ ns cs h j:Nat):Int)=V.int (k:Int))=decide (fZ ns cs h j=k) from md.mpr ⟨fun z=>by injection z with z;exact cV z,fun z=>by rw[z]⟩];exact gG (fun c=>⟨_,rfl,kt _ _ ⟨_,rfl⟩ (az.refl _) c⟩) (fun c=>kf _ _ ⟨_,rfl⟩ (az.refl _) (jM.mpr c))
   intro H7 s7 f4;have f4:H7 D4=some (.lst (NV (a8 (dz st h) (fZ ns cs h) k))):=f4;refine⟨_,rfl,D1,rfl,⟨_,bh.of (s7 _ _ e1)⟩,fun D5 tQ=>?_⟩;refine lB (dz st h) (fun (j:Nat)=>V.int (j:Int)) (fun j=>decide (fZ ns cs h j<k)) (fun (j:Nat)=>V.int (j:Int)) (fun σ=>∃u,σ=[u,some (.ref D3),some (.ref xa),some (.int (k:Int))]) (s7 _ _ e1) tQ (by lia) ⟨_,rfl⟩ ?_ ?_
   .rintro j σ H8 Kt Kf hj ⟨u,rfl⟩ s8 kt kf;have s78:=s7.trans s8;obtain⟨t1,t2,t3⟩:=gx hj s78;refine⟨_,rfl,_,rfl,_,rfl,xa,_,_,_,rfl,rfl,t1,aD t2,D3,_,rfl,t3 _ (s78 _),_,rfl,_,_,rfl,rfl,_,rfl,?_⟩;rw[show decide (((fZ ns cs h j:Nat):Int)<(k:Int))=decide (fZ ns cs h j<k) from md.mpr rJ];exact gG (fun c=>⟨_,rfl,kt _ _ ⟨_,rfl⟩ (az.refl _) c⟩) (fun c=>kf _ _ ⟨_,rfl⟩ (az.refl _) (jM.mpr c))
   intro H8 s8 f5;have f5:H8 D5=some (.lst (NV (oa (dz st h) (fZ ns cs h) k))):=f5;have Zh:=s7.trans s8;refine⟨_,rfl,D3,_,rfl,Wf.elim (fun z=>.inl (Zh _ _ z)) (fun ⟨o,z⟩=>.inr ⟨o,Zh _ _ z⟩),fun o H9 h9 k9 D6 sL=>?_⟩;have Rk:∀ {a:Addr} {u:HO},a≠D3->H6 a=some u->H9 a=some u:=fun n e=>by rw[k9 _ n];exact Zh _ _ e
   refine LN (dG (pr ns) (lA ns) h) (fun y=>oV (jC ns h y)) (fun y=>decide (jC ns h y=some k)) (fun σ=>∃u,σ=[u,some (.ref D3),some (.int (k:Int))]) h9 sL (by have h0:(dG (pr ns) (lA ns) h).length<=pr ns:=aZ (gZ _ _) (by rw[aV,fm];exact aW _);have:=BX.MZ;lia) ⟨_,rfl⟩ ?_ ?_
   .rintro y σ Zi Kt Kf hy ⟨u,rfl⟩ Jo kt kf;refine⟨_,rfl,_,rfl,D3,_,rfl,.inl ⟨_,.inl (y:Int),.inr ⟨_,Jo _ _ h9⟩,rfl,(oh (f:=fun n=>oV (jC ns h n)) hy).symm⟩,_,rfl,wL,_,rfl,?_⟩;rw[CG];exact gG (fun c=>⟨_,rfl,kt _ _ ⟨_,rfl⟩ (az.refl _) c⟩) (fun c=>kf _ _ ⟨_,rfl⟩ (az.refl _) (jM.mpr c))
   intro Zi Jo f6;have f6:Zi D6=some (.lst (NV (LG ns h k))):=f6;obtain⟨o3,ho3⟩:∃u,H6 D3=some u:=Wf.elim (fun z=>⟨_,z⟩) fun ⟨o,z⟩=>⟨_,z⟩;have n43:D4≠D3:=fun z=>by rw[z,ho3] at xZ;cases xZ
   have n53:D5≠D3:=fun z=>by rw[z,s7 _ _ ho3] at tQ;cases tQ
   have n63:D6≠D3:=fun z=>by rw[z,h9] at sL;cases sL
   have g9:=Rk (bE n3g) g6;have Zj:D4≠ga:=fun z=>by rw[z,g6] at xZ;cases xZ
   have Zk:D5≠ga:=fun z=>by rw[z,s7 _ _ g6] at tQ;cases tQ
   have Zl:D6≠ga:=fun z=>by rw[z,g9] at sL;cases sL
   have Zm:H9 D4=some (.lst (NV (a8 (dz st h) (fZ ns cs h) k))):=by rw[k9 _ n43];exact s8 _ _ f4
   have c59:H9 D5=some (.lst (NV (oa (dz st h) (fZ ns cs h) k))):=by rw[k9 _ n53];exact f5
   have Zn:D4≠D6:=fun z=>by rw[<-z,Zm] at sL;cases sL
   have Zo:D5≠D6:=fun z=>by rw[<-z,c59] at sL;cases sL
   have c2:=Jo _ _ (Rk Zc e2);have n26:D2≠D6:=fun z=>by rw[<-z,Rk Zc e2] at sL;cases sL
   have nx6:xa≠D6:=fun z=>by rw[<-z,Rk Zd x6] at sL;cases sL
   have c3:=Jo _ _ h9;have own:∀j∈a8 (dz st h) (fZ ns cs h) k,j∈dz st h:=fun j hj=>(bw.mp hj).1;have les:∀j∈oa (dz st h) (fZ ns cs h) k,j∈dz st h:=fun j hj=>(bw.mp hj).1;have wv:∀j∈dz st h,iz ((dz st h).map fun (n:Nat)=>((.inl (n:Int):dI),V.int ((ir ns homes h n:Nat):Int))) (.inl (j:Int))=some (.int (ir ns homes h j:Nat)):=fun j hj=>oh (f:=fun n=>V.int ((ir ns homes h n:Nat):Int)) hj;refine⟨_,rfl,_,rfl,_,rfl,_,rfl,D2,D4,D6,ga,_,ir ns homes h,_,_,st.length,G1,rfl,c2,fun j hj=>wv j (own j hj),Jo _ _ Zm,f6,Jo _ _ g9,Zn,Zj,Zl,fun j hj=>iN (own j hj),fun H11 UG f11 g11=>?_⟩;have KI1:=Iu.own hk (g:=G1);rw[iM _ _ _ _ (Iu.tn k hk).1] at f11 g11;refine⟨_,rfl,_,rfl,_,rfl,_,rfl,xa,D4,D6,ga,cs,_,_,st.length,_,rfl,UG _ _ (Jo _ _ (Rk Zd x6)) (by simp[nx6,nxg]),fun j hj=>(LT j (own j hj)).cm,UG _ _ (Jo _ _ Zm) (by simp[Zn,Zj]),f11,g11,Zn,Zj,Zl,fun j hj=>⟨iN (own j hj),by rw[cl];exact iN (own j hj)⟩,KI1,fun H12 Zp f12 g12=>?_⟩;refine⟨_,rfl,_,rfl,_,rfl,_,rfl,D2,D5,D6,ga,_,ir ns homes h,_,_,st.length,_,rfl,Zp _ _ (UG _ _ c2 (by simp[n26,Iw])) (by simp[n26,Iw]),fun j hj=>wv j (les j hj),Zp _ _ (UG _ _ (Jo _ _ c59) (by simp[Zo,Zk])) (by simp[Zo,Zk]),f12,g12,Zo,Zk,Zl,fun j hj=>iN (les j hj),fun H13 k13 P8 g13=>?_⟩;have kk:lE [D6,ga] Zi H13:=(UG.trans Zp).trans k13;refine⟨⟨_,_,_,_,rfl⟩,fun b' u e jT=>?_,.inr ⟨_,kk _ _ c3 (by simp[bE n63,n3g])⟩,?_⟩
   .have MU:b'≠D3:=fun z=>jT (by simp[z]);have Tf:b'≠ga:=fun z=>jT (by simp[z]);have e9:=Rk MU (k6 _ _ e jT);have V_:b'≠D6:=fun z=>by rw[<-z,e9] at sL;cases sL
    exact kk _ _ (Jo _ _ e9) (by simp[Tf,V_])
   .rw[g13];unfold qw;rw[iM _ _ _ _ (Iu.tn k hk).1]
  .rintro σ H6 ⟨⟨u9,Ze,Zf,Zg,rfl⟩,k6,Wf,g6⟩;refine q H6 (fun b' o e jT=>?_) g6;have MU:b'≠D3:=fun z=>by rw[<-z,e] at n3;cases n3
   have Tf:b'≠ga:=fun z=>jT (by simp[z]);exact k6 _ _ (C2 _ _ e) (by simp[MU,Tf])
end
theorem qS:∀ (ns ks:List Int),ks.Nodup->(ns.foldl (fun ks i=>if i∈ks then ks else ks++[i]) ks).Nodup/\∀i,i∈ns.foldl (fun ks i=>if i∈ks then ks else ks++[i]) ks↔i∈ks\/i∈ns
 |[],ks,h=>⟨h,fun i=>⟨.inl,fun z=>z.elim id fun z=>(nomatch z)⟩⟩
 |n::ns,ks,h=>by
  rw[f8];by_cases c:n∈ks
  .rw[ai c];obtain⟨a,b⟩:=qS ns ks h;refine⟨a,fun i=>(b i).trans ⟨fun z=>z.imp id (bL _),fun z=>z.elim .inl fun z=>(a7.mp z).elim (fun e=>.inl (e ▸ c)) .inr⟩⟩
  .rw[ap c];obtain⟨a,b⟩:=qS ns (ks++[n]) (oH.mpr ⟨h,cM.mpr ⟨fun z=>(nomatch z),ft⟩,fun a ha b hb e=>c (by rw[<-cI.mp hb,<-e];exact ha)⟩);refine⟨a,fun i=>(b i).trans ?_⟩;rw[cR,cI,a7,or_assoc]
theorem LP(ns:List Int):(iL ns).Nodup/\∀i,i∈iL ns↔i∈ns:=
 ⟨(qS ns [] ft).1,fun i=>((qS ns [] ft).2 i).trans ⟨fun z=>z.elim (fun z=>(nomatch z)) id,.inr⟩⟩
def Ba(ns homes:List Nat)(st cs:List (Option Nat))(hs:List Nat)(G:Gf):Gf:=hs.foldl (fun G h=>m9 ns homes st cs h ns.length G) G
theorem Ix{ns homes:List Nat}{st cs:List (Option Nat)}:∀ {hs:List Nat} {G:Gf} {i:Nat},hs.Nodup->(∀j,G j=none\/∀h∈hs,st.getD j none≠some h)->Ba ns homes st cs hs G i=match st.getD i none with
  |none=>G i
  |some h=>if h∈hs then m9 ns homes st cs h ns.length (fun _=>none) i else G i
 |[],G,i,_,_=>by cases st.getD i none <;> simp[Ba]
 |h0::hs,G,i,nd,hG=>by
  obtain⟨n1,n2⟩:=cM.mp nd;have e0:Ba ns homes st cs (h0::hs) G=Ba ns homes st cs hs (m9 ns homes st cs h0 ns.length G):=rfl;have Zq:∀j,st.getD j none≠some h0->m9 ns homes st cs h0 ns.length G j=G j:=fun j hj=>CV (fun z=>hj (eO.mp z)) _;rw[e0,Ix n2 fun j=>?_]
  .cases e:st.getD i none with
   |none=>exact Zq i (by rw[e];exact fun z=>nomatch z)
   |some h=>
    dsimp only;by_cases c:h=h0
    .subst c;rw[ap n1,ai bN];refine CU (fun j hj=>?_) _ i (eO.mpr e);rcases hG j with z|z
     .exact z
     .exact absurd (eO.mp hj) (z h bN)
    .rw[Zq i (by rw[e];exact fun z=>c (bi z))];exact Ez ⟨fun z=>bL _ z,fun z=>(a7.mp z).resolve_left c⟩
  .by_cases c:st.getD j none=some h0
   .right;intro h hh z;rw[c] at z;exact n1 (bi z ▸ hh)
   .rw[Zq j c];exact(hG j).imp id fun z h hh=>z h (bL _ hh)
theorem P9{ns homes:List Nat}{st cs:List (Option Nat)}{hs:List Nat}(nd:hs.Nodup)(hm:∀i h,st.getD i none=some h->h∈hs):Ba ns homes st cs hs (fun _=>none)=CZ ns homes st cs:=by
 funext i;rw[Ix nd fun j=>.inl rfl];unfold CZ;cases e:st.getD i none with
 |none=>rfl
 |some h=>exact ai (hm i h e)
theorem va{n:Nat}:dE n (fun _=>none)=List.replicate n V.bA:=by
 unfold dE;exact List.map_const' .. |>.trans (by rw[fm];rfl)
section
variable {P:Program} {w:World} {K:PySem.W.Frag} {mg:Str->Option Value} {base:Heap}
theorem LQ:(["home"]:List Str).Nodup:=by decide +kernel
theorem UH:(["letter","stand"]:List Str).Nodup:=by decide +kernel
def Iy(K:PySem.W.Frag)(C CB:Addr):Sp:=fun vs H Q _=>∃ (L:Addr->Prop) (b ha sa xa:Addr) (ns homes:List Nat) (st cs:List (Option Nat)),vs=[.ref b,.ref ha,.ref sa,.ref xa]/\dZ C CB H L b ns/\H ha=some (.tup (NV homes))/\H sa=some (.tup (st.map oV))/\H xa=some (.tup (cs.map oV))/\Sn ns homes st/\HX ns homes st (cs.map oV)/\
 ∀ (r:Addr) (H':Hp),az H H'->H' r=some (.tup (dE st.length (CZ ns homes st cs)))->Q (.ref r) H'
theorem UI{H:Hp}{cs:List (Option Nat)}:∀x∈cs.map oV,∃o,AU K H x o:=fun x hx=>by
 obtain⟨o,_,rfl⟩:=aQ.mp hx;cases o with
 |none=>exact⟨none,fun H' _=>.no ⟨_,.of .bA,.inl rfl⟩⟩
 |some y=>exact⟨_,gW⟩
set_option maxHeartbeats 8000000 in
theorem P_{f C CB:Addr}{fd:FuncData}(F:eN K "lane_hand" "lane_hand" YC f fd)(B:Bl mg)(CK:cy P w K mg base ba 10 "check_berthed" ["box","homes","stand","came"] (Ib K C CB))(UW:cy P w K mg base ba 1 "under_way" ["stand"] P3)(HF:cy P w K mg base ba 8 "hand_from" ["box","homes","stand","came","house","goes"] (P6 C CB)):bj P w K mg base ba 11 f fd ["box","homes","stand","came"] (Iy K C CB):=by
 refine F.ok Pk (fun vs H Q E h=>?_) (fun dt A outer s H vs Q E hr h=>?_)
 .obtain⟨L,b,ha,sa,xa,ns,homes,st,cs,rfl,_⟩:=h;rfl
 .obtain⟨L,b,ha,sa,xa,ns,homes,st,cs,rfl,BA,qt,pP,tR,SN,BT,q⟩:=h;have h1:bQ 1 _:=hr.mono (by decide);have h8:bQ 8 _:=hr.mono (by decide);have wO:=SN.wO;refine'⟨_,(ah (bq (aw CK hr aF (aa (pv 0) (aa (pv 1) (aa (pv 2) (aa (pv 3) af))))))
   (ah (dg (i:=4) (g:=(cq 0)) (te:=(tC .bA)) (NB:=["home"]) (src:=[none]) (cw (by kernel_rfl)) rfl (mw (pv 1)) ?g1 ?t1 ?e1 Pk.nd rfl rfl rfl)
   (ah (bZ du rfl (bC (aG (A6 rfl) (by rfl) B.sorted yL (aa (cf (A4 rfl) (by rfl) B.set PyProof.Rows.boot_set (aa ?c2 af)) af))) (au (i:=5) Pk.nd rfl (Or.inl rfl))
    (ak (bq (aw HF h8 aF (aa (pv 0) (aa (pv 1) (aa (pv 2) (aa (pv 3) (aa (pv 5) (aa (pv 4) af))))))))))
   (ak (aI (cf cr (by rfl) B.tup jI (aa (pv 4) af))))))),?_⟩
  case g1=>exact fun cl C s₃ H₃ fp=>(au (i:=0) LQ rfl (Or.inl rfl) (Or.inr rfl))
  case t1=>exact fun cl C s₃ H₃ fp=>fQ
  case e1=>exact fun cl C s₃ H₃ fp=>dC
  case c2=>
   refine' d9 (g:=(cq 0)) (te:=(nB (tZ K) (bf 1) (bf 0))) (NB:=["letter","stand"]) (src:=[none,some 2]) (cw (by kernel_rfl)) rfl (bC (aw UW h1 aF (aa (pv 2) af))) ?g ?t ?e;case g=>exact fun cl C s₃ H₃ fp=>(au (i:=0) UH rfl (Or.inl rfl) (Or.inr rfl))
   case t=>exact fun cl C s₃ H₃ fp=>fQ
   case e=>exact fun cl C s₃ H₃ fp=>(bg cp (pv 1) (pv 0) (fun _ _=>rfl))
  refine⟨_,rfl,_,rfl,_,rfl,_,rfl,L,b,ha,sa,xa,ns,homes,st,_,rfl,BA,qt,pP,tR,SN,UI,BT,fun H1 s1=>?_⟩;have a1:=s1 _ _ qt;refine⟨_,rfl,ha,rfl,⟨_,bz.of a1⟩,fun D1 A_=>?_⟩;rw[show (NV homes)=homes.map (fun (n:Nat)=>V.int (n:Int)) from rfl] at a1;refine Hi (xs:=NV homes) (fun i ys σ H2=>(∃u,σ=[u])/\az H1 H2/\H2 D1=some (.lst ys)/\ys=List.replicate i V.bA) ⟨⟨_,rfl⟩,ao A_,ag,rfl⟩ (fun i ys σ H2 _ z=>bz.of (z.2.1 _ _ a1)) ?_ ?_
  .rintro i x ys σ H2 Kt Kf hx ⟨⟨u,rfl⟩,s2,d2,rfl⟩ kt kf;have hi:=(cQ.mp hx).1;rw[aY,SN.l] at hi;exact kt _ _ _ d2 (by rw[l4];exact bK (show i<17 by lia) (by decide)) ⟨⟨_,rfl⟩,cx s2 A_,ag,yV.symm⟩
  rintro ys σ H2 ⟨⟨u,rfl⟩,s2,d2,rfl⟩;rw[aY,SN.l,<-va] at d2;have jZ:=s1.trans s2;have nD:H D1=none:=by
   cases e:H D1 with
   |none=>rfl
   |some u=>rw[s1 _ _ e] at A_;cases A_
  refine⟨_,rfl,sa,st,rfl,jZ _ _ pP,wO,fun D2 H3 s3 _ f2=>⟨D2,rfl,⟨_,bh.of f2⟩,fun D3 sK=>?_⟩⟩;have uh:=jZ.trans s3;refine lB (yu st st.length) (fun (j:Nat)=>V.int (j:Int)) (fun _=>true) (fun (j:Nat)=>V.int (((st.getD j none).getD 0:Nat):Int)) (fun σ=>∃u,σ=[u,some (.ref sa)]) f2 sK (aZ qR (by lia)) ⟨_,rfl⟩ ?_ ?_
  .rintro j σ H4 Kt Kf hj ⟨u,rfl⟩ s4 kt kf;obtain⟨Em,Ls⟩:=bw.mp hj;have Em:=cU.mp Em;refine⟨_,rfl,_,rfl,sa,_,_,_,rfl,rfl,bz.of (s4 _ _ (uh _ _ pP)),aD (lV Em),?_⟩;cases e:st.getD j none with
   |none=>rw[e] at Ls;cases Ls
   |some h=>
    have:=kt [some (.int (j:Int)),some (.ref sa)] H4 ⟨_,rfl⟩ (az.refl _) rfl;rw[e] at this;exact this
  intro H4 s4 f3;have Ri:=uh.trans s4;have f3:H4 D3=some (.lst ((((yu st st.length).filter fun _=>true).map fun j=>(((st.getD j none).getD 0:Nat):Int)).map V.int)):=by rw[f3,fu];rfl
  rw[List.filter_eq_self.mpr fun _ _=>rfl] at f3;refine⟨D3,_,rfl,bh.of f3,by rw[aV];exact aZ qR (by lia),fun S hS=>?_⟩;obtain⟨o1,o2⟩:=LP ((yu st st.length).map fun j=>(((st.getD j none).getD 0:Nat):Int));have ol:(iL ((yu st st.length).map fun j=>(((st.getD j none).getD 0:Nat):Int))).length<=17:=by
   refine aZ (yq o1 fun x hx=>(o2 x).mp hx) ?_;rw[aV];exact aZ qR (by lia)
  refine⟨S,_,rfl,ag,ol,fun D4 hs xZ hp=>⟨D4,rfl,⟨_,bh.of ag⟩,?_⟩⟩;have t_:∀z,z∈hs↔∃i h,st.getD i none=some h/\z=(h:Int):=fun z=>by
   rw[hp.mem_iff,o2,aQ];constructor
   .rintro⟨j,hj,rfl⟩;obtain⟨_,Ls⟩:=bw.mp hj;cases e:st.getD j none with
    |none=>rw[e] at Ls;cases Ls
    |some h=>exact⟨j,h,e,rfl⟩
   .rintro⟨i,h,e,rfl⟩;exact⟨i,bw.mpr ⟨cU.mpr (iN (eO.mpr e)),by rw[e];rfl⟩,by rw[e];rfl⟩
  have eh:hs=(hs.map Int.toNat).map fun (n:Nat)=>(n:Int):=by
   rw[fu];refine Eq.trans (jm hs).symm (jJ fun z hz=>?_);obtain⟨_,h,_,rfl⟩:=(t_ z).mp hz;rfl
  have hnd:(hs.map Int.toNat).Nodup:=by
   have h0:hs.Nodup:=hp.nodup_iff.mpr o1;unfold List.Nodup;rw[jL];refine h0.imp_of_mem fun {x y} hx hy ne e=>ne ?_;obtain⟨_,h,_,rfl⟩:=(t_ x).mp hx;obtain⟨_,h',_,rfl⟩:=(t_ y).mp hy;rw[j9,j9] at e;rw[e]
  have pH:∀h∈hs.map Int.toNat,∃i,st.getD i none=some h:=fun h hh=>by
   obtain⟨z,hz,rfl⟩:=aQ.mp hh;obtain⟨i,h,e,rfl⟩:=(t_ z).mp hz;exact⟨i,e⟩
  have hal:∀i h,st.getD i none=some h->h∈hs.map Int.toNat:=fun i h e=>aQ.mpr ⟨(h:Int),(t_ _).mpr ⟨i,h,e,rfl⟩,rfl⟩;generalize hs.map Int.toNat=hn at *;have eV:hs.map V.int=NV hn:=by rw[eh,m6]
  rw[eV];have xZ:(upd H4 S (tw P w S (iL ((yu st st.length).map fun j=>(((st.getD j none).getD 0:Nat):Int))))) D4=none:=xZ;have s5:=(ao (o:=tw P w S (iL ((yu st st.length).map fun j=>(((st.getD j none).getD 0:Nat):Int)))) hS).trans (ao (o:=.lst (NV hn)) xZ);have f4:(upd (upd H4 S (tw P w S (iL ((yu st st.length).map fun j=>(((st.getD j none).getD 0:Nat):Int))))) D4 (.lst (NV hn))) D4=some (.lst (NV hn)):=ag;generalize Zb:upd (upd H4 S (tw P w S (iL ((yu st st.length).map fun j=>(((st.getD j none).getD 0:Nat):Int))))) D4 (.lst (NV hn))=H5 at s5 f4;have C2:=Ri.trans s5;have d5:=s5 _ _ (s4 _ _ (s3 _ _ d2));have n41:D4≠D1:=fun z=>by
   have e4:=s4 _ _ (s3 _ _ d2);rw[<-z] at e4;have:=(ao (o:=tw P w S (iL ((yu st st.length).map fun j=>(((st.getD j none).getD 0:Nat):Int)))) hS) _ _ e4;rw[xZ] at this;cases this
  subst Zb;refine dU (K:=K) (a:=D4) (xs:=NV hn) (H:=upd (upd H4 S (tw P w S (iL ((yu st st.length).map fun j=>(((st.getD j none).getD 0:Nat):Int))))) D4 (.lst (NV hn))) (fun i σ H6=>(∃u,σ=[some (.ref b),some (.ref ha),some (.ref sa),some (.ref xa),some (.ref D1),u])/\lE [D1] (upd (upd H4 S (tw P w S (iL ((yu st st.length).map fun j=>(((st.getD j none).getD 0:Nat):Int))))) D4 (.lst (NV hn))) H6/\H6 D1=some (.lst (dE st.length (Ba ns homes st cs (hn.take i) (fun _=>none))))) ⟨⟨_,rfl⟩,.refl,d5⟩ (fun i σ H6 _ z=>bh.of (z.2.1 _ _ f4 (by simp[n41]))) ?_ ?_
  .rintro i x σ H6 hx ⟨⟨u,rfl⟩,k6,g6⟩;have d7:(NV hn)[i]?=some x:=hx;rw[bv] at d7;cases jg:hn[i]? with
   |none=>rw[jg] at d7;cases d7
   |some h=>
   rw[jg] at d7;obtain rfl:V.int (h:Int)=x:=bi d7;obtain⟨j,ej⟩:=pH h (cB jg);have to:∀ {c:Addr} {o:HO},H c=some o->H6 c=some o:=fun {c o} e=>k6 _ _ (C2 _ _ e) (by
    have:c≠D1:=fun z=>by rw[z,nD] at e;cases e
    simp[this])
   have sT:az H H6:=fun c o e=>to e;refine⟨_,rfl,_,rfl,_,rfl,_,rfl,_,rfl,_,rfl,L,b,ha,sa,xa,D1,ns,homes,st,cs,h,_,rfl,BA.same sT,to qt,to pP,to tR,SN,BT,(SN.ok j h ej).1,g6,fun H7 k7 g7=>⟨⟨_,rfl⟩,k6.trans k7,?_⟩⟩;rw[g7,dJ jg];unfold Ba;rw[l_];rfl
  .rintro σ H6 ⟨⟨u,rfl⟩,k6,g6⟩;rw[aY,et,P9 hnd hal] at g6;refine⟨_,rfl,D1,_,rfl,.inl ⟨bh.of g6,fun r hr=>q r _ (fun c o e=>?_) ag⟩⟩;have n1:c≠D1:=fun z=>by rw[z,nD] at e;cases e
   exact ao (o:=.tup (dE st.length (CZ ns homes st cs))) hr _ _ (k6 _ _ (C2 _ _ e) (by simp[n1]))
end
abbrev Zr:Stmt:=fV 61
abbrev Zt:Stmt:=fV 62
def Go(G:Gf)(n:Nat)(kvs:List (dI×V)):Prop:=∃ms:List Nat,ms.Nodup/\(∀m∈ms,m<n)/\(∀m,G m≠none↔m∈ms)/\kvs=ms.map fun (m:Nat)=>((.inl (m:Int):dI),V.int (((G m).getD 0:Nat):Int))
theorem Go.none{G:Gf}{n:Nat}{kvs:List (dI×V)}(g:Go G n kvs){m:Nat}(h:G m=none):iz kvs (.inl (m:Int))=none:=by
 obtain⟨ms,_,_,h2,rfl⟩:=g;cases q:iz (ms.map fun (m:Nat)=>((.inl (m:Int):dI),V.int (((G m).getD 0:Nat):Int))) (.inl (m:Int)) with
 |none=>rfl
 |some v=>
  have:=B8 q;rw[fu] at this;obtain⟨k,hk,ek⟩:=aQ.mp this;have ek:(Sum.inl (k:Int):dI)=Sum.inl (m:Int):=ek;injection ek with ek;exact absurd h ((h2 m).mpr (cV ek ▸ hk))
theorem Go.some{G:Gf}{n:Nat}{kvs:List (dI×V)}(g:Go G n kvs){m y:Nat}(h:G m=some y):iz kvs (.inl (m:Int))=some (.int (y:Int)):=by
 obtain⟨ms,_,_,h2,rfl⟩:=g;rw[oh (f:=fun m=>V.int (((G m).getD 0:Nat):Int)) ((h2 m).mp (by rw[h];exact fun z=>nomatch z)),h];rfl
theorem Go.is{G:Gf}{n:Nat}{kvs:List (dI×V)}(g:Go G n kvs){m:Nat}:(iz kvs (.inl (m:Int))).isSome=(G m).isSome:=by
 cases e:G m with
 |none=>rw[g.none e];rfl
 |some y=>rw[g.some e];rfl
theorem Go.len{G:Gf}{n:Nat}{kvs:List (dI×V)}(g:Go G n kvs):kvs.length<=n:=by
 obtain⟨ms,h0,h1,_,rfl⟩:=g;rw[aV];have:=yq h0 (b:=List.range n) fun x hx=>cU.mpr (h1 x hx);rwa [fm] at this
theorem Go.put{G:Gf}{n:Nat}{kvs:List (dI×V)}(g:Go G n kvs){m y:Nat}(h:G m=Option.none)(hm:m<n):Go (sg G m y) n (gf kvs (.inl (m:Int)) (.int (y:Int))):=by
 obtain⟨ms,h0,h1,h2,rfl⟩:=g;have hn:m∉ms:=fun z=>(h2 m).mpr z h;have e:(ms.map fun (m:Nat)=>((.inl (m:Int):dI),V.int (((G m).getD 0:Nat):Int)))=ms.map fun (j:Nat)=>((.inl (j:Int):dI),V.int (((sg G m y j).getD 0:Nat):Int)):=jJ fun j hj=>by rw[je (g:=G) (y:=y) (show j≠m from fun z=>hn (z ▸ hj))]
 refine⟨ms++[m],oH.mpr ⟨h0,cM.mpr ⟨fun z=>(nomatch z),ft⟩,fun a ha b hb e=>hn (by rw[<-cI.mp hb,<-e];exact ha)⟩,fun j hj=>(cR.mp hj).elim (h1 j) fun z=>by rw[cI.mp z];exact hm,fun j=>?_,?_⟩
 .rw[cR,cI];by_cases c:j=m
  .subst c;rw[fX];exact⟨fun _=>.inr rfl,fun _ z=>nomatch z⟩
  .rw[je c,h2 j];exact⟨.inl,fun z=>z.resolve_right c⟩
 .rw[e];have:=C1 (kvs:=ms.map fun (j:Nat)=>((.inl (j:Int):dI),V.int (((sg G m y j).getD 0:Nat):Int))) (f:=fun j=>V.int (((sg G m y j).getD 0:Nat):Int)) rfl hn;rw[<-this,fX];rfl
theorem Go.nil{n:Nat}:Go (fun _=>Option.none) n []:=⟨[],ft,fun _ z=>(nomatch z),fun m=>⟨fun z=>absurd rfl z,fun z=>(nomatch z)⟩,rfl⟩
def ui(W:Nat->Nat)(ls:List Nat)(G:Gf)(t:Nat):Option Nat:=ls.find? fun i=>decide (G i=none/\W i=t)
def Iz(W:Nat->Nat)(ls:List Nat)(G:Gf)(t:Nat):Gf:=match ui W ls G t with
 |some i=>sg G i t
 |none=>G
theorem wY{W:Nat->Nat}{ls:List Nat}{G:Gf}{cn:List Nat}{t:Nat}:lst W ls (G,cn) t=(Iz W ls G t,if (ui W ls G t).isSome then cn else cn++[t]):=by
 unfold lst Iz ui;dsimp only;cases ls.find? fun i=>decide (G i=none/\W i=t) <;> rfl
section
variable {P:Program} {w:World} {K:PySem.W.Frag} {mg:Str->Option Value} {base:Heap}
theorem UJ:aA ["_law_sides_here","_law_homes","_law_house","_law_some","_law_goes","_law_tie","_law_i"] ["_law_sides_here","_law_homes","_law_house","_law_some","_law_goes","_law_tie"] (am Zr):=⟨rfl,rfl,rfl,by decide +kernel,rfl,by decide +kernel,by decide +kernel⟩
def LR:Sp:=fun vs H Q _=>∃ (sr ha la ga:Addr) (ns homes ls:List Nat) (h t n:Nat) (G:Gf) (kvs:List (dI×V)),vs=[.ref sr,.ref ha,.int h,.ref la,.ref ga,.int t]/\H sr=some (.tup (NV ns))/\Bx ns/\H ha=some (.tup (NV homes))/\H la=some (.lst (NV ls))/\H ga=some (.dK kvs)/\Go G n kvs/\n<=16/\homes.length=n/\(∀i∈ls,i<n/\AS ns h (homes.getD i 0)=some (ir ns homes h i))/\
 ∀ (H':Hp) (lM:List (dI×V)),lE [ga] H H'->H' ga=some (.dK lM)->Go (Iz (ir ns homes h) ls G t) n lM->Q (.bl (ui (ir ns homes h) ls G t).isSome) H'
theorem UK{f:Addr}{fd:FuncData}(F:eN K "_law_first" "_law_first" Zr f fd)(WI:cy P w K mg base ba 3 "_law_wish" ["_law_sides_here","_law_house","_law_home"] Pc):bj P w K mg base ba 4 f fd ["_law_sides_here","_law_homes","_law_house","_law_some","_law_goes","_law_tie"] LR:=by
 refine F.ok UJ (fun vs H Q E h=>?_) (fun dt A outer s H vs Q E hr h=>?_)
 .obtain⟨sr,ha,la,ga,ns,homes,ls,h,t,n,G,kvs,rfl,_⟩:=h;rfl
 .obtain⟨sr,ha,la,ga,ns,homes,ls,h,t,n,G,kvs,rfl,im,BX,qt,Jp,xh,GO,n16,hn,hW,q⟩:=h;have sq:=hr.u (n:=1);refine⟨_,(ah (bZ du rfl (bC (pv 3)) (au (i:=6) UJ.nd rfl (Or.inl rfl))
    (ak (bW (PW.pt (Nt (Fc (uK sq (pv 6) (pv 4))) (Jx (aK iY (aw WI hr aF (aa (pv 0) (aa (pv 2) (aa (bg cp (pv 1) (pv 6) (fun _ _=>rfl)) af)))) (pv 5) (be _))))) (ah (B7 sq (pv 4) (pv 6) (pv 5) rfl)
     (ak (aI kD))) aN)))
   (ak (aI kD))),?_⟩
  have nlg:la≠ga:=bG Jp xh (fun z=>nomatch z);refine⟨_,rfl,la,rfl,⟨_,bh.of Jp⟩,dU (K:=K) (a:=la) (xs:=NV ls) (fun i σ H1=>(∃u,σ=[some (.ref sr),some (.ref ha),some (.int (h:Int)),some (.ref la),some (.ref ga),some (.int (t:Int)),u])/\az H H1/\ui (ir ns homes h) (ls.take i) G t=none) ⟨⟨_,rfl⟩,az.refl _,rfl⟩ (fun i σ H1 _ z=>bh.of (z.2.1 _ _ Jp)) ?_ ?_⟩
  .rintro i x σ H1 hx ⟨⟨u,rfl⟩,s1,fn⟩;have d7:(NV ls)[i]?=some x:=hx;rw[bv] at d7;cases jg:ls[i]? with
   |none=>rw[jg] at d7;cases d7
   |some j=>
   rw[jg] at d7;obtain rfl:V.int (j:Int)=x:=bi d7;obtain⟨hj,ew⟩:=hW j (cB jg);have UL:ui (ir ns homes h) (ls.take (i+1)) G t=if G j=none/\ir ns homes h j=t then some j else none:=by
    unfold ui at fn |-;rw[dJ jg,List.find?_append,fn];by_cases c:G j=none/\ir ns homes h j=t
    .rw[ai c,List.find?_cons_of_pos (by exact decide_eq_true c)];rfl
    .rw[ap c,yS (by simpa using c)];rfl
   refine⟨_,rfl,_,rfl,ga,_,rfl,qm.k (k:=.inl (j:Int)) (s1 _ _ xh),?_⟩;rw[GO.is];cases hG:G j with
   |some y=>
    refine⟨_,rfl,eX (eX ⟨⟨_,rfl⟩,s1,?_⟩)⟩;rw[UL,ap (fun z=>by rw[hG] at z;cases z.1)]
   |none=>
    refine⟨_,rfl,gD ⟨_,rfl,_,rfl,_,rfl,_,rfl,ha,_,_,_,rfl,rfl,bz.of (s1 _ _ qt),aD (uY (by rw[hn];exact hj)),sr,ns,h,_,rfl,s1 _ _ im,BX,fun H2 s2=>?_⟩⟩;rw[ew];have jZ:=s1.trans s2;refine⟨_,rfl,rfl,_,rfl,?_⟩;rw[show decide (oV (some (ir ns homes h j))=V.int (t:Int))=decide (ir ns homes h j=t) from md.mpr ⟨fun z=>by injection z with z;exact cV z,fun z=>by rw[z];rfl⟩];refine gG (fun c=>?_) (fun c=>⟨⟨_,rfl⟩,jZ,?_⟩)
    .have c:=dA c;rw[ai ⟨hG,c⟩] at UL;have hl:kvs.length<sizeLine:=dN GO.len (dN n16 (by decide));refine⟨_,rfl,_,rfl,_,rfl,ga,_,rfl,Ar.k (k:=.inl (j:Int)) (jZ _ _ xh) hl,?_⟩;have ef:ui (ir ns homes h) ls G t=some j:=by
      have:ls=ls.take (i+1)++ls.drop (i+1):=(lZ _ _).symm;unfold ui at UL |-;rw[this,List.find?_append,UL];rfl
     have q1:=q (upd H2 ga (.dK (gf kvs (.inl (j:Int)) (.int (t:Int))))) _ ((lE.same jZ).upd (by simp)) ag;unfold Iz at q1;rw[ef] at q1;exact q1 (GO.put hG hj)
    .rw[UL,ap (fun z=>c (decide_eq_true z.2))]
  .rintro σ H1 ⟨⟨u,rfl⟩,s1,fn⟩;rw[aY,et] at fn;have q1:=q H1 kvs (lE.same s1) (s1 _ _ xh);unfold Iz at q1;rw[fn] at q1;exact q1 GO
end
theorem C3{W:Nat->Nat}{ls:List Nat}:∀ (T:List Nat) (g:Gf) (cn:List Nat),(T.foldl (lst W ls) (g,cn)).2.length<=cn.length+T.length
 |[],g,cn=>aW _
 |t::T,g,cn=>by
  rw[f8,wY];refine aZ (C3 T _ _) ?_;rw[cD];split
  .lia
  .rw[dF];show cn.length+1+_<=_;lia
section
variable {P:Program} {w:World} {K:PySem.W.Frag} {mg:Str->Option Value} {base:Heap}
theorem Qa:(["_law_i","_law_came","_law_ties_here"]:List Str).Nodup:=by decide +kernel
theorem EA:(["_law_tie","_law_sides_here","_law_homes","_law_house","_law_own","_law_goes"]:List Str).Nodup:=by decide +kernel
theorem EB:aA ["_law_sides_here","_law_homes","_law_came","_law_house","_law_here","_law_k","_law_goes","_law_ties_here","_law_own","_law_free","_law_i","_law_tie"] ["_law_sides_here","_law_homes","_law_came","_law_house","_law_here","_law_k","_law_goes"] (am Zt):=⟨rfl,rfl,rfl,by decide +kernel,rfl,by decide +kernel,by decide +kernel⟩
abbrev Zu(ns homes:List Nat)(st cs:List (Option Nat))(h k:Nat)(G:Gf):Gf:=PM (dz st h) (ir ns homes h) (iu cs) (fZ ns cs h) (ni ns h k) k G
def Qb:Sp:=fun vs H Q _=>∃ (sr ha xa la ga:Addr) (ns homes:List Nat) (st cs:List (Option Nat)) (h k:Nat) (G:Gf) (kvs:List (dI×V)),vs=[.ref sr,.ref ha,.ref xa,.int h,.ref la,.int k,.ref ga]/\H sr=some (.tup (NV ns))/\Bx ns/\i_ (pr ns) (lA ns)/\Sn ns homes st/\HX ns homes st (cs.map oV)/\H ha=some (.tup (NV homes))/\H xa=some (.tup (cs.map oV))/\H la=some (.lst (NV (dz st h)))/\H ga=some (.dK kvs)/\Go G st.length kvs/\h<pr ns/\k<ns.length/\(∀i∈dz st h,ir ns homes h i∈ni ns h k->G i=none)/\
 ∀ (H':Hp) (lM:List (dI×V)),lE [ga] H H'->H' ga=some (.dK lM)->Go (Zu ns homes st cs h k G) st.length lM->Q .bA H'
set_option maxHeartbeats 8000000 in
theorem UM{f:Addr}{fd:FuncData}(F:eN K "_law_way_sorted" "_law_way_sorted" Zt f fd)(TI:cy P w K mg base ba 3 "_law_ties" ["_law_sides_here","_law_house","_law_k"] Ll)(FI:cy P w K mg base ba 4 "_law_first" ["_law_sides_here","_law_homes","_law_house","_law_some","_law_goes","_law_tie"] LR):bj P w K mg base ba 5 f fd ["_law_sides_here","_law_homes","_law_came","_law_house","_law_here","_law_k","_law_goes"] Qb:=by
 refine F.ok EB (fun vs H Q E h=>?_) (fun dt A outer s H vs Q E hr h=>?_)
 .obtain⟨sr,ha,xa,la,ga,ns,homes,st,cs,h,k,G,kvs,rfl,_⟩:=h;rfl
 .obtain⟨sr,ha,xa,la,ga,ns,homes,st,cs,h,k,G,kvs,rfl,im,BX,FN,SN,BT,qt,tR,Jp,xh,GO,hh,hk,gn,q⟩:=h;have sq:=hr.u (n:=1);have h3:bQ 3 _:=hr.mono (by decide);have h4:bQ 4 _:=hr.mono (by decide);have wO:=SN.wO;have cl:cs.length=st.length:=by have:=BT.1;rwa [aV] at this
  have LT:∀i∈dz st h,Lt ns homes cs h i:=fun i hi=>CW BX SN BT (eO.mp hi);have Iu:=Iq BX FN SN BT hh;have Jm:(dz st h).length<=16:=aZ (gZ _ _) (by rw[fm];exact wO);have LW:∀i∈dz st h,i<st.length/\AS ns h (homes.getD i 0)=some (ir ns homes h i):=fun i hi=>⟨iN hi,(LT i hi).ws⟩
  refine'⟨_,(ah (aO (i:=7) EB.nd rfl (Or.inr rfl) (aw TI h3 aF (aa (pv 0) (aa (pv 3) (aa (pv 5) af)))))
   (ah (aO (i:=8) EB.nd rfl (Or.inr rfl) ?c1)
   (ah (dg (i:=9) (g:=(cq 0)) (tt:=(Rz (tB (nE LR [] E0 (dq (bf 1) (dq (bf 2) (dq (bf 3) (dq (bf 4) (dq (bf 5) (dq (bf 0) mz)))))))))) (te:=(bf 0)) (NB:=["_law_tie","_law_sides_here","_law_homes","_law_house","_law_own","_law_goes"]) (src:=[none,some 0,some 1,some 3,some 8,some 6]) (cw (by kernel_rfl)) rfl (bC (pv 7)) ?g2 ?t2 ?e2 EB.nd rfl rfl rfl)
   (ah (bZ du rfl (bC (pv 8)) (au (i:=10) EB.nd rfl (Or.inl rfl))
    (ak (bW (Fc (uK sq (pv 10) (pv 6))) (ah (B7 sq (pv 6) (pv 10) (kF (aK fE (bg cp (pv 2) (pv 10) (fun _ _=>rfl)) (pv 9) rfl) (bg cp (pv 2) (pv 10) (fun _ _=>rfl)) (bg bD (pv 9) aB (fun _ _=>rfl))) rfl)
     (ak (bq (ig gY yK yJ pG (pv 9) (aa (iJ sq (pv 6) (pv 10) (fun _ _=>rfl)) af))))) aN)))
   (ak (bZ du rfl (bC (pv 9)) (au (i:=11) EB.nd rfl (Or.inl rfl))
    (ak (bq (aw FI h4 aF (aa (pv 0) (aa (pv 1) (aa (pv 3) (aa (pv 4) (aa (pv 6) (aa (pv 11) af))))))))))))))),?_⟩
  case c1=>
   refine' d9 (g:=(cq 0)) (tt:=(iZ (nB (VJ K false) (nB (tZ K) (bf 1) (bf 0)) (bf 2)))) (te:=(bf 0)) (NB:=["_law_i","_law_came","_law_ties_here"]) (src:=[none,some 2,some 7]) (cw (by kernel_rfl)) rfl (bC (pv 4)) ?g ?t ?e;case g=>exact fun cl C s₃ H₃ fp=>(au (i:=0) Qa rfl (Or.inl rfl) (Or.inr rfl))
   case t=>exact fun cl C s₃ H₃ fp=>dD (aK fE (bg cp (pv 1) (pv 0) (fun _ _=>rfl)) (pv 2) rfl)
   case e=>exact fun cl C s₃ H₃ fp=>(pv 0)
  case g2=>exact fun cl C s₃ H₃ fp=>(au (i:=0) EA rfl (Or.inl rfl) (Or.inr rfl))
  case t2=>exact fun cl C s₃ H₃ fp=>dD (de (c_ (aw FI h4 aF (aa (pv 1) (aa (pv 2) (aa (pv 3) (aa (pv 4) (aa (pv 5) (aa (pv 0) af)))))))))
  case e2=>exact fun cl C s₃ H₃ fp=>(pv 0)
  refine⟨_,rfl,_,rfl,_,rfl,sr,ns,h,k,rfl,im,BX,hk,fun ta H1 s1 _ ht=>?_⟩;refine⟨_,rfl,la,rfl,⟨_,bh.of (s1 _ _ Jp)⟩,fun D1 A_=>?_⟩;refine lB (dz st h) (fun (j:Nat)=>V.int (j:Int)) (fun j=>decide (fZ ns cs h j=k)) (fun (j:Nat)=>V.int (j:Int)) (fun σ=>∃u,σ=[u,some (.ref xa),some (.ref ta)]) (s1 _ _ Jp) A_ (by lia) ⟨_,rfl⟩ ?_ ?_
  .rintro j σ H2 Kt Kf hj ⟨u,rfl⟩ s2 kt kf;refine⟨_,rfl,_,rfl,xa,_,_,_,rfl,rfl,bz.of (s2 _ _ (s1 _ _ tR)),aD (show (cs.map oV)[j]?=some (.int (iu cs j:Nat)) by rw[lV (by rw[cl];exact iN hj),(LT j hj).cm];rfl),_,rfl,ta,_,rfl,.inl (bh.of (s2 _ _ ht)),rfl,jE,?_⟩;rw[ap bo,LI];have ei:decide (iu cs j∈ni ns h k)=decide (fZ ns cs h j=k):=md.mpr ((sY BX.pos hk).trans ⟨fun t=>bi ((jb (LT j hj).ct).symm.trans (jb t)),fun e=>e ▸ (LT j hj).ct⟩);rw[ei];exact⟨_,rfl,gG (fun c=>⟨_,rfl,kt _ _ ⟨_,rfl⟩ (az.refl _) c⟩) (fun c=>kf _ _ ⟨_,rfl⟩ (az.refl _) (jM.mpr c))⟩
  intro H2 s2 f1;have f1:H2 D1=some (.lst (NV (a8 (dz st h) (fZ ns cs h) k))):=f1;have jZ:=s1.trans s2;have t2:=s2 _ _ ht;have own:∀j∈a8 (dz st h) (fZ ns cs h) k,j∈dz st h:=fun j hj=>(bw.mp hj).1;have UF:D1≠ga:=bG f1 (jZ _ _ xh) (fun z=>nomatch z);have ntg:ta≠ga:=bG t2 (jZ _ _ xh) (fun z=>nomatch z);refine⟨_,rfl,ta,rfl,⟨_,bh.of t2⟩,fun D2 iA=>?_⟩;have Iw:D2≠ga:=fun z=>by rw[z,jZ _ _ xh] at iA;cases iA
  have Zv:=sZ (ns:=ns) (h:=h) (k:=k);refine gX (xs:=NV (ni ns h k)) (fun i ys σ H3=>(∃u,σ=[u,some (.ref sr),some (.ref ha),some (.int (h:Int)),some (.ref D1),some (.ref ga)])/\lE [D2,ga] H2 H3/\H3 D2=some (.lst ys)/\ys=NV (((ni ns h k).take i).foldl (lst (ir ns homes h) (a8 (dz st h) (fZ ns cs h) k)) (G,[])).2/\∃lM,H3 ga=some (.dK lM)/\Go (((ni ns h k).take i).foldl (lst (ir ns homes h) (a8 (dz st h) (fZ ns cs h) k)) (G,[])).1 st.length lM) ⟨⟨_,rfl⟩,(lE.same (az.refl _)).upd (by simp),ag,rfl,kvs,by rw[al (bE Iw)];exact jZ _ _ xh,GO⟩ (fun i ys σ H3 _ z=>bh.of (z.2.1 _ _ t2 (by
   have:ta≠D2:=fun e=>by rw[<-e,t2] at iA;cases iA
   simp[this,ntg]))) ?_ ?_
  .rintro i x ys σ H3 Kt Kf hx ⟨⟨u,rfl⟩,k3,d3,rfl,Qc,g3,Wg⟩ kt kf;have d7:(NV (ni ns h k))[i]?=some x:=hx;rw[bv] at d7;cases jg:(ni ns h k)[i]? with
   |none=>rw[jg] at d7;cases d7
   |some t=>
   rw[jg] at d7;obtain rfl:V.int (t:Int)=x:=bi d7;have o2:∀ {a:Addr} {o:HO},H1 a=some o->a≠ga->H3 a=some o:=fun {a o} e n=>k3 _ _ (s2 _ _ e) (by
    have:a≠D2:=fun z=>by rw[<-z,s2 _ _ e] at iA;cases iA
    simp[this,n])
   have KN:D1≠D2:=fun z=>by rw[<-z,f1] at iA;cases iA
   have oT:∀ {a:Addr} {ys:List V},H a=some (.tup ys)->H3 a=some (.tup ys):=fun {a ys} e=>o2 (s1 _ _ e) (bG e xh (fun z=>nomatch z));have Jn:((ni ns h k).take (i+1)).foldl (lst (ir ns homes h) (a8 (dz st h) (fZ ns cs h) k)) (G,[])=lst (ir ns homes h) (a8 (dz st h) (fZ ns cs h) k) (((ni ns h k).take i).foldl (lst (ir ns homes h) (a8 (dz st h) (fZ ns cs h) k)) (G,[])) t:=by rw[dJ jg,l_];rfl
   rw[Jn] at kt kf;have cG:(((ni ns h k).take i).foldl (lst (ir ns homes h) (a8 (dz st h) (fZ ns cs h) k)) (G,[])).2.length<=i:=by
    refine aZ (C3 _ _ _) ?_;show 0+_<=_;rw[Nat.zero_add];exact List.length_take_le _ _
   generalize ((ni ns h k).take i).foldl (lst (ir ns homes h) (a8 (dz st h) (fZ ns cs h) k)) (G,[])=S3 at *;obtain⟨G3,A3⟩:=S3;rw[wY] at kt kf;have hi:=(cQ.mp jg).1;refine⟨_,rfl,_,rfl,_,rfl,_,rfl,_,rfl,_,rfl,sr,ha,D1,ga,ns,homes,_,h,t,st.length,G3,Qc,rfl,oT im,BX,oT qt,k3 _ _ f1 (by simp[KN,UF]),g3,Wg,wO,SN.l,fun j hj=>LW j (own j hj),fun H4 oj k4 g4 C4=>⟨_,rfl,?_⟩⟩;have k24:lE [D2,ga] H2 H4:=fun b o e hb=>k4 _ _ (k3 _ _ e hb) (by
    have:b≠ga:=fun z=>hb (by simp[z]);simp[this])
   have d4:=k4 _ _ d3 (by simp[Iw]);cases ef:(ui (ir ns homes h) (a8 (dz st h) (fZ ns cs h) k) G3 t).isSome with
   |true=>
    refine gP rfl (kf _ _ ⟨⟨_,rfl⟩,k24,d4,?_,oj,g4,C4⟩);dsimp only;rw[ai ef]
   |false=>
    refine n5 rfl ⟨_,rfl,kt _ _ _ d4 (by rw[aY];exact dN (aZ cG (show i<=16 by lia)) (by decide)) ⟨⟨_,rfl⟩,k24.upd (by simp),ag,?_,oj,by rw[al (bE Iw)];exact g4,C4⟩⟩;dsimp only;rw[ap (by rw[ef];exact bo)];exact gU
  rintro ys σ H3 ⟨⟨u,rfl⟩,k3,d3,rfl,Qc,g3,Wg⟩;rw[aY,et] at d3 Wg;have tn:=Ip (h:=h) BX hk;have l1:=n_ (ir ns homes h) (a8 (dz st h) (fZ ns cs h) k) (ni ns h k) G [] tn (fun i hi hw=>gn i (own i hi) hw);rw[zy] at l1;have KK:KI (iu cs) (a8 (dz st h) (fZ ns cs h) k) ((ni ns h k).foldl (lst (ir ns homes h) (a8 (dz st h) (fZ ns cs h) k)) (G,[])):=by
   rw[l1];exact yr (Iu.nd.filter _) tn Zv (fun i hi=>(sY BX.pos hk).mpr (by
    have e:=dA (bw.mp hi).2;exact e ▸ (LT i (own i hi)).ct)) fun i hi j hj=>Iu.inj i (own i hi) j (own j hj)
  have o2:∀ {a:Addr} {o:HO},H1 a=some o->a≠ga->H3 a=some o:=fun {a o} e n=>k3 _ _ (s2 _ _ e) (by
   have:a≠D2:=fun z=>by rw[<-z,s2 _ _ e] at iA;cases iA
   simp[this,n])
  have KN:D1≠D2:=fun z=>by rw[<-z,f1] at iA;cases iA
  have nH:H D2=none:=by
   cases e:H D2 with
   |none=>rfl
   |some u=>rw[jZ _ _ e] at iA;cases iA
  have oT:∀ {a:Addr} {ys:List V},H a=some (.tup ys)->H3 a=some (.tup ys):=fun {a ys} e=>o2 (s1 _ _ e) (bG e xh (fun z=>nomatch z));have P8:=k3 _ _ f1 (by simp[KN,UF]);have aa6:=o2 (s1 _ _ Jp) (bG Jp xh (fun z=>nomatch z));have Ui:∀a o,H a=some o->a≠D2:=fun a o e z=>by rw[z,nH] at e;cases e
  have cK:∀ (b:Addr) (o:HO) (H9:Hp),lE [D2,ga] H3 H9->H b=some o->b∉[ga]->H9 b=some o:=fun b o H9 k9 e hb=>by
   have n1:=Ui b o e;have n2:b≠ga:=fun z=>hb (by simp[z]);exact k9 _ _ (o2 (s1 _ _ e) n2) (by simp[n1,n2])
  generalize eS:(ni ns h k).foldl (lst (ir ns homes h) (a8 (dz st h) (fZ ns cs h) k)) (G,[])=S3 at *;refine⟨_,rfl,D1,rfl,⟨_,bh.of P8⟩,dU (K:=K) (a:=D1) (xs:=NV (a8 (dz st h) (fZ ns cs h) k)) (fun i σ H4=>(∃u v,σ=[some (.ref sr),some (.ref ha),some (.ref xa),some (.int (h:Int)),some (.ref la),some (.int (k:Int)),some (.ref ga),some (.ref ta),some (.ref D1),some (.ref D2),u,v])/\lE [D2,ga] H3 H4/\H4 D2=some (.lst (NV (((a8 (dz st h) (fZ ns cs h) k).take i).foldl (fw (iu cs)) S3).2))/\∃lM,H4 ga=some (.dK lM)/\Go (((a8 (dz st h) (fZ ns cs h) k).take i).foldl (fw (iu cs)) S3).1 st.length lM) ⟨⟨_,_,rfl⟩,.refl,d3,Qc,g3,Wg⟩ (fun i σ H4 _ z=>bh.of (z.2.1 _ _ P8 (by simp[KN,UF]))) ?_ ?_⟩
  .rintro i x σ H4 hx ⟨⟨u,v,rfl⟩,k4,d4,oj,g4,C4⟩;have d7:(NV (a8 (dz st h) (fZ ns cs h) k))[i]?=some x:=hx;rw[bv] at d7;cases jg:(a8 (dz st h) (fZ ns cs h) k)[i]? with
   |none=>rw[jg] at d7;cases d7
   |some j=>
   rw[jg] at d7;obtain rfl:V.int (j:Int)=x:=bi d7;have Tt:=cB jg;have hj:=own j Tt;have gc:(cs.map oV)[j]?=some (.int (iu cs j:Nat)):=by rw[lV (by rw[cl];exact iN hj),(LT j hj).cm];rfl
   have UA:=k4 _ _ (oT tR) (by simp[Ui _ _ tR,bG tR xh (fun z=>nomatch z)]);have Jn:((a8 (dz st h) (fZ ns cs h) k).take (i+1)).foldl (fw (iu cs)) S3=fw (iu cs) (((a8 (dz st h) (fZ ns cs h) k).take i).foldl (fw (iu cs)) S3) j:=by rw[dJ jg,l_];rfl
   rw[Jn];have K1:=wX i _ S3 KK;have Y4:(a8 (dz st h) (fZ ns cs h) k).drop i=j::(a8 (dz st h) (fZ ns cs h) k).drop (i+1):=by
    obtain⟨df,e⟩:=cQ.mp jg;rw[oB df,e]
   rw[Y4] at K1;clear Jn;generalize ((a8 (dz st h) (fZ ns cs h) k).take i).foldl (fw (iu cs)) S3=Jq at *;refine⟨_,rfl,_,rfl,ga,_,rfl,qm.k (k:=.inl (j:Int)) g4,?_⟩;rw[C4.is];unfold fw;cases eg:Jq.1 j with
   |some y=>
    refine⟨_,rfl,gP rfl ?_⟩;rw[ap (fun z=>nomatch z)];exact⟨⟨_,_,rfl⟩,k4,d4,oj,g4,C4⟩
   |none=>
    refine⟨_,rfl,n5 rfl ?_⟩;rw[ai rfl];have hl:oj.length<sizeLine:=dN C4.len (dN wO (by decide));have put:∀y:Nat,y∈Jq.2->∀H5,H5=upd H4 ga (.dK (gf oj (.inl (j:Int)) (.int (y:Int))))->H5 D2=some (.lst (NV Jq.2))/\lE [D2,ga] H3 H5/\H5 ga=some (.dK (gf oj (.inl (j:Int)) (.int (y:Int))))/\Go (sg Jq.1 j y) st.length (gf oj (.inl (j:Int)) (.int (y:Int)))/\some (V.int (y:Int))=iz (gf oj (.inl (j:Int)) (.int (y:Int))) (.inl (j:Int)):=fun y _ H5 e=>by
     subst e;have gp:=C4.put (y:=y) eg (iN hj);exact⟨by rw[al Iw];exact d4,k4.upd (by simp),ag,gp,(gp.some fX).symm⟩
    refine⟨_,rfl,_,rfl,xa,_,_,_,rfl,rfl,bz.of UA,aD gc,_,rfl,D2,_,rfl,.inl (bh.of d4),rfl,jE,?_⟩;rw[ap bo,LI];refine⟨_,rfl,gG (fun c=>?_) (fun c=>?_)⟩
    .have c:iu cs j∈Jq.2:=dA c;rw[ai c];obtain⟨p1,p2,p3,p4,p5⟩:=put _ c _ rfl;refine⟨_,rfl,_,rfl,xa,_,_,_,rfl,rfl,bz.of UA,aD gc,_,rfl,_,rfl,ga,_,rfl,Ar.k (k:=.inl (j:Int)) g4 hl,?_⟩;refine⟨_,rfl,.inl ⟨rfl,_,bh.of p1⟩,_,rfl,_,rfl,ga,_,rfl,.inl ⟨_,.inl (j:Int),.inl p3,rfl,p5⟩,D2,Jq.2.map fun (n:Nat)=>(n:Int),_,rfl,rfl,by rw[p1,m6],aQ.mpr ⟨_,c,rfl⟩,?_⟩;rw[ll];exact⟨⟨_,_,rfl⟩,p2.upd (by simp),ag,_,by rw[al (bE Iw)];exact p3,p4⟩
    .have c:¬ iu cs j∈Jq.2:=fun z=>c (decide_eq_true z);rw[ap c];obtain⟨y,ey⟩:=K1.head eg c;have hy:Jq.2.headD 0=y:=by rw[ey];rfl
     have my:y∈Jq.2:=by rw[ey];exact bN
     rw[hy];obtain⟨p1,p2,p3,p4,p5⟩:=put _ my _ rfl;refine⟨_,rfl,D2,_,0,_,rfl,rfl,bh.of d4,by rw[ey];exact aD (j:=0) rfl,_,rfl,_,rfl,ga,_,rfl,Ar.k (k:=.inl (j:Int)) g4 hl,?_⟩;refine⟨_,rfl,.inl ⟨rfl,_,bh.of p1⟩,_,rfl,_,rfl,ga,_,rfl,.inl ⟨_,.inl (j:Int),.inl p3,rfl,p5⟩,D2,Jq.2.map fun (n:Nat)=>(n:Int),_,rfl,rfl,by rw[p1,m6],aQ.mpr ⟨_,my,rfl⟩,?_⟩;rw[ll];exact⟨⟨_,_,rfl⟩,p2.upd (by simp),ag,_,by rw[al (bE Iw)];exact p3,p4⟩
  rintro σ H4 ⟨⟨u,v,rfl⟩,k4,d4,oj,g4,C4⟩;rw[aY,et] at d4 C4;have ewy:Zu ns homes st cs h k G=((((a8 (dz st h) (fZ ns cs h) k).foldl (fw (iu cs)) S3).2).foldl (lst (ir ns homes h) (dz st h)) (((a8 (dz st h) (fZ ns cs h) k).foldl (fw (iu cs)) S3).1,[])).1:=by
   rw[<-eS];rfl
  rw[ewy] at q;generalize (a8 (dz st h) (fZ ns cs h) k).foldl (fw (iu cs)) S3=S4 at *;refine⟨_,rfl,D2,rfl,⟨_,bh.of d4⟩,dU (K:=K) (a:=D2) (xs:=NV S4.2) (fun i σ H5=>(∃u v,σ=[some (.ref sr),some (.ref ha),some (.ref xa),some (.int (h:Int)),some (.ref la),some (.int (k:Int)),some (.ref ga),some (.ref ta),some (.ref D1),some (.ref D2),u,v])/\lE [ga] H4 H5/\∃lM,H5 ga=some (.dK lM)/\Go ((S4.2.take i).foldl (lst (ir ns homes h) (dz st h)) (S4.1,[])).1 st.length lM) ⟨⟨_,_,rfl⟩,.refl,oj,g4,C4⟩ (fun i σ H5 _ z=>bh.of (z.2.1 _ _ d4 (by simp[Iw]))) ?_ ?_⟩
  .rintro i x σ H5 hx ⟨⟨u,v,rfl⟩,k5,IA,g5,Rl⟩;have d7:(NV S4.2)[i]?=some x:=hx;rw[bv] at d7;cases jg:S4.2[i]? with
   |none=>rw[jg] at d7;cases d7
   |some t=>
   rw[jg] at d7;obtain rfl:V.int (t:Int)=x:=bi d7;have Jn:(S4.2.take (i+1)).foldl (lst (ir ns homes h) (dz st h)) (S4.1,[])=lst (ir ns homes h) (dz st h) ((S4.2.take i).foldl (lst (ir ns homes h) (dz st h)) (S4.1,[])) t:=by rw[dJ jg,l_];rfl
   rw[Jn];generalize (S4.2.take i).foldl (lst (ir ns homes h) (dz st h)) (S4.1,[])=S5 at *;obtain⟨G5,A5⟩:=S5;rw[wY];have up:∀ (b:Addr) (o:HO),H b=some o->b≠ga->H5 b=some o:=fun b o e n=>k5 _ _ (cK b o H4 k4 e (by simp[n])) (by simp[n]);have nt:∀ {a:Addr} {ys:List V},H a=some (.tup ys)->a≠ga:=fun e=>bG e xh (fun z=>nomatch z);refine⟨_,rfl,_,rfl,_,rfl,_,rfl,_,rfl,_,rfl,sr,ha,la,ga,ns,homes,_,h,t,st.length,G5,IA,rfl,up _ _ im (nt im),BX,up _ _ qt (nt qt),up _ _ Jp (bG Jp xh (fun z=>nomatch z)),g5,Rl,wO,SN.l,LW,fun H6 Zw k6 g6 GO6=>?_⟩;exact⟨⟨_,_,rfl⟩,k5.trans k6,Zw,g6,GO6⟩
  .rintro σ H5 ⟨⟨u,v,rfl⟩,k5,IA,g5,Rl⟩;rw[aY,et] at Rl;refine q H5 IA (fun b o e hb=>?_) g5 Rl;exact k5 _ _ (cK b o H4 k4 e hb) hb
end
abbrev Zx:Stmt:=fV 63
def yF(ns homes:List Nat)(st cs:List (Option Nat))(m:Nat):Gf:=fun i=>match st.getD i none with
 |none=>none
 |some h=>if h<m then CZ ns homes st cs i else none
def ET(ns homes:List Nat)(st cs:List (Option Nat))(m j:Nat):Gf:=fun i=>if i∈(dz st m).take j then CZ ns homes st cs i else yF ns homes st cs m i
theorem Qd{ns homes:List Nat}{st cs:List (Option Nat)}{i h:Nat}(hi:i∈dz st h):CZ ns homes st cs i=m9 ns homes st cs h ns.length (fun _=>none) i:=by
 unfold CZ;rw[eO.mp hi]
theorem IC{ns homes:List Nat}{st cs:List (Option Nat)}{m:Nat}:ET ns homes st cs m 0=yF ns homes st cs m:=by
 funext i;unfold ET;rw[zH,ap (fun z=>nomatch z)]
theorem ID{ns homes:List Nat}{st cs:List (Option Nat)}{m j i y:Nat}(hi:(dz st m)[j]?=some i)(hy:CZ ns homes st cs i=some y):sg (ET ns homes st cs m j) i y=ET ns homes st cs m (j+1):=by
 funext x;unfold sg ET;rw[dJ hi];by_cases c:x=i
 .subst c;rw[ai rfl,ai (gJ _ (cI.mpr rfl)),hy]
 .rw[ap c];exact Ez ⟨fun z=>ny _ z,fun z=>(cR.mp z).elim id fun z=>absurd (cI.mp z) c⟩
theorem LU{ns homes:List Nat}{st cs:List (Option Nat)}{m:Nat}:ET ns homes st cs m (dz st m).length=yF ns homes st cs (m+1):=by
 funext x;unfold ET yF;rw[et];cases e:st.getD x none with
 |none=>
  rw[ap (fun z=>by rw[eO,e] at z;cases z)]
 |some h=>
  dsimp only;by_cases c:h=m
  .subst c;rw[ai (eO.mpr e),ai (j5 _)]
  .rw[ap (fun z=>by rw[eO,e] at z;exact c (bi z))];exact Ez (by lia)
theorem LV{ns homes:List Nat}{st cs:List (Option Nat)}(SN:Sn ns homes st):yF ns homes st cs (pr ns)=CZ ns homes st cs:=by
 funext x;unfold yF;cases e:st.getD x none with
 |none=>unfold CZ;rw[e]
 |some h=>exact ai (SN.ok x h e).1
theorem IE{ns homes:List Nat}{st cs:List (Option Nat)}:yF ns homes st cs 0=fun _=>none:=by
 funext x;unfold yF;cases e:st.getD x none with
 |none=>rfl
 |some h=>exact ap (jQ _)
section
variable {P:Program} {w:World} {K:PySem.W.Frag} {mg:Str->Option Value} {base:Heap}
theorem Qe:(["_law_i","_law_stand","_law_house"]:List Str).Nodup:=by decide +kernel
theorem Bb:aA ["_law_sides_here","_law_homes","_law_stand","_law_came","_law_found","_law_house","_law_here","_law_goes","_law_k","_law_i"] ["_law_sides_here","_law_homes","_law_stand","_law_came"] (am Zx):=⟨rfl,rfl,rfl,by decide +kernel,rfl,by decide +kernel,by decide +kernel⟩
def Qf:Sp:=fun vs H Q _=>∃ (sr ha sa xa:Addr) (ns homes:List Nat) (st cs:List (Option Nat)),vs=[.ref sr,.ref ha,.ref sa,.ref xa]/\H sr=some (.tup (NV ns))/\Bx ns/\i_ (pr ns) (lA ns)/\Sn ns homes st/\HX ns homes st (cs.map oV)/\H ha=some (.tup (NV homes))/\H sa=some (.tup (st.map oV))/\H xa=some (.tup (cs.map oV))/\
 ∀ (r:Addr) (H':Hp),az H H'->H' r=some (.tup (dE st.length (CZ ns homes st cs)))->Q (.ref r) H'
theorem UN{f:Addr}{fd:FuncData}(F:eN K "_law_handed" "_law_handed" Zx f fd)(B:Bl mg)(MA:cy P w K mg base ba 1 "_law_many" ["_law_sides_here"] Ek)(WS:cy P w K mg base ba 5 "_law_way_sorted" ["_law_sides_here","_law_homes","_law_came","_law_house","_law_here","_law_k","_law_goes"] Qb):bj P w K mg base ba 6 f fd ["_law_sides_here","_law_homes","_law_stand","_law_came"] Qf:=by
 refine F.ok Bb (fun vs H Q E h=>?_) (fun dt A outer s H vs Q E hr h=>?_)
 .obtain⟨sr,ha,sa,xa,ns,homes,st,cs,rfl,_⟩:=h;rfl
 .obtain⟨sr,ha,sa,xa,ns,homes,st,cs,rfl,im,BX,FN,SN,BT,qt,pP,tR,q⟩:=h;have sq:=hr.u (n:=1);have h1:bQ 1 _:=hr.mono (by decide);have wO:=SN.wO;have l5:=BX.l5;have MZ:=BX.MZ;refine'⟨_,(ah (aO (i:=4) Bb.nd rfl (Or.inl rfl) (bu NR (dX (aa dC af)) (aG aJ (by rfl) B.len dS (aa (pv 2) af))))
   (ah (bZ du rfl (ce rfl B.range (aa (aw MA h1 aF (aa (pv 0) af)) af)) (au (i:=5) Bb.nd rfl (Or.inr rfl))
    (ah (dg (i:=6) (g:=(cq 0)) (tt:=(iZ (nB (QQ) (nB (tZ K) (bf 1) (bf 0)) (bf 2)))) (te:=(bf 0)) (NB:=["_law_i","_law_stand","_law_house"]) (src:=[none,some 2,some 5]) (cw (by kernel_rfl)) rfl (ce rfl B.range (aa (aG aJ (by rfl) B.len dS (aa (pv 2) af)) af)) ?g1 ?t1 ?e1 Bb.nd rfl rfl rfl)
    (ah (aO (i:=7) Bb.nd rfl (Or.inl rfl) Gp)
    (ah (bZ du rfl (Es rfl B.range (aa (bu mx (aG aJ (by rfl) B.len dS (aa (pv 0) af)) aB) (aa (ur o9 aB) (aa (ur o9 aB) af)))) (au (i:=8) Bb.nd rfl (Or.inl rfl))
     (ak (bq (aw WS hr aF (aa (pv 0) (aa (pv 1) (aa (pv 3) (aa (pv 5) (aa (pv 6) (aa (pv 8) (aa (pv 7) af)))))))))))
    (ak (bZ du rfl (bC (pv 6)) (au (i:=9) Bb.nd rfl (Or.inl rfl))
     (ak (ic (iJ sq (pv 7) (pv 9) (fun _ _=>rfl)) (mv (pv 4) (pv 9) ge)))))))))
   (ak (aI (cf cr (by rfl) B.tup jI (aa (pv 4) af)))))),?_⟩
  case g1=>exact fun cl C s₃ H₃ fp=>(au (i:=0) Qe rfl (Or.inl rfl) (Or.inr rfl))
  case t1=>exact fun cl C s₃ H₃ fp=>dD (aK iY (bg cp (pv 1) (pv 0) (fun _ _=>rfl)) (pv 2) (be _))
  case e1=>exact fun cl C s₃ H₃ fp=>(pv 0)
  refine⟨by show 1<=sizeLine;decide,fun l0 WX=>?_⟩;have s0:=ao (o:=.lst [V.bA]) WX;refine⟨_,rfl,sa,_,rfl,.inr (bz.of (s0 _ _ pP)),l0,_,_,rfl,rfl,ag,by rw[aV];lia,by rw[aV];lia,by rw[aV];show 1*Int.toNat _<=_;exact aZ (show _<=16 by lia) (by decide),fun D0 UO=>?_⟩;have eR:(List.replicate (Int.toNat ((st.map oV).length:Nat)) [V.bA]).flatten=dE st.length (yF ns homes st cs 0):=by
   rw[IE,va,aV,j9];exact List.flatten_replicate_singleton
  rw[eR];have nD0:H D0=none:=by
   cases e:H D0 with
   |none=>rfl
   |some u=>rw[s0 _ _ e] at UO;cases UO
  have s00:=s0.trans (ao (o:=.lst (dE st.length (yF ns homes st cs 0))) UO);have d0:(upd (upd H l0 (.lst [V.bA])) D0 (.lst (dE st.length (yF ns homes st cs 0)))) D0=some (.lst (dE st.length (yF ns homes st cs 0))):=ag;generalize upd (upd H l0 (.lst [V.bA])) D0 (.lst (dE st.length (yF ns homes st cs 0)))=H0 at *;have nd:∀ {a:Addr} {o:HO},H a=some o->a≠D0:=fun e z=>by rw[z,nD0] at e;cases e
  have up:∀ {H1:Hp},lE [D0] H0 H1->az H H1:=fun k a o e=>k _ _ (s00 _ _ e) (by simp[nd e]);refine⟨_,rfl,sr,ns,rfl,s00 _ _ im,fun x hx=>(BX.sd x hx).2,pr ns,rfl,by lia,by lia,?_⟩;refine d8 (n:=pr ns) (lo:=0) (fun m σ H1=>(∃u5 u6 u7 u8 u9,σ=[some (.ref sr),some (.ref ha),some (.ref sa),some (.ref xa),some (.ref D0),u5,u6,u7,u8,u9])/\lE [D0] H0 H1/\H1 D0=some (.lst (dE st.length (yF ns homes st cs m)))) ⟨⟨_,_,_,_,_,rfl⟩,.refl,d0⟩ ?_ ?_
  .rintro m σ H1 hm ⟨⟨u5,u6,u7,u8,u9,rfl⟩,k1,d1⟩;rw[eU];have s1:=up k1;have LT:∀i∈dz st m,Lt ns homes cs m i:=fun i hi=>CW BX SN BT (eO.mp hi);have Iu:=Iq BX FN SN BT hm;have Jm:(dz st m).length<=16:=aZ (gZ _ _) (by rw[fm];exact wO);refine⟨_,rfl,sa,_,rfl,.inr (bz.of (s1 _ _ pP)),_,rfl,by rw[aV];lia,by rw[aV];lia,fun D1 A_=>?_⟩;rw[aV];refine wK (lo:=0) (n:=st.length) (fun j=>decide (st.getD j none=some m)) (fun σ=>∃u,σ=[u,some (.ref sa),some (.int (m:Int))]) A_ (by lia) ⟨_,rfl⟩ ?_ ?_
   .rintro j σ H5 Kt Kf hj ⟨u,rfl⟩ s5 kt kf;rw[eU] at kt |-;refine⟨_,rfl,_,rfl,sa,_,_,_,rfl,rfl,bz.of (s5 _ _ (s1 _ _ pP)),aD (lV hj),_,rfl,wL,_,rfl,?_⟩;rw[CG];exact gG (fun c=>⟨_,rfl,kt _ _ ⟨_,rfl⟩ (az.refl _) c⟩) (fun c=>kf _ _ ⟨_,rfl⟩ (az.refl _) (jM.mpr c))
   intro H2 s2 f1;rw[show (((List.range st.length).filter fun j=>decide (st.getD j none=some m)).map fun (x:Nat)=>V.int (0+(x:Int)))=NV (dz st m) from jJ fun x _=>by rw[eU]] at f1;intro D2 iA;have s3:=ao (o:=.dK []) iA;have f2:upd H2 D2 (.dK []) D2=some (.dK []):=ag;generalize upd H2 D2 (.dK [])=H3 at *;have uh:=s1.trans (s2.trans s3);have P8:=s3 _ _ f1;have d3:=s3 _ _ (s2 _ _ d1);have KN:D1≠D2:=bG P8 f2 (fun z=>nomatch z);have n02:D0≠D2:=bG d3 f2 (fun z=>nomatch z);have n2:∀ {a:Addr} {o:HO},H a=some o->a≠D2:=fun e z=>by rw[z] at e;rw[s2 _ _ (s1 _ _ e)] at iA;cases iA
   refine⟨_,rfl,sr,_,rfl,.inr (bz.of (uh _ _ im)),_,_,rfl,rfl,_,rfl,_,rfl,ns.length,by rw[aY],by lia,?_⟩;refine yn (hi:=(ns.length:Int)-1) (n:=ns.length) (fun i σ H4=>(∃u8 u9,σ=[some (.ref sr),some (.ref ha),some (.ref sa),some (.ref xa),some (.ref D0),some (.int (m:Int)),some (.ref D1),some (.ref D2),u8,u9])/\lE [D2] H3 H4/\∃kvs,H4 D2=some (.dK kvs)/\Go (m9 ns homes st cs m i (fun _=>none)) st.length kvs) ⟨⟨_,_,rfl⟩,.refl,[],f2,Go.nil⟩ ?_ ?_
   .rintro i σ H4 hi ⟨⟨u8,u9,rfl⟩,k4,oj,g4,C4⟩;have hk:ns.length-1-i<ns.length:=by lia
    rw[show ((ns.length:Int)-1-(i:Int))=((ns.length-1-i:Nat):Int) by lia];have J:=JI.all Iu (g:=fun _=>none) (fun _ _=>rfl) i (by lia);rw[show ns.length-i=(ns.length-1-i)+1 by lia] at J;have ew:=PP Iu hk J (tE BX FN hm hk);have gn:∀j∈dz st m,ir ns homes m j∈ni ns m (ns.length-1-i)->m9 ns homes st cs m i (fun _=>none) j=none:=fun j hj hw=>by
     refine ve fun z=>?_;have a1:=J.lo j hj z;have a2:=(Iu.hw j hj _ hk).mp ((tE BX FN hm hk).mem_iff.mp hw);lia
    have LO:m9 ns homes st cs m (i+1) (fun _=>none)=Zu ns homes st cs m (ns.length-1-i) (m9 ns homes st cs m i (fun _=>none)):=ew.symm;rw[LO];have M8:∀ {a:Addr} {o:HO},H3 a=some o->a≠D2->H4 a=some o:=fun e n=>k4 _ _ e (by simp[n]);refine⟨_,rfl,_,rfl,_,rfl,_,rfl,_,rfl,_,rfl,_,rfl,sr,ha,xa,D1,D2,ns,homes,st,cs,m,ns.length-1-i,_,oj,rfl,M8 (uh _ _ im) (n2 im),BX,FN,SN,BT,M8 (uh _ _ qt) (n2 qt),M8 (uh _ _ tR) (n2 tR),M8 P8 KN,g4,C4,hm,hk,gn,fun H5 IA k5 g5 Rl=>⟨⟨_,_,rfl⟩,k4.trans k5,IA,g5,Rl⟩⟩
   rintro σ H4 ⟨⟨u8,u9,rfl⟩,k4,oj,g4,C4⟩;have J:=JI.all Iu (g:=fun _=>none) (fun _ _=>rfl) ns.length (aW _);have M8:∀ {a:Addr} {o:HO},H3 a=some o->a≠D2->H4 a=some o:=fun e n=>k4 _ _ e (by simp[n]);have f14:=M8 P8 KN;have d4:=M8 d3 n02;have n10:D1≠D0:=fun z=>by rw[z,d1] at A_;cases A_
   refine⟨_,rfl,D1,rfl,⟨_,bh.of f14⟩,dU (K:=K) (a:=D1) (xs:=NV (dz st m)) (fun j σ H5=>(∃u9,σ=[some (.ref sr),some (.ref ha),some (.ref sa),some (.ref xa),some (.ref D0),some (.int (m:Int)),some (.ref D1),some (.ref D2),u8,u9])/\lE [D0] H4 H5/\H5 D0=some (.lst (dE st.length (ET ns homes st cs m j)))) ⟨⟨_,rfl⟩,.refl,by rw[IC];exact d4⟩ (fun j σ H5 _ z=>bh.of (z.2.1 _ _ f14 (by simp[n10]))) ?_ ?_⟩
   .rintro j x σ H5 hx ⟨⟨u9,rfl⟩,k5,d5⟩;have d7:(NV (dz st m))[j]?=some x:=hx;rw[bv] at d7;cases jg:(dz st m)[j]? with
    |none=>rw[jg] at d7;cases d7
    |some i=>
    rw[jg] at d7;obtain rfl:V.int (i:Int)=x:=bi d7;have hi:=cB jg;obtain⟨y,ey⟩:∃y,m9 ns homes st cs m ns.length (fun _=>none) i=some y:=by
     have:=J.hi i hi (by lia);cases e:yt (dz st m) (ir ns homes m) (iu cs) (fZ ns cs m) (LG ns m) ns.length ns.length (fun _=>none) i with
     |none=>exact absurd e this
     |some y=>exact⟨y,e⟩
    have el:=(Qd (ns:=ns) (homes:=homes) (cs:=cs) hi).trans ey;refine⟨_,rfl,_,rfl,D2,_,rfl,.inl ⟨_,.inl (i:Int),.inl (k5 _ _ g4 (by simp[bE n02])),rfl,(C4.some ey).symm⟩,_,rfl,_,rfl,D0,_,_,i,rfl,rfl,d5,gR (by rw[fh];exact iN hi),?_⟩;rw[og,ID jg el];exact⟨⟨_,rfl⟩,k5.upd (by simp),ag⟩
   .rintro σ H5 ⟨⟨u9,rfl⟩,k5,d5⟩;rw[aY,LU] at d5;refine⟨⟨_,_,_,_,_,rfl⟩,fun a o e JW=>?_,d5⟩;have e3:=s3 _ _ (s2 _ _ (k1 _ _ e JW));have nn:a≠D2:=fun z=>by
     have:=s2 _ _ (k1 _ _ e JW);rw[z,iA] at this;cases this
    exact k5 _ _ (M8 e3 nn) JW
  .rintro σ H1 ⟨⟨u5,u6,u7,u8,u9,rfl⟩,k1,d1⟩;rw[LV SN] at d1;refine⟨_,rfl,D0,_,rfl,.inl ⟨bh.of d1,fun r hr=>q r _ (fun c o e=>?_) ag⟩⟩;exact ao (o:=.tup (dE st.length (CZ ns homes st cs))) hr _ _ (up k1 _ _ e)
end
abbrev Bc:Stmt:=fV 64
theorem Qg{ns:List Nat}(B:Bx ns):2<=pr ns:=by
 have h1:=B.l1;have hs:=B.sd;have hp:=B.pos;cases ns with
 |nil=>exact absurd h1 (by decide)
 |cons n l=>
  have a:=(hs n bN).1;have b:=Hu (ns:=l) fun x hx=>hp x (bL _ hx);show 2<=n*pr l;exact aZ (show 2<=n*1 by lia) (oF n b)
theorem _root_.L2.nR.kE{lp:Pos}{q:Str}{p Pt:Addr}{H H':Hp}(t:nR lp q Pt H)(s:cz p H H')(hp:cN H p):nR lp q Pt H':=by
 obtain⟨a,b,e,_⟩:=hp;rcases t with z|⟨c,z,y⟩
 .exact .inl (s _ _ z (by rintro rfl;rw[z] at e;cases e))
 .exact .inr ⟨c,s _ _ z (by rintro rfl;rw[z] at e;cases e),s _ _ y (by rintro rfl;rw[y] at e;cases e)⟩
theorem _root_.L2.nR.sm{lp:Pos}{q:Str}{Pt:Addr}{H H':Hp}(t:nR lp q Pt H)(s:az H H'):nR lp q Pt H':=by
 rcases t with z|⟨c,z,y⟩
 .exact .inl (s _ _ z)
 .exact .inr ⟨c,s _ _ z,s _ _ y⟩
theorem ff.Zy{C:Addr}{H:Hp}{L:Addr->Prop}{p:Addr}{n:Nat}{ts:Ts}(N:ff C H L p n ts):ff C H (fun a=>L a/\H a≠none) p n ts:=by
 obtain⟨dx,tl,ol,ds,a,l1,l2,⟨b1,c1,d1,e1⟩,⟨b2,c2,d2,e2⟩,⟨l3,zs,f1,f2,f3,f4⟩⟩:=N.ob;have row:∀ {bs:List Addr} {r:Nat->List Nat} {l:Addr},(∀b∈bs,L b)->(bs.length=n/\∀h,h<n->H (bs.getD h 0)=some (.lst (NV (r h))))->∀b∈bs,L b/\H b≠none:=fun {bs r l} hL e b hb=>by
  refine⟨hL b hb,?_⟩;obtain⟨i,hi,rfl⟩:=oC.mp hb;have:=e.2 i (by rw[<-e.1];exact hi);rw[cg,cJ hi] at this;rw[show bs[i]=(some bs[i]).getD 0 from rfl,this];exact fun z=>nomatch z
 exact⟨N.pM,dx,tl,ol,ds,a,⟨l1,fg c1⟩,⟨l2,fg c2⟩,⟨b1,c1,row (l:=ol) d1 e1,e1⟩,⟨b2,c2,row (l:=ds) d2 e2,e2⟩,⟨l3,fg f1⟩,zs,f1,f2,fun z hz=>⟨f3 z hz,fg (f2 z hz)⟩,f4⟩
theorem dZ.Zy{C CB b:Addr}{H:Hp}{L:Addr->Prop}{ns:List Nat}(h:dZ C CB H L b ns):dZ C CB H (fun a=>L a/\H a≠none) b ns:=
 let ⟨dx,pn,sr,a,c,d⟩:=h.ob
 ⟨h.bx,dx,pn,sr,a,c.Zy,d⟩
theorem dZ.keep{C CB b:Addr}{H H':Hp}{L:Addr->Prop}{ns:List Nat}(h:dZ C CB H L b ns)(k:∀a o,H a=some o->(L a\/((∀xs,o≠.lst xs)/\∀ps,o≠.on ps))->H' a=some o):dZ C CB H' L b ns:=by
 obtain⟨dx,pn,sr,a,c,d⟩:=h.ob;obtain⟨_,_,_,_,g,_⟩:=c.ob;exact⟨h.bx,dx,pn,sr,k _ _ a (.inr ⟨fun _ z=>(nomatch z),fun _ z=>(nomatch z)⟩),c.keep (fun q o l e=>k _ _ e (.inl l)) (fun o e=>k _ _ e (.inr (by rw[g] at e;injection e with e;subst e;exact⟨fun _ z=>(nomatch z),fun _ z=>(nomatch z)⟩))),k _ _ d (.inr ⟨fun _ z=>(nomatch z),fun _ z=>(nomatch z)⟩)⟩
section
variable {P:Program} {w:World} {K:PySem.W.Frag} {mg:Str->Option Value} {base:Heap}
def EC(K:PySem.W.Frag)(H:Hp)(a:Addr)(xs:List V):Prop:=(∃o,H a=some (.mm o (.lst xs)))\/(∀H':Hp,bh K H' a xs)
theorem EC.seq{H:Hp}{a:Addr}{xs:List V}(h:EC K H a xs):bh K H a xs:=by
 rcases h with ⟨o,h⟩|h
 .exact .inl (.inr ⟨o,h⟩)
 .exact h H
theorem EC.mono{H H':Hp}{a:Addr}{xs:List V}(h:EC K H a xs)(e:∀o u,H a=some (.mm o u)->H' a=some (.mm o u)):EC K H' a xs:=by
 rcases h with ⟨o,h⟩|h
 .exact .inl ⟨o,e _ _ h⟩
 .exact .inr h
theorem EC.gQ{H H':Hp}{a p:Addr}{xs:List V}(h:EC K H a xs)(s:cz p H H')(hp:cN H p):EC K H' a xs:=by
 obtain⟨x,y,e,_⟩:=hp;exact h.mono fun o u z=>s _ _ z (by rintro rfl;rw[z] at e;cases e)
structure Kd where
 t:Addr
 bx:Addr
 ha:Addr
 sa:Addr
 ca:Addr
 tl:Addr
 ns:List Nat
 homes:List Nat
 st:List (Option Nat)
 cs:List (Option Nat)
 L:Addr->Prop
structure Kb(C CB:Addr)(H:Hp)(d:Kd):Prop where
 box:dZ C CB H d.L d.bx d.ns
 hh:H d.ha=some (.tup (NV d.homes))
 hs:H d.sa=some (.tup (d.st.map oV))
 hc:H d.ca=some (.tup (d.cs.map oV))
 sn:Sn d.ns d.homes d.st
 bt:HX d.ns d.homes d.st (d.cs.map oV)
 oc:∀a,d.L a->H a≠none
def Kc(C CB:Addr)(H:Hp)(d:Kd):Prop:=Kb C CB H d/\H d.tl=some (.tup (dE d.st.length (CZ d.ns d.homes d.st d.cs)))/\H d.t=some (.tup [.ref d.bx,.ref d.ha,.ref d.sa,.ref d.ca,.ref d.tl])
theorem Kb.keep{C CB:Addr}{H H':Hp}{d:Kd}(c:Kb C CB H d)(k:∀a o,H a=some o->(d.L a\/((∀xs,o≠.lst xs)/\∀ps,o≠.on ps))->H' a=some o):Kb C CB H' d:=by
 have kt:∀ {a:Addr} {xs:List V},H a=some (.tup xs)->H' a=some (.tup xs):=fun e=>k _ _ e (.inr ⟨fun _ z=>(nomatch z),fun _ z=>(nomatch z)⟩);refine⟨c.box.keep k,kt c.hh,kt c.hs,kt c.hc,c.sn,c.bt,fun a l=>?_⟩;cases e:H a with
 |none=>exact absurd e (c.oc a l)
 |some o=>rw[k a o e (.inl l)];exact fun z=>nomatch z
theorem Kc.keep{C CB:Addr}{H H':Hp}{d:Kd}(c:Kc C CB H d)(k:∀a o,H a=some o->(d.L a\/((∀xs,o≠.lst xs)/\∀ps,o≠.on ps))->H' a=some o):Kc C CB H' d:=by
 have kt:∀ {a:Addr} {xs:List V},H a=some (.tup xs)->H' a=some (.tup xs):=fun e=>k _ _ e (.inr ⟨fun _ z=>(nomatch z),fun _ z=>(nomatch z)⟩);exact⟨c.1.keep k,kt c.2.1,kt c.2.2⟩
theorem Kb.same{C CB:Addr}{H H':Hp}{d:Kd}(c:Kb C CB H d)(s:az H H'):Kb C CB H' d:=c.keep fun a o e _=>s a o e
theorem Kc.same{C CB:Addr}{H H':Hp}{d:Kd}(c:Kc C CB H d)(s:az H H'):Kc C CB H' d:=c.keep fun a o e _=>s a o e
theorem Kb.no{C CB p:Addr}{H:Hp}{d:Kd}(c:Kb C CB H d)(h:H p=none):¬ d.L p:=fun l=>c.oc p l h
theorem Kc.gQ{C CB p:Addr}{H H':Hp}{d:Kd}(c:Kc C CB H d)(s:cz p H H')(hp:cN H p)(nl:¬ d.L p):Kc C CB H' d:=c.keep fun a o e h=>s a o e fun z=>by
 subst z;rcases h with h|h
 .exact nl h
 .obtain⟨x,y,g,_⟩:=hp;rw[e] at g;injection g with g;exact h.1 _ g
theorem UP{X:Cx}{H:Hp}{o:Option Nat}:Wa X H 0 (oV o) (oV o):=by
 intro ae s σ A u v I hu rx ry;have h:=z7 (A:=A) (s:=s) rx ry (by cases o <;> rfl) (by cases o <;> rfl);rw[show vZ (oV o) (oV o)=true by cases o <;> simp[oV,vZ]] at h;exact h
theorem C5{X:Cx}{H:Hp}{n:Nat}{F:Gf}:∀i,i<(dE n F).length->i<(dE n F).length->Wa X H 0 ((dE n F).getD i .bA) ((dE n F).getD i .bA):=fun i h1 _=>by
 rw[fh] at h1;rw[cg,jF h1];exact UP
theorem ip:aA ["_law_script","_law_kept","_law_k","_law_pot_here","_law_sides_here","_law_box","_law_homes","_law_stand","_law_came","_law_told"] ["_law_script"] (am Bc):=⟨rfl,rfl,rfl,by decide +kernel,rfl,by decide +kernel,by decide +kernel⟩
def C6(K:PySem.W.Frag)(Pt:Addr):Sp:=fun vs H Q _=>∃ (a:Addr) (ns:List Int),vs=[.ref a]/\EC K H a (ns.map V.int)/\ns.length<=63/\nZ Pt H/\∀H',Q (.bl true) H'
theorem Qh{f C CB Pt fB:Addr}{fd fdB:FuncData}(F:eN K "law" "law" Bc f fd)(B:Bl mg)(TB:EV K mg CB)(MB:Mk K CB fB)(bB:i6 K fdB ["self","sides"] [])(GB:bj P w K mg base ba 11 fB fdB ["self","sides"] (Hq C CB Pt))(PT:cy P w K mg base ba 1 "_law_pot" ["_law_script","_law_k"] (HK K))(SI:cy P w K mg base ba 2 "_law_sides" ["_law_pot_here"] Pa)(BT:cy P w K mg base ba 5 "_law_berthed" ["_law_pot_here","_law_sides_here"] Pu)(LH:cy P w K mg base ba 11 "lane_hand" ["box","homes","stand","came"] (Iy K C CB))(HD:cy P w K mg base ba 6 "_law_handed" ["_law_sides_here","_law_homes","_law_stand","_law_came"] Qf):
  bj P w K mg base ba 13 f fd ["_law_script"] (C6 K Pt):=by
 refine F.ok ip (fun vs H Q E h=>?_) (fun dt A outer s H vs Q E hr h=>?_)
 .obtain⟨a,ns,rfl,_⟩:=h;rfl
 .obtain⟨a,M9,rfl,hS,Ap,tb,q⟩:=h;have h1:bQ 1 _:=hr.mono (by decide);have h2:bQ 2 _:=hr.mono (by decide);have h5:bQ 5 _:=hr.mono (by decide);have h6:bQ 6 _:=hr.mono (by decide);have h11:bQ 11 _:=hr.mono (by decide);refine⟨_,(ah (aO (i:=1) ip.nd rfl (Or.inl rfl) (dX af))
   (ah (bZ du rfl (ce rfl B.range (aa (aG (ut rfl) (by rfl) B.max PyProof.Rows.boot_max (aa aB (aa (aG (uv rfl) (by rfl) B.min PyProof.Rows.boot_min (aa (aG aJ (by rfl) B.len dS (aa (pv 0) af)) (aa aB af))) af))) af)) (au (i:=2) ip.nd rfl (Or.inl rfl))
    (ah (aO (i:=3) ip.nd rfl (Or.inl rfl) (aw PT h1 aF (aa (pv 0) (aa (pv 2) af))))
    (ah (aO (i:=4) ip.nd rfl (Or.inl rfl) (aw SI h2 aF (aa (pv 3) af)))
    (ah (aO (i:=5) ip.nd rfl (Or.inl rfl) (Bw MB GB hr rfl TB.XN bB .nil aF (aa (pv 4) af)))
    (ah (ic (aw BT h5 aF (aa (pv 3) (aa (pv 4) af))) (gw (n:=3) rfl (aR (au (i:=6) ip.nd rfl (Or.inl rfl)) (aR (au (i:=7) ip.nd rfl (Or.inl rfl)) (aR (au (i:=8) ip.nd rfl (Or.inl rfl)) eI)))))
    (ah (aO (i:=9) ip.nd rfl (Or.inl rfl) (aw LH h11 aF (aa (pv 5) (aa (pv 6) (aa (pv 7) (aa (pv 8) af))))))
    (ah (bW (PW.pt (xm (de (c_ (aG ij (by rfl) B.Ox qU (aa (pv 9) (aa (js (v:=.ty "tuple") rfl B.tup jI rfl) af))))) (rQ (aK (Cs (d:=0) hr.u) (pv 9) (aw HD h6 aF (aa (pv 4) (aa (pv 6) (aa (pv 7) (aa (pv 8) af))))) (be _))))) (ak (aI kD)) aN)
    (ak (bq (ig gY jH jG cL (pv 1) (aa (iS (aa (pv 5) (aa (pv 6) (aa (pv 7) (aa (pv 8) (aa (pv 9) af)))))) af)))))))))))
   (ah (bZ du rfl (bC (pv 1)) (gw (n:=5) rfl (aR (au (i:=5) ip.nd rfl (Or.inl rfl)) (aR (au (i:=6) ip.nd rfl (Or.inl rfl)) (aR (au (i:=7) ip.nd rfl (Or.inl rfl)) (aR (au (i:=8) ip.nd rfl (Or.inl rfl)) (aR (au (i:=9) ip.nd rfl (Or.inl rfl)) eI))))))
    (ak (bW (aK (Cs (d:=0) hr.u) (aw LH h11 aF (aa (pv 5) (aa (pv 6) (aa (pv 7) (aa (pv 8) af))))) (pv 9) (be _)) (ak (aI kD)) aN)))
   (ak (aI kD))))),?_⟩
  refine⟨by show 0<=sizeLine;decide,fun D0 UO=>?_⟩;have s0:=ao (o:=.lst []) UO;have Sh:EC K (upd H D0 (.lst [])) a (M9.map V.int):=hS.mono fun o u e=>s0 _ _ e;refine⟨_,rfl,a,_,rfl,.inl Sh.seq,_,4,rfl,2,_,rfl,_,rfl,?_⟩;obtain⟨j,hj,j1⟩:∃j:Int,(if (if (4:Int)<(((M9.map V.int).length:Nat):Int) then (4:Int) else (((M9.map V.int).length:Nat):Int)) > 2 then (if (4:Int)<(((M9.map V.int).length:Nat):Int) then (4:Int) else (((M9.map V.int).length:Nat):Int)) else 2)=j/\1<=j/\j<=4:=⟨_,rfl,by split <;> split <;> lia⟩
  rw[hj];refine⟨by lia,by lia,d8 (n:=j.toNat) (lo:=0) (fun k σ H2=>(∃x2 x3 x4 x5 x6 x7 x8 x9,σ=[some (.ref a),some (.ref D0),x2,x3,x4,x5,x6,x7,x8,x9])/\EC K H2 a (M9.map V.int)/\nZ Pt H2/\∃ds:List Kd,H2 D0=some (.lst (ds.map fun d=>V.ref d.t))/\ds.length<=k/\(∀d∈ds,Kc C CB H2 d)/\∀d∈ds,¬ d.L Pt/\¬ d.L D0) ⟨⟨_,_,_,_,_,_,_,_,rfl⟩,Sh,tb.sm s0,[],ag,aW _,fun d hd=>(nomatch hd),fun d hd=>(nomatch hd)⟩ ?_ ?_⟩
  .rintro k σ H2 hk ⟨⟨x2,x3,x4,x5,x6,x7,x8,x9,rfl⟩,S2,t2,ds,e2,dl,Wi,nt⟩;refine⟨_,rfl,_,rfl,a,M9,k,by rw[eU];rfl,S2.seq,by lia,fun p H3 s3 np p3=>?_⟩;have nlp:∀d∈ds,¬ d.L p:=fun d hd=>(Wi d hd).1.no np;refine⟨_,rfl,p,rfl,p3,fun sd ns H6 s6 p6 Rc BX=>?_⟩;have MZ:=BX.MZ;have pr2:=Qg BX;have S6:=(S2.mono fun o u e=>s3 _ _ e).gQ s6 p3;have t6:=(t2.sm s3).kE s6 p3;have n0p:D0≠p:=fun z=>by rw[<-z,e2] at np;cases np
   have e6:=s6 _ _ (s3 _ _ e2) n0p;have kd6:∀d∈ds,Kc C CB H6 d:=fun d hd=>((Wi d hd).same s3).gQ s6 p3 (nlp d hd);refine⟨_,rfl,fun bx dx nx Yb Yc=>?_⟩;have sN:az H6 (upd (upd H6 dx (.own bx)) bx (.ins CB dx [])):=(ao (o:=.own bx) Yb).trans (ao (D:=bx) (o:=.ins CB dx []) (by rw[al Yc.symm];exact nx));have gbx:(upd (upd H6 dx (.own bx)) bx (.ins CB dx [])) bx=some (.ins CB dx []):=ag;generalize upd (upd H6 dx (.own bx)) bx (.ins CB dx [])=HM at *;refine⟨bx,dx,sd,ns,rfl,gbx,sN _ _ Rc,BX,t6.sm sN,fun H8 BA t8 s8=>⟨rfl,?_⟩⟩;have tN:nZ Pt HM:=t6.sm sN;have kp:∀ {c o},H6 c=some o->(∀ps,o≠.on ps)->H8 c=some o:=fun {c o} e nt=>s8 _ _ (sN _ _ e) (aq e nx) (tN.not (sN _ _ e) nt);have S8:EC K H8 a (M9.map V.int):=S6.mono fun o u e=>kp e (by intro ps z;cases z);have p8:cN H8 p:=by
    obtain⟨u,v,e,r⟩:=p6;exact⟨u,v,kp e (by intro ps z;cases z),r⟩
   have nLp:¬ (HM p=none):=fun z=>(p6.same sN).full z;have Wj:=kp Rc (by intro ps z;cases z);have e8:=kp e6 (by intro ps z;cases z);have kd8:∀d∈ds,Kc C CB H8 d:=fun d hd=>(kd6 d hd).keep fun c o e h=>s8 _ _ (sN _ _ e) (aq e nx) (by
    rcases h with h|h
    .intro z;subst z;exact(nt d hd).1 h
    .exact tN.not (sN _ _ e) h.2)
   have e6':=e6;clear kp kd6 e6 S6 t6 s3 s6;have BO:=BA.Zy;have nM0:HM D0≠none:=fg (sN _ _ e6');have nMP:HM Pt≠none:=tN.full;refine⟨_,rfl,_,rfl,p,sd,ns,rfl,p8,Wj,BX,pr2,fun t ha sa ca homes st cm H9 s9 p9 ht qt pP Ua SN cl Zz=>⟨t,_,rfl,bz.of ht,rfl,_,_,rfl,_,_,rfl,_,_,rfl,rfl,?_⟩⟩;have K9:Kb C CB H9 ⟨0,bx,ha,sa,ca,0,ns,homes,st,cm,fun a=>HM a=none/\H8 a≠none⟩:=by
    refine⟨BO.keep fun c o e h=>s9 _ _ e fun z=>?_,qt,pP,Ua,SN,Zz,fun c l=>?_⟩
    .subst z;rcases h with h|h
     .exact nLp h.1
     .obtain⟨x,y,g,_⟩:=p8;rw[e] at g;injection g with g;exact h.1 _ g
    .cases e:H8 c with
     |none=>exact absurd e l.2
     |some o=>rw[s9 _ _ e (fun z=>nLp (z ▸ l.1))];exact fun z=>nomatch z
   have kd9:∀d∈ds,Kc C CB H9 d:=fun d hd=>(kd8 d hd).gQ s9 p8 (nlp d hd);have e9:=s9 _ _ e8 n0p;have S9:=S8.gQ s9 p8;have t9:=t8.kE s9 p8;have hd9:=s9 _ _ Wj (p8.neT Wj);clear S8 t8 kd8 e8 Wj BA BO p8 s8 s9;refine⟨_,rfl,_,rfl,_,rfl,_,rfl,_,bx,ha,sa,ca,ns,homes,st,cm,rfl,K9.box,qt,pP,Ua,SN,Zz,fun tl HA sA ZA=>?_⟩;have KA:=K9.same sA;obtain⟨_,_,_,_,NN,_⟩:=id KA.box.ob;have FN:=NN.pM;refine⟨_,rfl,.ref tl,_,_,.type "tuple",true,rfl,⟨rfl,wu⟩,.of (.tup ZA),true,rfl,eX ?_⟩;refine⟨_,rfl,_,rfl,_,rfl,_,rfl,_,rfl,sd,ha,sa,ca,ns,homes,st,cm,rfl,sA _ _ hd9,BX,FN,SN,Zz,KA.hh,KA.hs,KA.hc,fun rl HB sB hrl=>⟨tl,rl,_,_,rfl,rfl,bz.of (sB _ _ ZA),bz.of hrl,rfl,C5,_,rfl,gP rfl ?_⟩⟩;have sAB:=sA.trans sB;have eB:=sAB _ _ e9;refine⟨_,rfl,.inl ⟨rfl,_,bh.of eB⟩,_,rfl,_,rfl,_,rfl,_,rfl,_,rfl,by show 5<=sizeLine;decide,fun t5 h5=>?_⟩;have s5:=ao (o:=.tup [.ref bx,.ref ha,.ref sa,.ref ca,.ref tl]) h5;have sC:=sAB.trans s5;have n05:D0≠t5:=fun z=>by rw[<-z,eB] at h5;cases h5
   refine⟨D0,_,_,rfl,rfl,s5 _ _ eB,by rw[aV];exact dN (show ds.length<=4 by lia) (by decide),?_⟩;have KC:=KA.same (sB.trans s5);have g5:(upd HB t5 (.tup [.ref bx,.ref ha,.ref sa,.ref ca,.ref tl])) t5=some (.tup [.ref bx,.ref ha,.ref sa,.ref ca,.ref tl]):=ag;have eC:=s5 _ _ eB;have hl5:=s5 _ _ (sB _ _ ZA);generalize upd HB t5 (.tup [.ref bx,.ref ha,.ref sa,.ref ca,.ref tl])=HC at *;have up:∀ {a:Addr} {o:HO},H9 a=some o->a≠D0->upd HC D0 (.lst ((ds.map fun d=>V.ref d.t)++[.ref t5])) a=some o:=fun e n=>by rw[al n];exact sC _ _ e
   refine⟨⟨_,_,_,_,_,_,_,_,rfl⟩,S9.mono fun o u e=>up e (bG e e9 (fun z=>nomatch z)),?_,ds++[⟨t5,bx,ha,sa,ca,tl,ns,homes,st,cm,fun a=>HM a=none/\H8 a≠none⟩],by rw[ag,dR];rfl,by rw[dF];exact zk dl,fun d hd=>?_,fun d hd=>?_⟩
   .rcases t9 with z|⟨c,z,y⟩
    .exact .inl (up z (bG z e9 (fun z=>nomatch z)))
    .exact .inr ⟨c,up z (bG z e9 (fun z=>nomatch z)),up y (bG y e9 (fun z=>nomatch z))⟩
   .have ku:∀ {a:Addr} {o:HO},HC a=some o->(d.L a\/((∀xs,o≠.lst xs)/\∀ps,o≠.on ps))->¬ d.L D0->upd HC D0 (.lst ((ds.map fun d=>V.ref d.t)++[.ref t5])) a=some o:=fun {a o} e h n=>by
     have:a≠D0:=fun z=>by
      subst z;rcases h with h|h
      .exact n h
      .rw[eC] at e;injection e with e;exact h.1 _ e.symm
     rw[al this];exact e
    rcases cR.mp hd with hd|hd
    .exact((kd9 d hd).same sC).keep fun a o e h=>ku e h (nt d hd).2
    .obtain rfl:=cI.mp hd;have K2:Kc C CB HC ⟨t5,bx,ha,sa,ca,tl,ns,homes,st,cm,fun a=>HM a=none/\H8 a≠none⟩:=⟨⟨KC.box,KC.hh,KC.hs,KC.hc,KC.sn,KC.bt,KC.oc⟩,hl5,g5⟩
     exact K2.keep fun a o e h=>ku e h fun z=>nM0 z.1
   .rcases cR.mp hd with hd|hd
    .exact nt d hd
    .obtain rfl:=cI.mp hd;exact⟨fun z=>nMP z.1,fun z=>nM0 z.1⟩
  .rintro σ H2 ⟨⟨x2,x3,x4,x5,x6,x7,x8,x9,rfl⟩,S2,t2,ds,e2,dl,Wi,nt⟩;refine⟨_,rfl,D0,rfl,⟨_,bh.of e2⟩,dU (K:=K) (a:=D0) (xs:=ds.map fun d=>V.ref d.t) (fun i σ H3=>(∃x3 x4 x5 x6 x7 x8 x9,σ=[some (.ref a),some (.ref D0),x2,x3,x4,x5,x6,x7,x8,x9])/\az H2 H3) ⟨⟨_,_,_,_,_,_,_,rfl⟩,az.refl _⟩ (fun i σ H3 _ z=>bh.of (z.2 _ _ e2)) ?_ (fun σ H3 _=>q H3)⟩;rintro i x σ H3 hx ⟨⟨x3,x4,x5,x6,x7,x8,x9,rfl⟩,s3⟩;rw[bv] at hx;obtain⟨d,hd,rfl⟩:=qY.mp hx;have k3:=(Wi d (cB hd)).same s3;refine⟨d.t,_,rfl,bz.of k3.2.2,rfl,_,_,rfl,_,_,rfl,_,_,rfl,_,_,rfl,_,_,rfl,rfl,?_⟩;refine⟨_,rfl,_,rfl,_,rfl,_,rfl,d.L,d.bx,d.ha,d.sa,d.ca,d.ns,d.homes,d.st,d.cs,rfl,k3.1.box,k3.1.hh,k3.1.hs,k3.1.hc,k3.1.sn,k3.1.bt,fun tl H4 s4 ht=>?_⟩;exact⟨_,rfl,tl,d.tl,_,_,rfl,rfl,bz.of ht,bz.of (s4 _ _ k3.2.1),rfl,C5,_,rfl,gP rfl ⟨⟨_,_,_,_,_,_,_,rfl⟩,s3.trans s4⟩⟩
end
def FD(K:PySem.W.Frag)(n:Str)(st:Stmt):Prop:=∃ (f:Addr) (oc:Value) (od an:Option Addr) (sl:Array (Option Value)) (kV dc pm cd ct:Value),PySem.W.nsIn K mainGlobals n=some (some (.ref f))/\K.lookup f=some ⟨oc,od,.func (PySem.W.fnOf n n (cZ st) (cu st) (am st) .none kV dc pm an cd ct),sl⟩/\PySem.W.codeIn K cd n=true/\PySem.W.keepIn K (.ref f)=true
def FC(K:PySem.W.Frag)(n:Str)(st:Stmt)(c:Addr):Prop:=∃ (f:Addr) (oc:Value) (od an:Option Addr) (sl:Array (Option Value)) (kV dc pm ct:Value),PySem.W.nsIn K mainGlobals n=some (some (.ref f))/\K.lookup f=some ⟨oc,od,.func (PySem.W.fnOf n n (cZ st) (cu st) (am st) .none kV dc pm an (.ref c) ct),sl⟩/\PySem.W.codeIn K (.ref c) n=true/\PySem.W.keepIn K (.ref f)=true
def MD(K:PySem.W.Frag)(C:Addr)(n q:Str)(st:Stmt):Prop:=∃ (f:Addr) (oc:Value) (od an:Option Addr) (sl:Array (Option Value)) (kV dc pm cd ct:Value),PySem.W.findIn K (.ref C) n=some (some (.ref f))/\PySem.W.isFn K (.ref f)=true/\K.lookup f=some ⟨oc,od,.func (PySem.W.fnOf n q (cZ st) (cu st) (am st) .none kV dc pm an cd ct),sl⟩/\PySem.W.codeIn K cd q=true/\PySem.W.keepIn K (.ref f)=true
def MC(K:PySem.W.Frag)(C:Addr)(n q:Str)(st:Stmt)(c:Addr):Prop:=∃ (f:Addr) (oc:Value) (od an:Option Addr) (sl:Array (Option Value)) (kV dc pm ct:Value),PySem.W.findIn K (.ref C) n=some (some (.ref f))/\PySem.W.isFn K (.ref f)=true/\K.lookup f=some ⟨oc,od,.func (PySem.W.fnOf n q (cZ st) (cu st) (am st) .none kV dc pm an (.ref c) ct),sl⟩/\PySem.W.codeIn K (.ref c) q=true/\PySem.W.keepIn K (.ref f)=true
section
variable {P:Program} {w:World} {K:PySem.W.Frag} {mg:Str->Option Value} {base h:Heap} {n q:Str} {st:Stmt} {f c C:Addr} {oc kV dc pm cd ct:Value} {od an:Option Addr} {sl:Array (Option Value)} {CX:xf} {k:Nat} {ps:List Str} {sp:Sp}
theorem FD.mk(a:PySem.W.nsIn K mainGlobals n=some (some (.ref f)))(l:K.lookup f=some ⟨oc,od,.func (PySem.W.fnOf n n (cZ st) (cu st) (am st) .none kV dc pm an cd ct),sl⟩)(d:PySem.W.codeIn K cd n=true)(k:PySem.W.keepIn K (.ref f)=true):FD K n st:=⟨f,oc,od,an,sl,kV,dc,pm,cd,ct,a,l,d,k⟩
theorem FC.mk(a:PySem.W.nsIn K mainGlobals n=some (some (.ref f)))(l:K.lookup f=some ⟨oc,od,.func (PySem.W.fnOf n n (cZ st) (cu st) (am st) .none kV dc pm an (.ref c) ct),sl⟩)(d:PySem.W.codeIn K (.ref c) n=true)(k:PySem.W.keepIn K (.ref f)=true):FC K n st c:=⟨f,oc,od,an,sl,kV,dc,pm,ct,a,l,d,k⟩
theorem MD.mk(a:PySem.W.findIn K (.ref C) n=some (some (.ref f)))(i:PySem.W.isFn K (.ref f)=true)(l:K.lookup f=some ⟨oc,od,.func (PySem.W.fnOf n q (cZ st) (cu st) (am st) .none kV dc pm an cd ct),sl⟩)(d:PySem.W.codeIn K cd q=true)(k:PySem.W.keepIn K (.ref f)=true):MD K C n q st:=⟨f,oc,od,an,sl,kV,dc,pm,cd,ct,a,i,l,d,k⟩
theorem MC.mk(a:PySem.W.findIn K (.ref C) n=some (some (.ref f)))(i:PySem.W.isFn K (.ref f)=true)(l:K.lookup f=some ⟨oc,od,.func (PySem.W.fnOf n q (cZ st) (cu st) (am st) .none kV dc pm an (.ref c) ct),sl⟩)(d:PySem.W.codeIn K (.ref c) q=true)(k:PySem.W.keepIn K (.ref f)=true):MC K C n q st c:=⟨f,oc,od,an,sl,kV,dc,pm,ct,a,i,l,d,k⟩
def BD(n q:Str)(st:Stmt)(ps:List Str):Prop:=∀ (kV m_ pm:Value) (an:Option Addr) (dt ct:Value) (us:List Value),us.length=ps.length->bindArgs (PySem.W.fnOf n q (cZ st) (cu st) (am st) .none kV m_ pm an dt ct) ⟨us,[]⟩=pure (ps.zip us)
theorem FD.gg(X:K.In h)(G:h.Ns mainGlobals mg)(D:FD K n st)(b:BD n n st ps)(o:∀ {f fd},eN K n n st f fd->bj P w K mg base CX k f fd ps sp):cy P w K mg base CX k n ps sp:=by
 obtain⟨f,_,_,_,_,_,_,_,_,_,a,l,d,kp⟩:=D;have F:=r0 (x:=n) (qual:=n) (st:=st) l d kp;exact⟨⟨f,_,hV X G a,kp,F.binds b,o F⟩⟩
theorem FC.gg(X:K.In h)(G:h.Ns mainGlobals mg)(D:FC K n st c)(b:BD n n st ps)(o:∀ {f fd},Aq K n n st f fd c->bj P w K mg base CX k f fd ps sp):cy P w K mg base CX k n ps sp:=by
 obtain⟨f,_,_,_,_,_,_,_,_,a,l,d,kp⟩:=D;have F:=J9 (x:=n) (qual:=n) (st:=st) l d kp;exact⟨⟨f,_,hV X G a,kp,F.fun.binds b,o F⟩⟩
theorem MD.gg(D:MD K C n q st)(b:BD n q st ps)(o:∀ {f fd},eN K n q st f fd->bj P w K mg base CX k f fd ps sp):fk P w K mg base CX k C n ps sp:=by
 obtain⟨f,_,_,_,_,_,_,_,_,_,a,i,l,d,kp⟩:=D;have F:=r0 (x:=n) (qual:=q) (st:=st) l d kp;exact⟨⟨f,_,⟨a,i,kp⟩,F.binds b,o F⟩⟩
end
theorem jV{α:Type}{P:List α->Prop}(h:∀a0,P [a0])(l:List α)(e:l.length=1):P l:=by
 cases l with
 |nil=>cases e
 |cons a t=>cases t with
  |nil=>exact h a
  |cons b t=>cases e
theorem fj{α:Type}{P:List α->Prop}(h:∀a0 a1,P [a0,a1])(l:List α)(e:l.length=2):P l:=by
 cases l with
 |nil=>cases e
 |cons a t=>exact jV (P:=fun t=>P (a::t)) (h a) t (km e)
theorem jf{α:Type}{P:List α->Prop}(h:∀a0 a1 a2,P [a0,a1,a2])(l:List α)(e:l.length=3):P l:=by
 cases l with
 |nil=>cases e
 |cons a t=>exact fj (P:=fun t=>P (a::t)) (h a) t (km e)
theorem om{α:Type}{P:List α->Prop}(h:∀a0 a1 a2 a3,P [a0,a1,a2,a3])(l:List α)(e:l.length=4):P l:=by
 cases l with
 |nil=>cases e
 |cons a t=>exact jf (P:=fun t=>P (a::t)) (h a) t (km e)
theorem M_{α:Type}{P:List α->Prop}(h:∀a0 a1 a2 a3 a4,P [a0,a1,a2,a3,a4])(l:List α)(e:l.length=5):P l:=by
 cases l with
 |nil=>cases e
 |cons a t=>exact om (P:=fun t=>P (a::t)) (h a) t (km e)
theorem IF{α:Type}{P:List α->Prop}(h:∀a0 a1 a2 a3 a4 a5,P [a0,a1,a2,a3,a4,a5])(l:List α)(e:l.length=6):P l:=by
 cases l with
 |nil=>cases e
 |cons a t=>exact M_ (P:=fun t=>P (a::t)) (h a) t (km e)
theorem UQ{α:Type}{P:List α->Prop}(h:∀a0 a1 a2 a3 a4 a5 a6,P [a0,a1,a2,a3,a4,a5,a6])(l:List α)(e:l.length=7):P l:=by
 cases l with
 |nil=>cases e
 |cons a t=>exact IF (P:=fun t=>P (a::t)) (h a) t (km e)
theorem Qi{l:PySem.W.OpenLaw}{w:World}{K:PySem.W.Frag}{h:Heap}{mg:Str->Option Value}{fa:Addr}(X:K.In h)(G:h.Ns mainGlobals mg)(hfa:mg "law"=some (.ref fa)){C cO Pt qg lF fL wZ b_:Addr}{qx uj qy w4 qz tG:Tok}(aC:PySem.W.nsIn K mainGlobals "Net"=some (some (.ref C)))(Na:PySem.W.nsIn K mainGlobals "BeatError"=some (some (.ref qg)))(ED:PySem.W.nsIn K mainGlobals "NoShape"=some (some (.ref lF)))(EE:PySem.W.nsIn K mainGlobals "NoHouse"=some (some (.ref fL)))(LX:PySem.W.nsIn K mainGlobals "NoTie"=some (some (.ref wZ)))(UR:PySem.W.nsIn K mainGlobals "Box"=some (some (.ref b_)))(LY:FD K "is_whole" AE)(IG:FD K "is_whole_within" wr)(LZ:FD K "is_house" AF)(US:FD K "is_row" Ow)(UT:FD K "are_unlike_houses" OE)(UU:FD K "is_tie" OC)(L3:FD K "check_ties" AH)(UV:FD K "check_balance" OD)(Qj:FC K "houses_out" xY cO)(Qk:FD K "distances_from" G6)(L4:FD K "check_reached" AI)(Ql:FD K "product" Hb)(IH:FD K "pairs_net" wE)(II:FD K "check_sides" wF)(IJ:FD K "box_pairs" wG)(Qm:FD K "box_net" Ha)(ZB:FD K "are_tied" Yg)(UX:FD K "_law_pot" O8)(ZC:FD K "_law_draw" Yl)(ZD:FD K "_law_sides" Yn)(ZE:FD K "_law_many" Yo)(ZF:FD K "_law_place" Yp)(ZG:FD K "_law_step" Yq)(ZH:FD K "_law_ties" Ys)(ZI:FD K "_law_phase" Yt)(ZJ:FD K "came_by_at" YA)(ZK:FD K "is_berth" Yz)(ZL:FD K "is_berthed" Yy)(ZM:FD K "under_way" Y6)(UY:FD K "take_wished" Y1)(ZN:FD K "keep_to_lane" Y2)(ZO:FD K "hand_from" Y7)(ZP:FD K "check_berthed" YB)(ZQ:FD K "lane_hand" YC)(ZR:FD K "_law_wish" Yu)(ZS:FD K "_law_first" Zr)(ZT:FD K "_law_way_sorted" Zt)(ZU:FD K "_law_handed" Zx)(ZV:FD K "_law_lane_ties" YG)(ZW:FD K "_law_houses" YH)(ZX:FD K "_law_berthed" YJ)(UZ:FD K "law" Bc)(Qn:MD K C "__init__" "Net.__init__" Cn)(L5:MD K C "check_house" "Net.check_house" AG)(U0:MD K C "out" "Net.out" OA)(Qo:MD K C "many" "Net.many" GV)(pg:PySem.W.plainGet K C Str.empty=true)(ZY:PySem.W.hasDictIn K C=true)(po:PySem.W.plainOver K C=true)(sa:PySem.W.findIn K (.ref C) "__setattr__"=some (some (.builtin "object.__setattr__")))(mk:PySem.W.makesIn K C=true)(kc:PySem.W.keepIn K (.ref C)=true)(nH:PySem.W.findIn K (.ref C) "house_count"=some none)(nT:PySem.W.findIn K (.ref C) "tie_list"=some none)(nO:PySem.W.findIn K (.ref C) "out_lists"=some none)(nD:PySem.W.findIn K (.ref C) "distances"=some none)(w6:PySem.W.nsIn K mainGlobals "isinstance"=some none)(U1:PySem.W.nsIn K mainGlobals "int"=some none)(Qp:PySem.W.nsIn K mainGlobals "bool"=some none)(L6:PySem.W.nsIn K mainGlobals "tuple"=some none)(Qq:PySem.W.nsIn K mainGlobals "list"=some none)(U2:PySem.W.nsIn K mainGlobals "str"=some none)(U3:PySem.W.nsIn K mainGlobals "set"=some none)(U4:PySem.W.nsIn K mainGlobals "len"=some none)(L7:PySem.W.nsIn K mainGlobals "range"=some none)(IK:PySem.W.nsIn K mainGlobals "sorted"=some none)(U5:PySem.W.nsIn K mainGlobals "any"=some none)(U6:PySem.W.nsIn K mainGlobals "max"=some none)(U7:PySem.W.nsIn K mainGlobals "min"=some none)(w_:PySem.W.nsIn K mainGlobals "ValueError"=some none)(U8:PySem.W.nsIn K mainGlobals "all"=some none)(U9:PySem.W.nsIn K mainGlobals "abs"=some none)(IL:PySem.W.nsIn K mainGlobals "divmod"=some none)(Qr:PySem.W.nsIn K mainGlobals "dict"=some none)(U_:PySem.W.nsIn K mainGlobals "zip"=some none)(Qs:PySem.W.nsIn K mainGlobals "repr"=some none)(yy:PySem.W.nsIn K mainGlobals "enumerate"=some none)(Bd:PySem.W.nsIn K mainGlobals "reversed"=some none)(qA:PySem.W.nsIn K mainGlobals "FEWEST_HOUSES"=some (some (.int 2 qx)))(lW:PySem.W.nsIn K mainGlobals "MOST_HOUSES"=some (some (.int 32 uj)))(qB:PySem.W.nsIn K mainGlobals "MOST_TIES_OUT"=some (some (.int 8 qy)))(xb:PySem.W.nsIn K mainGlobals "MOST_SIDES"=some (some (.int 5 w4)))(qC:PySem.W.nsIn K mainGlobals "SHORTEST_SIDE"=some (some (.int 2 qz)))(tI:PySem.W.nsIn K mainGlobals "LONGEST_SIDE"=some (some (.int 8 tG)))(Nb:ql K qg)(EF:ql K lF)(EG:ql K fL)(L8:ql K wZ)(ZZ:PySem.W.plainGet K b_ Str.empty=true)(Z0:PySem.W.hasDictIn K b_=true)(Z1:PySem.W.plainOver K b_=true)(Z2:PySem.W.findIn K (.ref b_) "__setattr__"=some (some (.builtin "object.__setattr__")))(Z3:PySem.W.makesIn K b_=true)(Z4:PySem.W.keepIn K (.ref b_)=true)(Z5:PySem.W.findIn K (.ref b_) "tied_net"=some none)(Z6:PySem.W.findIn K (.ref b_) "side_row"=some none)(Qt:MD K b_ "__init__" "Box.__init__" Ld)(Z7:MD K b_ "place" "Box.place" OS)(Z8:MD K b_ "tied" "Box.tied" Yx)(Z9:MD K b_ "way" "Box.way" OU)(Z_:MD K b_ "phase" "Box.phase" OV)(aaa:MD K b_ "sides" "Box.sides" Y5)(aab:MD K b_ "house" "Box.house" OT)(aac:MD K b_ "wish" "Box.wish" OW)(Qu:PySem.W.codeHdIn K cO Pt=true):
  ∃fd:FuncData,(∀ (s:Shared) (v:Value),BindsTo s fd ⟨[v],[]⟩ [("_law_script",v)])/\∀base:Heap,K.In base->base.Ns mainGlobals mg->wc mg base->bj l.prog w K mg base ba 13 fa fd ["_law_script"] (C6 K Pt):=by
 obtain⟨aa1,oc,od,an,sl,kV,dc,pm,cd,ct,Va,Vb,Vc,Vd⟩:=UZ;have e:=hfa.symm.trans (hV X G Va);cases e;have Ve:=r0 (x:="law") (qual:="law") (st:=Bc) Vb Vc Vd;obtain⟨f_i,oci,odi,ani,sli,kVi,dci,pmi,cdi,cti,a_i,i_i,l_i,d_i,k_i⟩:=Qn;have yz:=r0 (x:="__init__") (qual:="Net.__init__") (st:=Cn) l_i d_i k_i;have IM:=yz.binds (ps:=["self","many","ties"]) fun _ _ _ _ _ _=>jf fun _ _ _=>rfl;have MK:Mk K C f_i:=⟨mk,a_i,i_i,kc⟩
 have B:Bl mg:=⟨ee X G w6,ee X G U1,ee X G Qp,ee X G L6,ee X G Qq,ee X G U2,ee X G U3,ee X G U4,ee X G L7,ee X G IK,ee X G U5,ee X G U6,ee X G U7,ee X G w_,ee X G U8⟩
 have T:NT K mg C:=⟨⟨pg,ZY,po,sa⟩,nH,nT,nO,nD,hV X G aC⟩
 have B2:Bl2 mg:=⟨ee X G U9,ee X G IL,ee X G Qr,ee X G U_,ee X G Qs⟩
 have TB:EV K mg b_:=⟨⟨ZZ,Z0,Z1,Z2⟩,Z5,Z6,hV X G UR⟩
 obtain⟨Vf,oc9,od9,an9,sl9,kV9,dc9,pm9,cd9,ct9,aad,aae,aaf,aag,aah⟩:=Qt;have Vg:=r0 (x:="__init__") (qual:="Box.__init__") (st:=Ld) aaf aag aah;have aai:=Vg.binds (ps:=["self","sides"]) fun _ _ _ _ _ _=>fj fun _ _=>rfl;have MB:Mk K b_ Vf:=⟨Z3,aad,aae,Z4⟩
 refine⟨PySem.W.fnOf "law" "law" (cZ Bc) (cu Bc) (am Bc) .none kV dc pm an cd ct,fun s v=>.of_eq rfl,fun base kb nb hb=>?_⟩;have C7:cy l.prog w K mg base ba 1 "is_whole" ["thing"] (qN K):=FD.gg X G LY (fun _ _ _ _ _ _=>jV fun _=>rfl) fun L9=>GK L9 B;have tJ:cy l.prog w K mg base ba 2 "is_whole_within" ["thing","least","most"] (kW K):=FD.gg X G IG (fun _ _ _ _ _ _=>jf fun _ _ _=>rfl) fun IN=>D8 IN C7;have qT:cy l.prog w K mg base ba 3 "is_house" ["many","thing"] (lu K):=FD.gg X G LZ (fun _ _ _ _ _ _=>fj fun _ _=>rfl) fun L_=>GQ L_ tJ;have C8:cy l.prog w K mg base ba 1 "is_row" ["thing","length"] (uQ K):=FD.gg X G US (fun _ _ _ _ _ _=>fj fun _ _=>rfl) fun Vh=>Oy Vh B;have Vi:cy l.prog w K mg base ba 4 "are_unlike_houses" ["many","one","other"] GX:=FD.gg X G UT (fun _ _ _ _ _ _=>jf fun _ _ _=>rfl) fun Vj=>OF Vj qT;have Vk:cy l.prog w K mg base ba 5 "is_tie" ["many","thing"] GZ:=FD.gg X G UU (fun _ _ _ _ _ _=>fj fun _ _=>rfl) fun Vl=>OG Vl C8 Vi;have Ma:cy l.prog w K mg base ba 6 "check_ties" ["many","ties"] lw:=FD.gg X G L3 (fun _ _ _ _ _ _=>fj fun _ _=>rfl) fun Mb=>G0 Mb B ⟨_,hV X G qA⟩ ⟨_,hV X G lW⟩ tJ Vk;have Vm:cy l.prog w K mg base ba 1 "check_balance" ["many","ties"] lw:=FD.gg X G UV (fun _ _ _ _ _ _=>fj fun _ _=>rfl) fun Vn=>OH Vn B ⟨_,hV X G qB⟩;have Qv:cy l.prog w K mg base ba 1 "houses_out" ["many","ties","house"] (wB Pt):=FC.gg X G Qj (fun _ _ _ _ _ _=>jf fun _ _ _=>rfl) fun Qw=>KZ Qw B kb hb Qu;have Qx:cy l.prog w K mg base ba 1 "distances_from" ["out_lists","start"] wC:=FD.gg X G Qk (fun _ _ _ _ _ _=>fj fun _ _=>rfl) fun Qy=>K0 Qy B;have Mc:cy l.prog w K mg base ba 1 "check_reached" ["distances"] wD:=FD.gg X G L4 (fun _ _ _ _ _ _=>jV fun _=>rfl) fun Md=>G8 Md B;have Qz:bj l.prog w K mg base ba 7 f_i _ ["self","many","ties"] (AK C Pt):=K6 yz T B Ma Vm Qv Qx Mc;have C9:fk l.prog w K mg base (iy l.prog w) 4 C "check_house" ["self","thing"] (qP K C fL):=MD.gg L5 (fun _ _ _ _ _ _=>fj fun _ _=>rfl) fun EH=>GW EH T ⟨hV X G EE,EG⟩ qT;have Nc:fk l.prog w K mg base (iy l.prog w) 5 C "out" ["self","house"] (Cp K C fL KR):=MD.gg U0 (fun _ _ _ _ _ _=>fj fun _ _=>rfl) fun Me=>OB Me T B C9;have QA:fk l.prog w K mg base ba 1 C "many" ["self"] (AM C):=MD.gg Qo (fun _ _ _ _ _ _=>jV fun _=>rfl) fun IP=>K8 IP T;have Be:cy l.prog w K mg base ba 1 "product" ["numbers"] (sP K):=FD.gg X G Ql (fun _ _ _ _ _ _=>jV fun _=>rfl) fun QB=>K_ QB;have IQ:cy l.prog w K mg base ba 9 "pairs_net" ["many","pairs"] (sO C Pt):=FD.gg X G IH (fun _ _ _ _ _ _=>fj fun _ _=>rfl) fun IR=>Ed IR B T MK IM Qz C8;have IS:cy l.prog w K mg base (iy l.prog w) 3 "check_sides" ["sides"] (sR K lF):=FD.gg X G II (fun _ _ _ _ _ _=>jV fun _=>rfl) fun IT=>Ee IT B ⟨hV X G ED,EF⟩ ⟨_,hV X G xb⟩ ⟨_,hV X G qC⟩ ⟨_,hV X G tI⟩ ⟨_,hV X G lW⟩ tJ Be;have IU:cy l.prog w K mg base ba 2 "box_pairs" ["sides"] sS:=FD.gg X G IJ (fun _ _ _ _ _ _=>jV fun _=>rfl) fun IW=>Ef IW B Be;have QC:cy l.prog w K mg base (iy l.prog w) 10 "box_net" ["sides"] (AQ K C Pt lF):=FD.gg X G Qm (fun _ _ _ _ _ _=>jV fun _=>rfl) fun QD=>La QD IS IQ Be IU;have aaj:cy l.prog w K mg base ba 6 "are_tied" ["net","one","other"] (O2 K C):=FD.gg X G ZB (fun _ _ _ _ _ _=>jf fun _ _ _=>rfl) fun aak=>TH aak T qT QA Nc;have aal:bj l.prog w K mg base ba 11 Vf _ ["self","sides"] (Hq C b_ Pt):=OX Vg B TB QC;have Nd:fk l.prog w K mg base (iy l.prog w) 5 b_ "place" ["self","house"] (CA K C b_ fL):=MD.gg Z7 (fun _ _ _ _ _ _=>fj fun _ _=>rfl) fun F=>OY F B T TB C9;have Vo:fk l.prog w K mg base ba 1 b_ "sides" ["self"] (P1 C b_):=MD.gg aaa (fun _ _ _ _ _ _=>jV fun _=>rfl) fun F=>UC F TB;have Vp:fk l.prog w K mg base ba 4 b_ "house" ["self","place"] (Hv C b_):=MD.gg aab (fun _ _ _ _ _ _=>fj fun _ _=>rfl) fun F=>OZ F B B2.zip TB C8 qT;have Nf:fk l.prog w K mg base ba 6 b_ "tied" ["self","house"] (Lr C b_):=MD.gg Z8 (fun _ _ _ _ _ _=>fj fun _ _=>rfl) fun F=>T9 F T TB Nc;have IX:fk l.prog w K mg base (iy l.prog w) 6 b_ "phase" ["self","house","home"] (ya K C b_ fL):=MD.gg Z_ (fun _ _ _ _ _ _=>jf fun _ _ _=>rfl) fun F=>O4 F B TB Nd;have Ng:fk l.prog w K mg base (iy l.prog w) 7 b_ "way" ["self","one","other"] (yb K C b_ wZ):=MD.gg Z9 (fun _ _ _ _ _ _=>jf fun _ _ _=>rfl) fun F=>O6 F TB ⟨hV X G LX,L8⟩ aaj IX;have Vq:fk l.prog w K mg base (iy l.prog w) 7 b_ "wish" ["self","house","home"] (CD K C b_ fL):=MD.gg aac (fun _ _ _ _ _ _=>jf fun _ _ _=>rfl) fun F=>O7 F B TB IX Nd Vp;have aam:cy l.prog w K mg base ba 1 "came_by_at" ["stand","came","house"] Pe:=FD.gg X G ZJ (fun _ _ _ _ _ _=>jf fun _ _ _=>rfl) fun aan=>T_ aan B;have aao:cy l.prog w K mg base ba 8 "is_berth" ["box","homes","stand","came","letter"] (Pf K C b_):=FD.gg X G ZK (fun _ _ _ _ _ _=>M_ fun _ _ _ _ _=>rfl) fun aap=>Uc aap TB C7 Nf Ng IX aam;have aaq:cy l.prog w K mg base ba 9 "is_berthed" ["box","homes","stand","came"] (Pj K C b_):=FD.gg X G ZL (fun _ _ _ _ _ _=>om fun _ _ _ _=>rfl) fun aar=>Ue aar B C8 aao;have aas:cy l.prog w K mg base ba 1 "under_way" ["stand"] P3:=FD.gg X G ZM (fun _ _ _ _ _ _=>jV fun _=>rfl) fun aat=>UD aat (ee X G yy);have Vr:cy l.prog w K mg base ba 1 "take_wished" ["wishes","letters","free","goes"] PU:=FD.gg X G UY (fun _ _ _ _ _ _=>om fun _ _ _ _=>rfl) fun Vs=>Ux Vs B;have aau:cy l.prog w K mg base ba 1 "keep_to_lane" ["came","letters","free","goes"] PV:=FD.gg X G ZN (fun _ _ _ _ _ _=>om fun _ _ _ _=>rfl) fun aav=>Uz aav B;have aaw:cy l.prog w K mg base ba 8 "hand_from" ["box","homes","stand","came","house","goes"] (P6 C b_):=FD.gg X G ZO (fun _ _ _ _ _ _=>IF fun _ _ _ _ _ _=>rfl) fun aax=>UE aax B (ee X G Bd) TB Nf Ng Vq Vo Vr aau;have aay:cy l.prog w K mg base ba 10 "check_berthed" ["box","homes","stand","came"] (Ib K C b_):=FD.gg X G ZP (fun _ _ _ _ _ _=>om fun _ _ _ _=>rfl) fun aaz=>Pw aaz aaq;have aaA:cy l.prog w K mg base ba 11 "lane_hand" ["box","homes","stand","came"] (Iy K C b_):=FD.gg X G ZQ (fun _ _ _ _ _ _=>om fun _ _ _ _=>rfl) fun aaB=>P_ aaB B aay aas aaw;have Vt:cy l.prog w K mg base ba 1 "_law_pot" ["_law_script","_law_k"] (HK K):=FD.gg X G UX (fun _ _ _ _ _ _=>fj fun _ _=>rfl) fun Vu=>O_ Vu B;have QE:cy l.prog w K mg base ba 1 "_law_draw" ["_law_pot_here","_law_many_here"] Ej:=FD.gg X G ZC (fun _ _ _ _ _ _=>fj fun _ _=>rfl) fun aaC=>TQ aaC B2;have aaD:cy l.prog w K mg base ba 2 "_law_sides" ["_law_pot_here"] Pa:=FD.gg X G ZD (fun _ _ _ _ _ _=>jV fun _=>rfl) fun aaE=>TR aaE B QE;have QF:cy l.prog w K mg base ba 1 "_law_many" ["_law_sides_here"] Ek:=FD.gg X G ZE (fun _ _ _ _ _ _=>jV fun _=>rfl) fun aaF=>TU aaF;have QG:cy l.prog w K mg base ba 1 "_law_place" ["_law_sides_here","_law_house"] AW:=FD.gg X G ZF (fun _ _ _ _ _ _=>fj fun _ _=>rfl) fun aaG=>TV aaG;have Vv:cy l.prog w K mg base ba 2 "_law_step" ["_law_sides_here","_law_house","_law_k","_law_by"] Li:=FD.gg X G ZG (fun _ _ _ _ _ _=>om fun _ _ _ _=>rfl) fun aaH=>TY aaH QG QF;have Vw:cy l.prog w K mg base ba 3 "_law_ties" ["_law_sides_here","_law_house","_law_k"] Ll:=FD.gg X G ZH (fun _ _ _ _ _ _=>jf fun _ _ _=>rfl) fun aaI=>TZ aaI Vv;have Vx:cy l.prog w K mg base ba 2 "_law_phase" ["_law_sides_here","_law_house","_law_home"] Lm:=FD.gg X G ZI (fun _ _ _ _ _ _=>jf fun _ _ _=>rfl) fun aaJ=>T5 aaJ B QG;have aaK:cy l.prog w K mg base ba 3 "_law_wish" ["_law_sides_here","_law_house","_law_home"] Pc:=FD.gg X G ZR (fun _ _ _ _ _ _=>jf fun _ _ _=>rfl) fun aaL=>T7 aaL QG Vv Vx;have aaM:cy l.prog w K mg base ba 4 "_law_lane_ties" ["_law_sides_here","_law_house","_law_home","_law_used"] Po:=FD.gg X G ZV (fun _ _ _ _ _ _=>om fun _ _ _ _=>rfl) fun aaN=>Uf aaN B Vx Vw;have aaO:cy l.prog w K mg base ba 2 "_law_houses" ["_law_pot_here","_law_many_here"] Pq:=FD.gg X G ZW (fun _ _ _ _ _ _=>fj fun _ _=>rfl) fun aaP=>Ug aaP B QE;have aaQ:cy l.prog w K mg base ba 5 "_law_berthed" ["_law_pot_here","_law_sides_here"] Pu:=FD.gg X G ZX (fun _ _ _ _ _ _=>fj fun _ _=>rfl) fun aaR=>Uj aaR B QF QE aaO aaM;have aaS:cy l.prog w K mg base ba 4 "_law_first" ["_law_sides_here","_law_homes","_law_house","_law_some","_law_goes","_law_tie"] LR:=FD.gg X G ZS (fun _ _ _ _ _ _=>IF fun _ _ _ _ _ _=>rfl) fun aaT=>UK aaT aaK;have aaU:cy l.prog w K mg base ba 5 "_law_way_sorted" ["_law_sides_here","_law_homes","_law_came","_law_house","_law_here","_law_k","_law_goes"] Qb:=FD.gg X G ZT (fun _ _ _ _ _ _=>UQ fun _ _ _ _ _ _ _=>rfl) fun aaV=>UM aaV Vw aaS;have aaW:cy l.prog w K mg base ba 6 "_law_handed" ["_law_sides_here","_law_homes","_law_stand","_law_came"] Qf:=FD.gg X G ZU (fun _ _ _ _ _ _=>om fun _ _ _ _=>rfl) fun aaX=>UN aaX B QF aaU;exact Qh Ve B TB MB aai aal Vt aaD aaQ aaA aaW
theorem Vy(h:((List.range 2000).any fun c=>PySem.W.codeHdIn K c P)=true):∃c,PySem.W.codeHdIn K c P=true:=
 let ⟨c,_,e⟩:=vB.mp h;⟨c,e⟩
theorem QH(hO:B1 ts H)(h:bh K H a xs):EC K H a xs:=by
 rcases h with h|h
 .rcases h with h|⟨o,h⟩
  .rcases hO.2 a with z|⟨_,z⟩|⟨o,ys,z⟩ <;> · rw[h] at z;cases z
  .exact .inl ⟨o,h⟩
 .exact .inr fun H'=>.inr h
theorem walk{l:PySem.W.OpenLaw}{q:Program}{uB:List Str}{XP:(Str->Option Value)->Heap->Prop}{YP:World->Heap->Prop}{d:DefRec}{K:Params->PySem.W.Frag}{Pt:Addr}(hn:l.most=some 63)(R5:d.params.defaults=[])(hY:∀ (w:World) (h:Heap),YP w h->(K w.params).In h)(hT:∀ (w:World) (h:Heap),YP w h->∀P∈[Pt],h.get? P=some (PySem.W.tabObj #[]))(aaY:∀ (w:World),((List.range 2000).any fun c=>PySem.W.codeHdIn (K w.params) c Pt)=true)(aaZ:∀ (w:World),(K w.params).lookup Pt=none)(F:∀ (w:World) (mg:Str->Option Value) (fa:Addr) (h:Heap),(K w.params).In h->h.Ns mainGlobals mg->mg d.name=some (.ref fa)->
   ∃fd:FuncData,(∀ (s:Shared) (u:Value),BindsTo s fd ⟨[u],[]⟩ [("_law_script",u)])/\∀base:Heap,(K w.params).In base->base.Ns mainGlobals mg->wc mg base->bj l.prog w (K w.params) mg base ba 13 fa fd ["_law_script"] (C6 (K w.params) Pt)):
  PySem.W.WalkO q uB XP YP l.row.toRowW d [] (fun f vs=>PySem.call f vs):=
 Gh (n:=63) (k:=13) (x:="_law_script") (ts:=[Pt]) (K:=K) (CX:=fun _=>ba) (sp:=fun w=>(C6 (K w.params) Pt)) hn (by decide) R5 ⟨rfl,by decide,by decide,rfl⟩ hY hT
  (fun w P=>fun e=>by rw[cI.mp e];exact Vy (aaY w)) (fun w P=>fun e=>by rw[cI.mp e];exact aaZ w) F
  (fun w H a ns hl hO hS=>⟨a,ns,rfl,QH hO hS,hl,.inl (hO.1 _ (by simp)),fun _=>rfl⟩) fun _ _ _ _ _ z=>z
end ue
open PySem PySem.W PyProof.Rows
namespace PySem.W.Fast
def tw14518066695295577063:=trivial
def tw11181964880289274257:=trivial
def tw13492347725975969369:=trivial
def tw13568362485456424982:=trivial
def tw15596899051889895156:=trivial
def tw7170032813293532565:=trivial
def tw10744033232884262515:=trivial
def tw5974389151008064105:=trivial
def tw2423630780507852632:=trivial
def tw9417257149815783660:=trivial
def tw16942977865707705183:=trivial
def tw5476962415123971744:=trivial
def tw8274328999530137380:=trivial
def tw5204113229826199448:=trivial
def tw4037131474688476342:=trivial
def tw3351803858578390989:=trivial
def tw6556197206776433758:=trivial
def tw15950810731263623863:=trivial
def tw10768282403708229861:=trivial
def tw6446108289111358990:=trivial
def tw15523863037727884713:=trivial
def tw12774242293142553972:=trivial
def tw13126635781442533732:=trivial
def tw287134813915309175:=trivial
def tw4256083573457635144:=trivial
def tw1579013648355897237:=trivial
def tw9866226369093009570:=trivial
def tw8239586971946696392:=trivial
def tw10183573687388451733:=trivial
def tw17283417523939470276:=trivial
def tw15092110559233003295:=trivial
def tw15756928155290215495:=trivial
def tw11716498401312316293:=trivial
def tw12554121131268137891:=trivial
def tw11141422978112976092:=trivial
def tw18293623378792307941:=trivial
def tw6300951207037461429:=trivial
def tw5406408786829642422:=trivial
def tw15195584703776868446:=trivial
def tw15891248400705375395:=trivial
def tw3565613740958941295:=trivial
def tw16706351963634596649:=trivial
def tw13102967534713275140:=trivial
def tw12942448334358654999:=trivial
def tw15133631561277239766:=trivial
def tw17943366646388846181:=trivial
def tw16070016262493963157:=trivial
def tw14701324685252527312:=trivial
def tw11921678914932264679:=trivial
def tw12440107310840978442:=trivial
def tw10539425932040393226:=trivial
def tw5422116353766220422:=trivial
def tw11646621214530916510:=trivial
def tw5782033288429748601:=trivial
def tw13239845140240311344:=trivial
def tw2393324515201536640:=trivial
def tw10091994460334190389:=trivial
def tw2917747445662723368:=trivial
def tw3178537472200997474:=trivial
def tw5897893250746808746:=trivial
def tw5993915182608783809:=trivial
def tw5177983687838782244:=trivial
def tw15534840021089561568:=trivial
def tw1150993986751429607:=trivial
def tw14314699265529852288:=trivial
def tw4368654705637207814:=trivial
def tw1918605200626528524:=trivial
def tw4669975843383842413:=trivial
def tw3874090307036612592:=trivial
def tw6694941531567787904:=trivial
def tw7361239279817332852:=trivial
def tw15101219926503393913:=trivial
def tw10238954957620490971:=trivial
def tw8820329775809791900:=trivial
def tw1956793302452408351:=trivial
def tw10619608233476090616:=trivial
def tw17803426670779799817:=trivial
def tw4759702008531280433:=trivial
def tw9021227452807309166:=trivial
def tw16750741089094489348:=trivial
def tw12612276053375500965:=trivial
def tw11413956637483110419:=trivial
def tw6177663973194883594:=trivial
def tw11749319666657573607:=trivial
def tw2544166922135173417:=trivial
def tw18165274907017030055:=trivial
def tw13605351608394647504:=trivial
def tw17366108977095001322:=trivial
def tw16070639370480205118:=trivial
def tw10649087022785329477:=trivial
def tw9290494321968554255:=trivial
def tw2055183021262135044:=trivial
def tw13422666339692758904:=trivial
def tw15945834420565274654:=trivial
def tw18199932060284868294:=trivial
def tw8054544520412790635:=trivial
def tw489073681882297209:=trivial
def tw12558652158001325382:=trivial
def tw17618848962662543184:=trivial
def tw14985478004814478743:=trivial
def tw14951335889323688286:=trivial
def tw18333459630162265360:=trivial
def tw11082393012100404766:=trivial
def tw15033593004224953411:=trivial
def tw7962938049257651659:=trivial
def tw7487495065600329912:=trivial
def tw16375109915234814467:=trivial
def tw767795932867428390:=trivial
def tw14570475780901578092:=trivial
def tw11583846209294129157:=trivial
def tw3898484345932634996:=trivial
def tw3367510090248649772:=trivial
def tw3639585746336430808:=trivial
def tw1113227314298885928:=trivial
def tw4508686700716929401:=trivial
def tw7825217260563140174:=trivial
def tw11415363271639084557:=trivial
def tw9196875623686626014:=trivial
def tw9767701598499803428:=trivial
def tw14776443230868664951:=trivial
def tw15480428956098375904:=trivial
def tw4104928071246419077:=trivial
def tw8529544729605132273:=trivial
def tw6988581489013879470:=trivial
def tw8658443686845867206:=trivial
def tw9268950535731402377:=trivial
def tw10829661267528713869:=trivial
def tw10475021679763479069:=trivial
def tw17171868978714804599:=trivial
def tw13021095417877564933:=trivial
def tw6379995935807658463:=trivial
def tw8898620326608355859:=trivial
def tw7793651688333380498:=trivial
def tw17653498822695296237:=trivial
def tw13826355037483091967:=trivial
def tw11075728730786858359:=trivial
def tw10549697440225571613:=trivial
def tw8013578721854109627:=trivial
def tw13895595873566391362:=trivial
def tw11436757078530982495:=trivial
def tw9070560349082483032:=trivial
def tw5958963107520953727:=trivial
def tw15318635964192508703:=trivial
def tw2371376376068235714:=trivial
def tw14781764032193657581:=trivial
def tw2813669427422012889:=trivial
def tw9785489491762261823:=trivial
def tw11372953520528610281:=trivial
def tw9848850363187604333:=trivial
def tw16883828178415357700:=trivial
def tw15137437989597692370:=trivial
def tw17024731692810585111:=trivial
def tw4606954376390227934:=trivial
def tw6392941924315497807:=trivial
def tw2992502692237561589:=trivial
def tw10663119058528283353:=trivial
def tw2024387135390908830:=trivial
def tw6750001365160889666:=trivial
def tw10959827707604005082:=trivial
def tw4641994894396658560:=trivial
def tw14044155374305152699:=trivial
def tw3124792424064967756:=trivial
def tw10608715309086447146:=trivial
def tw2645046702285091998:=trivial
def tw12992459498581533106:=trivial
def tw9554030425679370054:=trivial
def tw310039444305516325:=trivial
def tw17260195104208167218:=trivial
def tw13907091619920743441:=trivial
def tw12635255325999776781:=trivial
def tw1171438106765672592:=trivial
def tw9230219619482522937:=trivial
def tw15612406372107497349:=trivial
def tw13508094186965140593:=trivial
def tw1099436383747857958:=trivial
def tw3186707432594614544:=trivial
def tw11151373117873712978:=trivial
def tw11106112570286953078:=trivial
def tw14894003379522878374:=trivial
def tw10763692214704253518:=trivial
def tw8551623974857753708:=trivial
def tw3486340349557563511:=trivial
def tw16283937962549682467:=trivial
def tw114282102211496705:=trivial
def tw13806435381876357740:=trivial
def tw13426956739739541951:=trivial
def tw1831132214029842981:=trivial
def tw13333720357686841476:=trivial
def tw7568361513950115390:=trivial
def tw17856718218720768721:=trivial
def tw4135418233440593857:=trivial
def tw6712183426156106090:=trivial
def tw8644795108811425473:=trivial
def tw12660494800471056177:=trivial
def tw3492439757731453410:=trivial
def tw794602949589162113:=trivial
def tw18376457000581823344:=trivial
def tw15745796182433859059:=trivial
def tw9386219913229904792:=trivial
def tw18063459090223239283:=trivial
def tw10510561917828074923:=trivial
def tw1535627884059578444:=trivial
def tw4482191805751965913:=trivial
def tw18345202612608217601:=trivial
def tw12952962697899435184:=trivial
def tw10168166530744057328:=trivial
def tw7816679761864743843:=trivial
def tw10795973105135448319:=trivial
def tw1446761116756149035:=trivial
def tw8476611051299737105:=trivial
def tw16254274803498054596:=trivial
def tw6804478043706151791:=trivial
def tw6338034388190847017:=trivial
def tw16234048493460906997:=trivial
def tw11843780026347202:=trivial
def tw9363053820259301623:=trivial
def tw10712720052113082580:=trivial
def tw15235279322722382364:=trivial
def tw1425638448467167820:=trivial
def tw6976517513441219345:=trivial
def tw4642639290853677509:=trivial
def tw17860319113990996852:=trivial
def tw340527567930967096:=trivial
def tw5382748148869946451:=trivial
def tw15495209979480219738:=trivial
def tw1731767568475732054:=trivial
def tw11598549316506956433:=trivial
def tw15708165154238996033:=trivial
def tw14127264098029805377:=trivial
def tw12737823910466356452:=trivial
def tw11455873634079222622:=trivial
def tw10671178531845463388:=trivial
def tw18225295746405038437:=trivial
def tw15530394851696980227:=trivial
def tw12985698136134798683:=trivial
def tw15223418055750641950:=trivial
def tw5887288268940875454:=trivial
def tw5068764860963951213:=trivial
def tw12378869939669137378:=trivial
def tw10350083910037758822:=trivial
def tw16659233762095357256:=trivial
def tw4260317811855712628:=trivial
def tw5043573397696817270:=trivial
def tw6683275863080674923:=trivial
def tw5214083227213730444:=trivial
def tw16460144427755346794:=trivial
def tw2548199670325481052:=trivial
def tw16127675830719159283:=trivial
def tw11077499158260481950:=trivial
def tw6915375961191157917:=trivial
def tw15093076612506996403:=trivial
def tw10669494560564733904:=trivial
def tw11349022607938544955:=trivial
def tw604082247773330760:=trivial
def tw1407949719702444729:=trivial
def tw10410196046784112837:=trivial
def tw2513909922460405272:=trivial
def tw5295145727074176414:=trivial
def tw33623422430029790:=trivial
def tw17966363435167658129:=trivial
def tw5438157028310410570:=trivial
def tw2653827890109578562:=trivial
def tw6339581850246010680:=trivial
def tw11680070462471875661:=trivial
def tw6165469080774731203:=trivial
def tw1494718532493598563:=trivial
def tw11479396507924045946:=trivial
def tw14770840001345856009:=trivial
def tw4033530895158659361:=trivial
def tw1561007645087169705:=trivial
def tw15199810758413725161:=trivial
def tw2777203275184057822:=trivial
def tw11389629029248711140:=trivial
def tw9877718031567339492:=trivial
def tw19362150844402312:=trivial
def tw3284585736529262737:=trivial
def tw12853298618816638200:=trivial
def tw12481920813278648419:=trivial
def tw13232173400013948109:=trivial
def tw3813054733613234872:=trivial
def tw4454107708961037435:=trivial
def tw516344023615517956:=trivial
def tw7153375124592742539:=trivial
def tw2810112061949075741:=trivial
def tw13252076899398782995:=trivial
def tw922097265097690497:=trivial
def tw14532569843019244676:=trivial
def tw14809193070500877991:=trivial
def tw5973604669076642350:=trivial
def tw11945469537407742585:=trivial
def tw3480248825672020207:=trivial
def tw8772065152378882269:=trivial
def tw14769218873355543920:=trivial
def tw8365104634824722726:=trivial
def tw3907769310312268416:=trivial
def tw17854681502280918241:=trivial
def tw7616875441552967237:=trivial
def tw3519555465606878835:=trivial
def tw4589708690888837876:=trivial
def tw13819799253887109896:=trivial
def tw13168617093144740233:=trivial
def tw18126556508483755441:=trivial
def tw18413758317787108511:=trivial
def tw196327216376966947:=trivial
def tw8996756983376732314:=trivial
def tw1535736370959319058:=trivial
def tw350833257586781830:=trivial
def tw10379886195215173123:=trivial
def tw15802944782510125503:=trivial
def tw13018223101007794672:=trivial
def tw2753792360580099182:=trivial
def tw7271769384026236528:=trivial
def tw911085156355108392:=trivial
def tw5813464254005281313:=trivial
def tw3404569378519455601:=trivial
def tw7108921765427404508:=trivial
def tw14027836871803498394:=trivial
def tw14246161010925924373:=trivial
def tw16074265087600252071:=trivial
def tw6491302855886753987:=trivial
def tw6467647123607615230:=trivial
def tw3350202187108195459:=trivial
def tw7178202257002478713:=trivial
def tw16368262300463825550:=trivial
def tw18336054616068956782:=trivial
def tw13969220883606198369:=trivial
def tw15826710141121935510:=trivial
def tw16322356532577813266:=trivial
def tw7258212874646398711:=trivial
def tw1458387136837752265:=trivial
def tw6714082860768127141:=trivial
def tw14589820401590614837:=trivial
def tw8914653673686822450:=trivial
def tw6754878914634247825:=trivial
def tw16547986557781878684:=trivial
def tw7650892812022623976:=trivial
def tw10769140469888288603:=trivial
def tw16433468311547021591:=trivial
def tw7794632061355298864:=trivial
def tw11002242239583504258:=trivial
def tw7738818643628025710:=trivial
def tw363964692009707818:=trivial
def tw13097290917290147461:=trivial
def tw16506049999720419824:=trivial
def tw8709371613045981886:=trivial
def tw4537713943554714328:=trivial
def tw16870482062644992329:=trivial
def tw1036676653156506844:=trivial
def tw14387157073479351989:=trivial
def tw8481254496286503589:=trivial
def tw9174489737248860008:=trivial
def tw8058955786656731021:=trivial
def tw1213287883934520516:=trivial
def tw5769301592481761716:=trivial
def tw4221356337556745840:=trivial
def tw4600046936489625309:=trivial
def tw9844633003318266742:=trivial
def tw15737761526225343008:=trivial
def tw12828187675157915989:=trivial
def tw9331016077073130121:=trivial
def tw11999030906887356519:=trivial
def tw4822263129358899047:=trivial
def tw9044614695789997573:=trivial
def tw8720856292067883240:=trivial
def tw15619940878292741328:=trivial
def tw7959041364140096653:=trivial
def tw17361642972853710195:=trivial
def tw13035503470559755310:=trivial
def tw3457639081503311470:=trivial
def tw6394190849369841981:=trivial
def tw15425865205107928128:=trivial
def tw8392417794489274600:=trivial
def tw18032284097639378059:=trivial
def tw16604914125508712445:=trivial
def tw5620923844950422034:=trivial
def tw7260266854901016786:=trivial
def tw17229758745118101508:=trivial
def tw9252572106844057033:=trivial
def tw4530129716372480435:=trivial
def tw10555363935298055737:=trivial
def tw6215987195501688212:=trivial
def tw8802214772349038034:=trivial
def tw16622124840439539183:=trivial
def tw3067892404879420224:=trivial
def tw12594927032331385632:=trivial
def tw5071800226792228056:=trivial
def tw9729460352183444232:=trivial
def tw1580214318661799530:=trivial
def tw879552068273691716:=trivial
def tw2556560045271601723:=trivial
def tw15214279667347644218:=trivial
def tw8505951342128946341:=trivial
def tw9368986418013353033:=trivial
def tw6975367461111822918:=trivial
def tw12198005928919863857:=trivial
def tw5631794451328798221:=trivial
def tw16547602140672775317:=trivial
def tw17174784334924690058:=trivial
def tw11585612977804448762:=trivial
def tw11057013641579541960:=trivial
def tw2549772017107550834:=trivial
def tw354136870885145155:=trivial
def tw11021621587449356287:=trivial
def tw6991433383678884515:=trivial
def tw17127791869065287997:=trivial
def tw2376095978736077825:=trivial
def tw14649513119242995400:=trivial
def tw6807246892957509099:=trivial
def tw17381763470492589000:=trivial
def tw4199278023034295863:=trivial
def tw2646668797019545851:=trivial
def tw1180017324475423757:=trivial
def tw17240457668859073408:=trivial
def tw15695911221240227128:=trivial
def tw17571962058254401808:=trivial
def tw2465787309759984515:=trivial
def tw13516422091257709616:=trivial
def tw5756865741570978075:=trivial
def tw7102861715528254984:=trivial
def tw8464324117337761860:=trivial
def tw11318395026637994215:=trivial
def tw10492527029731855600:=trivial
def tw8426877654630861550:=trivial
def tw6775279084914363030:=trivial
def tw11844368280287839702:=trivial
def tw14573125804476314676:=trivial
def tw11386117020010929117:=trivial
def tw4883891024022833931:=trivial
def tw12466997621740828499:=trivial
def tw2964209291688572230:=trivial
def tw6757843391980765520:=trivial
def tw10866259626646452415:=trivial
def tw8355112818148036530:=trivial
def tw614091417593307760:=trivial
def tw5169318328913099478:=trivial
def tw210137081672494373:=trivial
def tw17808651920398726054:=trivial
def tw16285690200007556230:=trivial
def tw11051821676002167915:=trivial
def tw14416294866850695157:=trivial
def tw2275962699913165032:=trivial
def tw18433663039700114731:=trivial
def tw6986700741314997753:=trivial
def tw8607614964486136544:=trivial
def tw10083072296885292831:=trivial
def tw16297722867582420053:=trivial
def tw14476214884783875459:=trivial
def tw2175686054280218029:=trivial
def tw13258726819883945549:=trivial
def tw7214622823658125060:=trivial
def tw7385439230320403701:=trivial
def tw10248906926616235169:=trivial
def tw6802238679468943125:=trivial
def tw10307421972761941665:=trivial
def tw3523483862629269020:=trivial
def tw8180581109075055072:=trivial
def tw13016691083810048821:=trivial
def tw11281010557117416056:=trivial
def tw15792064616960137975:=trivial
def tw8325453055544511455:=trivial
def tw3752848625155594168:=trivial
def tw8567411765751896743:=trivial
def tw12137909313205100006:=trivial
def tw9595406309254231025:=trivial
def tw14877533051002663251:=trivial
def tw16123615840031979801:=trivial
def tw8218386435617995259:=trivial
def tw7040203645564981118:=trivial
def tw7720029242473243879:=trivial
def tw11855797191539574497:=trivial
def tw1259898634983670233:=trivial
def tw14268817565012870159:=trivial
def tw13703073577996646245:=trivial
def tw15341417501828773483:=trivial
def tw5440452319613591277:=trivial
def tw8136700882343089424:=trivial
def tw11627718628098644496:=trivial
def tw15966015765117236584:=trivial
def tw10528477038629500510:=trivial
def tw5428662451699491314:=trivial
def tw13332172967605529605:=trivial
end PySem.W.Fast
set_option maxRecDepth 100000 in
set_option maxHeartbeats 0 in
theorem PySem.Challenge.cw_neverwait_k45_lanes_hand_on_holds : PySem.Challenge.rw_neverwait_k45_lanes_hand_on.Holds := by
 w_on; o_law; k_head; (case hw=>w_witness2)
 k_fill
 refine ue.walk (l:=PySem.Challenge.rw_neverwait_k45_lanes_hand_on) (Pt:=_) rfl rfl (fun w h Y=>PySem.W.km_in_of Y) (fun w h Y=>PySem.W.km_tabs_of Y) ?cd0 ?kt0 ?F;case F =>
  intro w mg fa h KX G R6;refine' ue.Qi (Pt:=_) KX G R6 ?_ ?_ ?_ ?_ ?_ ?_ ?_ ?_ ?_ ?_ ?_ ?_ ?_ ?_ ?_ ?_ ?_ ?_ ?_ ?_ ?_ ?_ ?_ ?_ ?_ ?_ ?_ ?_ ?_ ?_ ?_ ?_ ?_ ?_ ?_ ?_ ?_ ?_ ?_ ?_ ?_ ?_ ?_ ?_ ?_ ?_ ?_ ?_ ?_ ?_ ?_ ?_ ?_ ?_ ?_ ?_ ?_ ?_ ?_ ?_ ?_ ?_ ?_ ?_ ?_ ?_ ?_ ?_ ?_ ?_ ?_ ?_ ?_ ?_ ?_ ?_ ?_ ?_ ?_ ?_ ?_ ?_ ?_ ?_ ?_ ?_ ?_ ?_ ?_ ?_ ?_ ?_ ?_ ?_ ?_ ?_ ?_ ?_ ?_ ?_ ?_ ?_ ?_ ?_ ?_ ?_ ?_ ?_ ?_ ?_ ?_;all_goals first
   | (refine' ue.FD.mk ?a ?l ?d ?k; (case a=>k_is); (case l=>k_is); (case d=>k_is); (case k=>k_is))
   | (refine' ue.FC.mk ?a ?l ?d ?k; (case a=>k_is); (case l=>k_is); (case d=>k_is); (case k=>k_is))
   | (refine' ue.MD.mk ?a ?i ?l ?d ?k; (case a=>k_is); (case i=>k_is); (case l=>k_is); (case d=>k_is); (case k=>k_is))
   | (refine' ue.MC.mk ?a ?i ?l ?d ?k; (case a=>k_is); (case i=>k_is); (case l=>k_is); (case d=>k_is); (case k=>k_is))
   | k_is
   | kernel_rfl
   | decide
   | exact ⟨by kernel_rfl,by k_is,by k_is,by k_is,by k_is,by k_is,by k_is,by kernel_rfl⟩
   | skip
 case kt0=>intro w; kernel_rfl
 case cd0=>intro w; kernel_rfl
