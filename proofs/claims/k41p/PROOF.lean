import PyProof.Rows.All
import Wide.All
import OpenK.AllK
import Wide.FinOn
import Lean
import PyProof.EqAt
import PyProof.EqKinds
import PyProof.TupleCall
import PySem.Challenge.RW_neverwait_k41_places
set_option Elab.async false
set_option linter.all false
set_option maxRecDepth 100000
set_option maxHeartbeats 8000000
def ap:=@PySem.wpAny_bind
def bC:=@PySem.Heap.get?_push_of_some
def aZ:=@List.length_map
def b8:=@List.mem_cons_of_mem
def cV:=@List.getElem?_eq_getElem
def ci:=@List.mem_cons_self
def a9:=@Nat.le_refl
def dY:=@List.getD_eq_getElem?_getD
def aq:=@if_pos
def au:=@if_neg
def bi:=@List.getElem?_map
def aQ:=@PySem.Heap.lt_size
def aA:=@PyProof.Rows.wpS_bind
def bz:=@Nat.lt_of_lt_of_le
def aT:=@Nat.ne_of_lt
def cL:=@List.getElem?_eq_some_iff
def aY:=@Nat.le_trans
def dG:=@PyProof.Rows.boot_isinstance
def bt:=@Option.some.inj
def bg:=@List.mem_cons
def aG:=@PyProof.Rows.wpS_pure
def cC:=@PySem.Heap.get?_push_size
def cq:=@Bool.false_ne_true
def cD:=@List.length_append
def bJ:=@decide_eq_true
def cr:=@Nat.lt_succ_of_lt
def cs:=@List.size_toArray
def cT:=@List.mem_of_getElem?
def cf:=@List.mem_append
def bu:=@List.mem_map
def cW:=@PySem.W.mg_none_of
def cX:=@List.mem_singleton
def cM:=@List.length_cons
def du:=@Nat.lt_of_le_of_lt
def cg:=@PySem.W.mg_of
def dH:=@of_decide_eq_true
def gN:=@List.getElem?_append_left
def cF:=@getElem?_pos
def d0:=@PySem.Heap.get?_push_ne
def dI:=@List.map_append
def eL:=@List.take_add_one
def dv:=@List.mem_range
def iM:=@List.getElem?_append_right
def eM:=@List.getElem_mem
def eN:=@List.filter_cons
def d6:=@decide_eq_false
def f8:=@Array.length_toList
def cN:=@Nat.zero_le
def gO:=@List.mem_append_left
def jN:=@Array.perm_iff_toList_perm
def d8:=@PySem.PassesOwn.never
def fj:=@List.lookup_cons
def iA:=@List.mem_append_right
def gQ:=@PySem.mem_of_lookup
def d9:=@PySem.boot_len
def fz:=@List.take_length
def fA:=@List.length_take
def f9:=@List.pairwise_map
def fk:=@List.mem_filter
def cY:=@PySem.wpAny_field
def iN:=@List.length_filter_le
def fD:=@PySem.Heap.size_update
def fE:=@List.append_nil
def kO:=@PySem.F.type_list_append
def kP:=@PySem.F.slot_list_append
def jO:=@Array.getElem?_toList
def kQ:=@PySem.F.plainAttrs_list
def gR:=@Nat.lt_succ_self
def gT:=@Bool.and_eq_true
def iB:=@Array.toList_push
def eO:=@List.map_map
def iO:=@List.filter_append
def gU:=@PySem.W.kia_one
def iP:=@List.append_assoc
def eQ:=@PyProof.Rows.wpS_forRange
def qO:=@PyProof.Rows.slot_tuple_getitem
def on:=@List.nodup_iff_pairwise_ne
def f_:=@Nat.lt_irrefl
def iC:=@List.nodup_cons
def iQ:=@List.all_eq_true
def kT:=@List.map_congr_left
def jP:=@PySem.wpAny_newObj_type
def kU:=@of_decide_eq_false
def kW:=@Bool.false_eq_true
def oo:=@PyProof.Rows.boot_tuple
def mR:=@Nat.div_lt_of_lt_mul
def jQ:=@List.not_mem_nil
def iD:=@Int.ofNat.inj
def oq:=@PySem.wpAny_callSpecial?_slot
def fm:=@beq_iff_eq
def kX:=@List.length_range
def ot:=@List.getElem?_set_self
def mU:=@Nat.mul_le_mul_left
def mV:=@Array.toList_append
def oy:=@List.perm_append_comm
def oz:=@List.length_replicate
def iR:=@PySem.Heap.size_push
def mW:=@PySem.Heap.get?_update_ne
def mX:=@PySem.F.called_set
def iE:=@Nat.le_of_lt
def fJ:=@List.map_cons
def fK:=@PySem.wpAny_holding
def hX:=@Nat.div_add_mod
def j6:=@beq_eq_false_iff_ne
def lS:=@Option.map_eq_some_iff
def lT:=@Nat.div_div_eq_div_mul
def j7:=@List.mem_filterMap
def hZ:=@Array.size_map
def oA:=@Array.getElem?_eq_some_iff
def cK:=@PyProof.Rows.wpS_mono
def lU:=@List.getElem?_eq_none
def iS:=@PySem.wpAny_call_entry
def j8:=@PySem.wpAny_Call_Name_kw
def gu:=@Nat.ne_of_gt
def lV:=@List.getElem?_set_ne
def gv:=@Int.zero_add
def j9:=@Nat.mod_eq_of_lt
def eh:=@PyProof.Rows.wpS_modify
def lW:=@PySem.W.callWith_K
def oB:=@PyProof.Rows.boot_list
def lX:=@Int.emod_lt_of_pos
def iT:=@PySem.wpAny_seqItems
def oC:=@List.length_singleton
def rK:=@PyProof.Rows.callWith_type1
def dq:=@Ne.symm
def rL:=@Array.getD_eq_getD_getElem?
def fL:=@PySem.wpAny_rule
def h_:=@PySem.codeAny_mono
def oE:=@PySem.Heap.get?_update_other
def j_:=@PySem.wpAny_passesOwn
def oF:=@List.mem_of_mem_take
def oG:=@List.mem_iff_getElem
def ic:=@List.map_id
def rM:=@Int.fdiv_eq_ediv_of_nonneg
def lY:=@List.length_drop
def oH:=@PySem.Heap.get?_update_self
def rN:=@Classical.byContradiction
def wB:=@PyProof.Rows.F.plain_set_update_loop
def fQ:=@PyProof.Rows.size_push'
def gw:=@PySem.wpAny_mono
def eZ:=@if_false
def lZ:=@List.range_succ
def l6:=@List.of_mem_zip
def l7:=@Int.emod_nonneg
def l8:=@Bool.eq_iff_iff
def ie:=@Nat.mod_lt
def iU:=@Int.le_refl
def oI:=@decide_eq_true_eq
def kg:=@Nat.add_zero
def rO:=@Array.toList_filterMap
def oJ:=@PySem.wpAny_setField_rec
def oK:=@PySem.Obj.data_mapFields
def iV:=@PySem.sizeLine_eq
def oM:=@Array.toList_map
def oN:=@PySem.wpAny_truthy_bool
def oO:=@PySem.wpAny_loadPart_at
def gx:=@or_false
def rP:=@List.pairwise_append
def rQ:=@List.mem_of_mem_drop
def rR:=@Array.toList_reverse
def oP:=@List.filter_nil
def rS:=@PySem.W.hideAll_get
def rT:=@List.getElem?_range
def rV:=@List.filter_sublist
def rW:=@Int.toNat_of_nonneg
def wC:=@PySem.F.excBase_ValueError
def ig:=@Prod.ext
def oQ:=@Nat.mul_le_mul
def wD:=@Int.fmod_eq_emod_of_nonneg
def rX:=@PySem.Heap.get?_none_of_le
def wE:=@Array.toList_setIfInBounds
def oR:=@PySem.wpAny_execs_nil
def oU:=@PySem.codeAny_builtin
def wF:=@List.pairwise_iff_getElem
def wG:=@List.drop_eq_getElem_cons
def wH:=@Array.getElem?_eq_getElem
def l9:=@Nat.mul_pos
def l_:=@Nat.mul_one
def rY:=@List.all_eq_false
def rZ:=@Int.toNat_natCast
def wI:=@PySem.F.args_tuple_add_2
def wJ:=@PyProof.Rows.boot_sorted
def wK:=@Option.isSome_iff_exists
def oV:=@Nat.mul_assoc
def oW:=@Nat.add_assoc
def e_:=@PyProof.Rows.wpS_get
def oX:=@PySem.wpAny_setField
def kh:=@PySem.wpAny_call
def wL:=@PySem.F.entry_tuple_add
def wM:=@Nat.le_mul_of_pos_right
def r_:=@Nat.le_add_right
def si:=@List.nodup_range
def wN:=@List.getElem?_replicate
def wO:=@PySem.Calls.Name_function_global
def wP:=@PySem.W.cellsFrom_some
def wQ:=@PySem.F.slot_tuple_add
def oY:=@Nat.zero_add
def wR:=@List.take_of_length_le
def wS:=@List.range_succ_eq_map
def sj:=@PySem.wpAny_setState_of
def sk:=@PySem.wpAny_pyIter_list
def oZ:=@PyProof.Rows.get?_update_seq
def sq:=@Nat.mod_add_div
def sw:=@List.length_set
def sA:=@List.forIn_cons
def sB:=@List.foldl_cons
def sC:=@List.Perm.of_eq
def o0:=@PySem.wpAny_standAt
def wT:=@PySem.wpAny_comprehension_free
def wU:=@PySem.W.methodCall_KW
def wV:=@PyProof.Rows.boot_sum
def wW:=@PyProof.Rows.boot_abs
def o3:=@Nat.mul_add
def o4:=@Nat.div_one
def wX:=@List.length_take_le'
def sE:=@List.forIn_nil
def sF:=@List.drop_zero
def wY:=@Array.toList_extract
def wZ:=@Array.getElem_toList
def iW:=@if_true
def md:=@PySem.wpAny_Name
def w4:=@PySem.W.plainGet_of
def BL:=@PyProof.Rows.F.entry_set_update_loop
def w6:=@List.filterMap_cons
def sG:=@List.any_cons
def sJ:=@Bool.true_and
def sK:=@Bool.not_true
def w9:=@decide_eq_true_iff
def w_:=@PySem.Obj.isFreed_of_fields
def xa:=@Nat.eq_zero_or_pos
def xb:=@PySem.wpAny_loadName_local
def xc:=@PySem.codeAny_call_builtin
def sL:=@Nat.le_of_eq
def xf:=@List.nodup_append
def xg:=@List.ext_getElem?
def xh:=@List.any_eq_false
def xi:=@Int.emod_eq_of_lt
def xj:=@Bool.eq_false_iff
def xk:=@PySem.Around.under_plainId
def BM:=@Array.toList_eraseIdxIfInBounds
def xm:=@PySem.wpAny_loadName_free
def xn:=@Nat.div_eq_of_lt
def xo:=@List.zipIdx_cons
def xp:=@List.mem_flatMap
def xq:=@List.countP_cons
def xr:=@Array.toList_zip
def sO:=@PySem.wpAny_onRaise
def sP:=@PySem.wpAny_attempt
def sQ:=@Nat.one_mul
def sR:=@Nat.le_succ
def BO:=@Int.mul_le_mul_of_nonneg_left
def xt:=@Nat.not_lt_zero
def BQ:=@PySem.F.typeOf_object_class
def xu:=@PySem.Obj.cls_mapFields
def BR:=@Nat.mul_lt_mul_of_pos_left
def xv:=@List.nodup_nil
def kj:=@PyProof.Rows.wpS_lift
def BS:=@Nat.add_mul_mod_self_left
def xw:=@PySem.wpAny_eqBool_int
def xx:=@PySem.noFill_tuple_add
def BU:=@List.length_erase_of_mem
def BV:=@List.getElem?_take_of_lt
def BW:=@List.filterMap_cons_some
def xy:=@List.all_cons
namespace L2
open PySem PySem.Spec PyProof.Rows
def Ja(h:Heap)(e:Addr)(cls:Value)(tb:Value):Prop:=∃o vs,h.get? e=some o/\o.cls=cls/\o.data=.fields vs/\vs[1]?=some tb/\vs[2]?=some .none
def Mp(h:Heap)(T:Addr)(fl:Value):Prop:=∃o vs,h.get? T=some o/\o.data=.fields vs/\vs[3]?=some fl
structure qP(B:Heap)(l:List Env)(e:Addr)(cls fl:Value)(h:Heap):Prop where
 stays:B.StaysIn h
 new:B.get? e=none
 frames:h.FunFrames B l
 rc:∃T,Ja h e cls (.ref T)/\B.get? T=none/\T≠e/\Mp h T fl
abbrev u3(B:Heap)(l:List Env)(e:Addr)(cls:Value)(h:Heap):Prop:=qP B l e cls .none h
theorem qP.there{B h:Heap}{l:List Env}{e:Addr}{cls fl:Value}(x:qP B l e cls fl h):∃o vs,h.get? e=some o/\o.cls=cls/\o.data=.fields vs/\vs[2]?=some .none:=by
 obtain⟨_,⟨o,vs,a,b,c,_,d⟩,_⟩:=x.rc;exact⟨o,vs,a,b,c,d⟩
section
variable {M:Model} {A:Around} {E:Value->Shared->Prop} {s:Shared} {B:Heap} {l outer:List Env} {env:Env} {e L:Addr} {cls:Value}
theorem sU{h:Heap}{T:Addr}{o:Obj}{vs:Array Value}{f:Array Value->Array Value}(hT:h.get? T=some o)(hd:o.data=.fields vs):
  (∀b,b≠T->(h.update T (Obj.mapFields f)).get? b=h.get? b)/\(h.update T (Obj.mapFields f)).get? T=some (Obj.mapFields f o)/\(Obj.mapFields f o).data=.fields (f vs)/\(Obj.mapFields f o).cls=o.cls/\h.UpToSlots (h.update T (Obj.mapFields f)):=by
 have o1:∀b,b≠T->(h.update T (Obj.mapFields f)).get? b=h.get? b:=fun b n=>oE _ _ (dq n);refine⟨o1,oH _ hT (w_ (oK hd _)),oK hd _,xu _ _,fun b u q nf=>⟨u.slots,?_⟩⟩;by_cases c:b=T
 .subst c;rw[hT] at q;cases q;exact absurd hd (nf vs)
 .rw[o1 b c];exact q
theorem jl{h h':Heap}(F:h.FunFrames B l)(u:h.UpToSlots h'):h'.FunFrames B l:=F.of_keeps fun b o q nf=>let ⟨sl,z⟩:=u b o q nf;⟨_,z,rfl⟩
theorem gc{fl:Value}{Q:Unit->Shared->Prop}(x:qP B l e cls fl s.heap)(q:∀h',u3 B l e cls h'->s.heap.UpToSlots h'->Q () { s with heap:=h' }):wpAny M A (setFlight (.ref e) none) Q E s:=by
 obtain⟨T,⟨o,vs,he,hc,hd,h1,h2⟩,nT,Te,oT,ts,hT,LU,h3⟩:=x.rc;have z3:3<ts.size:=(oA.mp h3).1;unfold setFlight;refine ap (cY he hd h1 ?_);rw[aq (show (Value.ref T != Value.none)=true from by simp)];refine oX hT LU z3 ?_;obtain⟨p1,p2,p3,_,p5⟩:=sU (f:=(·.setIfInBounds 3 ((none:Option Addr).elim Value.none fun f=>rawInt f))) hT LU;exact q _ ⟨fun b u z=>(p1 b fun c=>by rw[c,nT] at z;cases z).trans (x.stays b u z),x.new,jl x.frames p5,T,⟨o,vs,(p1 e (dq Te)).trans he,hc,hd,h1,h2⟩,nT,Te,_,_,p2,p3,by simp[z3]⟩ p5
theorem qQ{o:Obj}{vs:Array Value}{Mq:Value}{Fk:Bool}{Q:Unit->Shared->Prop}(BY:A.frames=some (env::outer))(F:s.heap.FunFrames B (env::outer))(hf:env.frame=some L)(st:B.StaysIn s.heap)(nw:B.get? e=none)(he:s.heap.get? e=some o)(hd:o.data=.fields vs)(z1:1<vs.size)(h2:vs[2]?=some .none)(q:∀h',qP B (env::outer) e o.cls (rawInt L) h'->s.heap.UpToSlots h'->Q () { s with heap:=h' }):
  wpAny M A (do let a <- frameOf env;let pl <- entryPlaceOf L Fk;let b <- EntryCells.newEntry Mq a .none (rawInt L) .none pl;setField (.ref e) 1 b) Q E s:=by
 have ne:e∉(env::outer).filterMap (·.frame):=fun m=>by
  obtain⟨_,u,hu,nf⟩:=F.mem m;rw[he] at hu;cases hu;exact nf vs hd
 refine ap (wpAny_frameOf_fun BY F hf fun h1 so=>?_);refine ap (wpAny_entryPlaceOf fun pl lQ=>?_);unfold EntryCells.newEntry newFields;refine ap (jP ?_ (lQ.sizeOk5 _ _ _ _ _));have e1:h1.get? e=some o:=(so.2.1 e ne).trans he;have uT:B.StaysIn h1:=fun b u z=>(so.2.1 b fun m=>by rw[(F.mem m).1] at z;cases z).trans (st b u z);have up1:s.heap.UpToSlots h1:=fun b u z _=>so.2.2 b u z;generalize VB:({ cls:=.type "traceback",dict:=none,data:=.fields ([Mq,.ref L,.none,rawInt L,.none]++(if pl.isEmpty then List.replicate 6 Value.none else pl)).toArray }:Obj)=To;have e2:=bC (h:=h1) To e1;refine oX e2 hd z1 ?_;obtain⟨p1,p2,p3,p4,p5⟩:=sU (f:=(·.setIfInBounds 1 (Value.ref h1.objs.size))) e2 hd;have Te:h1.objs.size≠e:=gu (aQ e1);have VC:h1.UpToSlots (h1.push To):=Heap.UpToSlots.of_keeps fun b u z=>bC _ z;refine q _ ⟨fun b u z=>(p1 b fun c=>by rw[c,nw] at z;cases z).trans (bC _ (uT b u z)),nw,jl F ((up1.trans VC).trans p5),h1.objs.size,⟨_,_,p2,p4,p3,by simp[z1],by rw[Array.getElem?_setIfInBounds_ne (by decide)];exact h2⟩,?_,Te,To,_,(p1 _ Te).trans (cC h1 (by rw[<-VB];rfl)),by rw[<-VB],?_⟩ ((up1.trans VC).trans p5)
 .cases z:B.get? h1.objs.size with
  |none=>rfl
  |some u=>exact absurd (aQ (uT _ u z)) (f_ _)
 .first|(simp;done)|(rcases lQ with rfl|⟨_,_,_,_,_,_,_,rfl⟩ <;> simp)
theorem yP{Q:Unit->Shared->Prop}(BY:A.frames=some (env::outer))(hf:env.frame=some L)(x:u3 B (env::outer) e cls s.heap)(q:∀h',qP B (env::outer) e cls (rawInt L) h'->s.heap.UpToSlots h'->Q () { s with heap:=h' }):wpAny M A (noteFrame (.ref e) env) Q E s:=by
 obtain⟨T,⟨o,vs,he,hc,hd,h1,h2⟩,nT,Te,oT,ts,hT,LU,h3⟩:=x.rc;subst hc;unfold noteFrame;simp only[hf];refine ap (cY he hd h1 ?_);rw[aq (show (Value.ref T != Value.none)=true from by simp)];refine ap (cY hT LU h3 ?_);rw[au (show ¬ ((Value.none==rawInt L)=true) from by simp[rawInt])];refine ap (oX hT LU (oA.mp h3).1 ?_);obtain⟨p1,p2,p3,p4,p5⟩:=sU (f:=(·.setIfInBounds 3 Value.none)) hT LU;exact qQ BY (jl x.frames p5) hf (fun b u z=>(p1 b fun c=>by rw[c,nT] at z;cases z).trans (x.stays b u z)) x.new ((p1 e (dq Te)).trans he) hd (oA.mp h1).1 h2 fun h' y u=>q h' y (p5.trans u)
theorem BZ{Q:Unit->Shared->Prop}(BY:A.frames=some (env::outer))(hf:env.frame=some L)(x:u3 B (env::outer) e cls s.heap)(q:∀h',u3 B outer e cls h'->s.heap.UpToSlots h'->Q () { s with heap:=h' }):wpAny M A (leaving env (.ref e)) Q E s:=by
 unfold leaving;refine ap (yP BY hf x fun h1 y u=>?_);refine gc (s:={ s with heap:=h1 }) y fun h2 z v=>q h2 ⟨z.stays,z.new,z.frames.2.2,z.rc⟩ (u.trans v)
theorem xz{h:Heap}{args:List Value}{Q:Unit->Shared->Prop}(BY:A.frames=some (env::outer))(hf:env.frame=some L)(st:B.StaysIn h)(F:h.FunFrames B (env::outer))(x:Heap.MadeExcOf h s.heap e cls args)(q:∀h',u3 B outer e cls h'->s.heap.UpToSlots h'->Q () { s with heap:=h' }):wpAny M A (leaving env (.ref e)) Q E s:=by
 obtain⟨t,he,_,_⟩:=x.there;have nw:B.get? e=none:=by
  cases z:B.get? e with
  |none=>rfl
  |some u=>have:=st e u z;rw[x.new] at this;cases this
 unfold leaving noteFrame;simp only[hf];refine ap (ap (cY he rfl (x:=.none) rfl ?_));rw[au (by decide)];refine qQ BY (jl F (Heap.UpToSlots.of_keeps x.keeps)) hf (fun b u z=>x.keeps b u (st b u z)) nw he rfl (by simp) rfl fun h1 y u=>?_;exact gc (s:={ s with heap:=h1 }) y fun h2 z v=>q h2 ⟨z.stays,z.new,z.frames.2.2,z.rc⟩ (u.trans v)
end
theorem qv:plainId "proto.unchain"=true:=by decide +kernel
theorem qw:entryFor table "proto.unchain"=some Builtin.«proto.unchain»:=PySem.entryFor_of_fast (by kernel_rfl)
def u7(p:Addr)(h:Heap):Prop:=∃o vs,h.get? p=some o/\o.data=.fields vs/\vs[2]?=some .none
theorem B0{α:Type}{prog:Program}{w:World}{A:Around}{Q:α->Shared->Prop}{E:Value->Shared->Prop}{s:Shared}{a p:Addr}{o:Obj}{vs:Array Value}(hh:A.handled=some (.ref p))(hp:u7 p s.heap)(ne:p≠a)(ha:s.heap.get? a=some o)(hd:o.data=.fields vs)(z2:2<vs.size)(q:E (.ref a) { s with heap:=s.heap.update a (Obj.mapFields (·.setIfInBounds 2 (.ref p))) }):wpAny (model prog w) A (raiseNew (.ref a):Sem α) Q E s:=by
 obtain⟨op,ws,h1,h2,h3⟩:=hp;unfold raiseNew;refine ap (wpAny_handled ?_);rw[hh];dsimp only;rw[aq (show (Value.ref p != Value.ref a)=true from by simp[ne])];refine ap (fK (wpAny_runValue (oU qw ?_)));rw[xk qv _];show wpAny _ _ (field (.ref p) 2 >>= _) _ _ s;refine ap (cY h1 h2 h3 ?_);rw[aq (by decide)];refine wpAny_pure ?_;show wpAny (model prog w) A (updateField a 2 (Value.ref p) >>= fun _=>throw (Value.ref a)) Q E s;unfold updateField;refine ap (ap (wpAny_load ha ?_));rw[hd];dsimp only;rw[aq z2];exact wpAny_update (by rw[ha]) (wpAny_throw q)
theorem xA{prog:Program}{w:World}{A:Around}{E:Value->Shared->Prop}{s:Shared}{it p:Addr}{x left step:Int}{Q:Option Value->Shared->Prop}(hh:A.handled=some (.ref p))(hp:u7 p s.heap)(o6:IsRangeIter s.heap it x left step)(hl:left<=0)(hQ:∀h',(∀b o,s.heap.get? b=some o->h'.get? b=some o)->Q none { s with heap:=h' }):wpAny (model prog w) A (pyNext (.ref it)) Q E s:=by
 have hT:s.TypeIs (.ref it) "range_iterator":=⟨_,o6,rfl⟩
 unfold pyNext;refine ap (sP (oq (name:=Str.ofString "__next__") hT F.slot_range_iterator_next
  (iS F.slot_range_iterator_next hT F.entry_range_iterator_next ?_ (F.args_range_iterator_next_1 _))))
 show wpAny _ _ (field (.ref it) 0 >>= _) _ _ s;refine ap (cY o6 rfl (x:=rawInt x) rfl ?_);refine ap (cY o6 rfl (x:=rawInt left) rfl ?_);refine ap (cY o6 rfl (x:=rawInt step) rfl ?_);dsimp only[rawInt];rw[aq hl];refine ap (fL ?_);refine ap ?_;show wpAny _ _ (newExc (.type "StopIteration") [] >>= _) _ _ _;refine ap ?_;simp only[newExc,newTuple];refine ap (jP ?_ (by size_fits));refine ap (m:=firstArgMember _ _) (wpAny_of_eq (a:=Value.none) (by first|rfl|(simp only[firstArgMember];rfl)) ?_);refine jP ?_ (by size_fits);generalize hTu:({ cls:=.type "tuple",data:=.seq ([]:List Value).toArray }:Obj)=Tu;generalize Ro:({ cls:=.type "StopIteration",data:=.fields (#[Value.ref s.heap.objs.size,Value.none,Value.none,Value.none,Value.bool false,Value.none]++ownMembersOf (Value.type "StopIteration") []) }:Obj)=Ex;have VD:Ex.data=.fields (#[Value.ref s.heap.objs.size,Value.none,Value.none,Value.none,Value.bool false,Value.none]++ownMembersOf (Value.type "StopIteration") []):=by rw[<-Ro]
 have XB:Ex.cls=.type "StopIteration":=by rw[<-Ro]
 have k1:∀b o,s.heap.get? b=some o->((s.heap.push Tu).push Ex).get? b=some o:=fun b o e=>bC _ (bC _ e);have gE:((s.heap.push Tu).push Ex).get? (s.heap.push Tu).objs.size=some Ex:=cC _ (by rw[<-Ro];rfl);have kY:∀b o,s.heap.get? b=some o->b≠(s.heap.push Tu).objs.size:=fun b o e=>aT (aQ (bC Tu e));obtain⟨op,ws,n1,n2,n3⟩:=id hp;refine B0 (A:=A.in1) (p:=p) hh ⟨op,ws,k1 _ _ n1,n2,n3⟩ (kY _ _ n1) gE VD (by simp;lia) ?_;refine ap (wpAny_isInstance (T:="StopIteration") (b:=true) ⟨_,oH _ gE (w_ (oK VD _)),(xu _ _).trans XB⟩ isSubtype_stop ?_);exact wpAny_pure (hQ _ fun b o e=>(oE _ _ (dq (kY b o e))).trans (k1 b o e))
abbrev qx:=Sum Int Str
def HR:qx->Value->Bool
 |.inl k,v=>Value.isInt k v
 |.inr x,v=>Value.isStrOf x v
def Rp(w:World):qx->Int
 |.inl k=>hashInt k
 |.inr x=>hashStr w x
theorem cu:∀ {k:qx} {v:Value},HR k v=true->(∃i t,k=Sum.inl i/\v=Value.int i t)\/(∃x t,k=Sum.inr x/\v=Value.str x t)
 |.inl i,v,h=>by
  obtain⟨t,e⟩:=Value.isInt_shape (k:=i) (v:=v) h;exact .inl ⟨i,t,rfl,e⟩
 |.inr x,v,h=>by
  obtain⟨t,e⟩:=Value.isStrOf_shape (x:=x) (v:=v) h;exact .inr ⟨x,t,rfl,e⟩
theorem Jb(a b:Int):decide ((Sum.inl a:qx)=Sum.inl b)=(a==b):=by
 by_cases e:a=b
 .subst e;simp
 .have h:¬ (Sum.inl a:qx)=Sum.inl b:=fun q=>e (Sum.inl.inj q);rw[d6 h];exact(j6.mpr e).symm
theorem Jc(a b:Str):decide ((Sum.inr a:qx)=Sum.inr b)=decide (a=b):=by
 by_cases e:a=b
 .subst e;simp
 .have h:¬ (Sum.inr a:qx)=Sum.inr b:=fun q=>e (Sum.inr.inj q);rw[d6 h,d6 e]
theorem Jd(a:Int)(b:Str):decide ((Sum.inl a:qx)=Sum.inr b)=false:=d6 (fun q=>nomatch q)
theorem Je(a:Str)(b:Int):decide ((Sum.inr a:qx)=Sum.inl b)=false:=d6 (fun q=>nomatch q)
def yQ(prog:Program)(w:World):PySem.KeyKind prog w qx where
 is:=HR
 hash:=Rp w
 inj:=fun v a b ha hb=>by
  rcases cu ha with ⟨i,t,rfl,rfl⟩|⟨x,t,rfl,rfl⟩
  .rcases cu hb with ⟨j,u,rfl,e⟩|⟨y,u,rfl,e⟩
   .injection e with e1 _;rw[e1]
   .exact nomatch e
  .rcases cu hb with ⟨j,u,rfl,e⟩|⟨y,u,rfl,e⟩
   .exact nomatch e
   .injection e with e1 _;rw[e1]
 byValue:=fun k v h=>by
  rcases cu h with ⟨i,t,rfl,rfl⟩|⟨x,t,rfl,rfl⟩ <;> rfl
 pyHash:=fun hv h=>by
  rcases cu hv with ⟨i,t,rfl,rfl⟩|⟨x,t,rfl,rfl⟩
  .exact wpAny_pyHash_int h
  .exact wpAny_pyHash_str h
 eqBool:=fun hu hv h=>by
  rcases cu hu with ⟨i,t,rfl,rfl⟩|⟨x,t,rfl,rfl⟩
  .rcases cu hv with ⟨j,u,rfl,rfl⟩|⟨y,u,rfl,rfl⟩
   .rw[Jb] at h;exact xw h
   .rw[Jd] at h;exact SeqAt.EqAt.int_str i t y u _ _ _ _ h
  .rcases cu hv with ⟨j,u,rfl,rfl⟩|⟨y,u,rfl,rfl⟩
   .rw[Je] at h;exact SeqAt.EqAt.str_int x t j u _ _ _ _ h
   .rw[Jc] at h;exact wpAny_eqBool_str h
 «strs»:=fun k x t v h=>by
  rcases cu h with ⟨i,u,rfl,e⟩|⟨y,u,rfl,e⟩
  .exact nomatch e
  .injection e with e1 _
   subst e1
   cases v <;> rfl
inductive V where
 |bV|bl (b:Bool)|int (i:Int)|str (x:Str)|BB (b:Array UInt8)|Jf (b:UInt64)|ref (a:Addr)|ty (n:String)
 deriving DecidableEq
def bA:V->Value->Prop
 |.bV,u=>u=Value.none
 |.bl b,u=>u=Value.bool b
 |.int i,u=>∃t,u=Value.int i t
 |.str x,u=>∃t,u=Value.str x t
 |.BB b,u=>∃t,u=Value.bytes b t
 |.Jf b,u=>∃t,u=Value.float b t
 |.ref a,u=>u=Value.ref a
 |.ty n,u=>u=Value.type n
abbrev aP:List V->List Value->Prop:=Paired bA
theorem aP.length(r:aP xs us):xs.length=us.length:=Paired.length r
theorem aP.get:∀ {xs:List V} {us:List Value} {i:Nat} {x:V},aP xs us->xs[i]?=some x->∃u,us[i]?=some u/\bA x u
 |_,_,_,_,.nil,e=>by simp at e
 |_,_,0,_,.cons r _,e=>by simp at e;subst e;exact⟨_,rfl,r⟩
 |_,_,i+1,x,.cons _ t,e=>by
  obtain⟨u,h1,h2⟩:=aP.get (i:=i) (x:=x) t (by simpa using e);exact⟨u,by simpa using h1,h2⟩
theorem aP.set(r:bA x u):∀ {xs:List V} {us:List Value} (i:Nat),aP xs us->aP (xs.set i x) (us.set i u)
 |_,_,_,.nil=>.nil
 |_,_,0,.cons _ t=>.cons r t
 |_,_,i+1,.cons q t=>.cons q (aP.set r i t)
theorem aP.append:∀ {xs ys:List V} {us ws:List Value},aP xs us->aP ys ws->aP (xs++ys) (us++ws)
 |_,_,_,_,.nil,s=>s
 |_,_,_,_,.cons r t,s=>.cons r (aP.append t s)
theorem aP.take:∀ {xs:List V} {us:List Value} (n:Nat),aP xs us->aP (xs.take n) (us.take n)
 |_,_,0,_=>.nil
 |_,_,_+1,.nil=>.nil
 |_,_,n+1,.cons r t=>.cons r (aP.take n t)
theorem aP.drop:∀ {xs:List V} {us:List Value} (n:Nat),aP xs us->aP (xs.drop n) (us.drop n)
 |_,_,0,r=>r
 |_,_,_+1,.nil=>.nil
 |_,_,n+1,.cons _ t=>aP.drop n t
def qy:Option V->Option Value->Prop
 |some v,some u=>bA v u
 |none,none=>True
 |_,_=>False
def KV{κ:Type}:List (κ×V)->List (κ×Value)->Prop:=Paired fun (p:κ×V) (q:κ×Value)=>p.1=q.1/\bA p.2 q.2
def kV:qx->V
 |.inl i=>.int i
 |.inr x=>.str x
inductive HO where
 |lst (xs:List V)
 |tup (xs:List V)
 |dK (kZ:List (qx×V))|dT (kZ:List (List qx×V))
 |set (S:Int->Bool) (n:Nat)
 |ins (C dx:Addr) (fs:List (Str×V))
 |own (x:Addr)
 |xd (fs:List (Str×V))
 |met (f x:Addr)
 |Qj (lo hi:Int)
 |qR (o:Obj) (u:HO)
 |nQ (ps:Array Value)
 |ext (φ:Heap->Prop)
abbrev Hp:=Addr->Option HO
def upd(H:Hp)(a:Addr)(o:HO):Hp:=fun b=>if b=a then some o else H b
theorem ag:upd H a o a=some o:=by unfold upd;rw[aq rfl]
theorem ao(h:b≠a):upd H a o b=H b:=by unfold upd;rw[au h]
theorem k_:upd (upd H a o) a u=upd H a u:=by
 funext b;unfold upd;split <;> rfl
theorem dM{H:Hp}{a b:Addr}{o u:HO}(h:H a=some o)(h':H b=some u)(d:o≠u):a≠b:=by
 intro e;subst e;rw[h] at h';exact d (bt h')
theorem am{H:Hp}{a b:Addr}{o:HO}(h:H a=some o)(h':H b=none):a≠b:=by
 intro e;subst e;rw[h] at h';cases h'
section
variable (P:Program) (w:World)
def iX(h:Heap)(a:Addr)(aL:Array Value):Prop:=∃o,h.get? a=some o/\o.cls=.type "tuple"/\∃n,o.data=.seq aL n/\o.dict=none
theorem iX.tup(p:iX h a aL):IsTup h a aL:=let ⟨o,e,c,n,d,_⟩:=p;⟨o,e,c,n,d⟩
theorem iX.new(h:Heap)(aL:Array Value):iX (h.push { cls:=.type "tuple",data:=.seq aL }) h.objs.size aL:=⟨_,cC _ rfl,rfl,_,rfl,rfl⟩
def cw(H:Hp)(h:Heap)(a:Addr):HO->Prop
 |.lst xs=>xs.length<=sizeLine/\∃ (its:List Value) (n:Nat),aP xs its/\h.get? a=some { cls:=.type "list",data:=.seq its.toArray n }
 |.tup xs=>xs.length<=sizeLine/\∃its:List Value,aP xs its/\iX h a its.toArray
 |.dK kZ=>kZ.length<=sizeLine/\(a==sysModules)=false/\∃vs,KV kZ vs/\h.DictOf (yQ P w) a vs
 |.dT kZ=>kZ.length<=sizeLine/\(a==sysModules)=false/\∃xs:List (List qx×Addr×Value),
   Paired (fun (p:List qx×V) (q:List qx×Addr×Value)=>p.1=q.1/\H q.2.1=some (.tup (p.1.map kV))/\bA p.2 q.2.2) kZ xs/\
   ∃o es ep,h.get? a=some o/\o.ExactDict/\o.data=.dict es ep/\es.toList=xs.map (entryOfKey (tupleKind (yQ P w)))/\(xs.map (·.1)).Nodup
 |.set S n=>h.SetOf (intKind P w) a S n
 |.ins C dx fs=>H dx=some (.own a)/\fs.length<=1000/\dx≠a/\h.get? a=some (PySem.W.instObj C dx)/\
   ∃mA,h.Ns1 dx mA/\(∀f,qy (fs.lookup f) (mA f))/\PySem.Within mA (fs.map (·.1))
 |.own _=>∃o,h.get? a=some o
 |.xd fs=>∃mA,h.Ns1 a mA/\∀f,qy (fs.lookup f) (mA f)
 |.Qj lo hi=>∃t u v,h.get? a=some { cls:=.type "range",data:=.fields #[.int lo t,.int hi u,.int 1 v] }
 |.qR o u=>h.get? a=some o/\cw H h a u
 |.nQ ps=>h.get? a=some { cls:=.none,data:=.fields ps }
 |.met f x=>h.get? a=some (PySem.W.methodObj (.ref f) (.ref x))
 |.ext φ=>φ h/\(∃o,h.get? a=some o)/\∀h1 h2:Heap,φ h1->(∀o,h1.get? a=some o->h2.get? a=some o)->φ h2
def kl(H:Hp)(h:Heap):Prop:=∀a o,H a=some o->cw P w H h a o
end
section
variable {P:Program} {w:World} {H H':Hp} {h h':Heap} {a:Addr} {o:HO}
theorem cw.lt(x:cw P w H h a o):a<h.objs.size:=by
 cases o with
 |lst xs=>obtain⟨_,_,_,_,e⟩:=x;exact aQ e
 |tup xs=>obtain⟨_,_,_,p⟩:=x;exact p.tup.lt
 |dK kZ=>obtain⟨_,_,_,_,o,_,_,e,_⟩:=x;exact aQ e
 |dT kZ=>obtain⟨_,_,_,_,o,_,_,e,_⟩:=x;exact aQ e
 |set S n=>obtain⟨o,_,_,_,e,_⟩:=x;exact aQ e
 |ins C dx fs=>obtain⟨_,_,_,e,_⟩:=x;exact aQ e
 |own y=>obtain⟨_,e⟩:=x;exact aQ e
 |xd fs=>obtain⟨_,⟨_,_,_,e,_⟩,_⟩:=x;exact aQ e
 |Qj lo hi=>obtain⟨_,_,_,e⟩:=x;exact aQ e
 |qR ob u=>obtain⟨e,_⟩:=x;exact aQ e
 |nQ ps=>exact aQ (show h.get? a=some _ from x)
 |met f y=>exact aQ (show h.get? a=some _ from x)
 |ext φ=>obtain⟨_,⟨_,e⟩,_⟩:=x;exact aQ e
theorem Paired.Mr:∀ {l₁:List α} {l₂:List β},Paired F l₁ l₂->(∀a b,F a b->G a b)->Paired G l₁ l₂
 |_,_,.nil,_=>.nil
 |_,_,.cons r t,f=>.cons (f _ _ r) (Paired.Mr t f)
theorem cw.km(x:cw P w H h a o)(k:∀b u,(b=a\/H b=some (.own a))->h.get? b=some u->h'.get? b=some u)(ho:∀b,H b=some (.own a)->H' b=some (.own a))(ht:∀b xs,H b=some (.tup xs)->H' b=some (.tup xs)):cw P w H' h' a o:=by
 induction o with
 |lst xs=>obtain⟨z,its,n,r,e⟩:=x;exact⟨z,its,n,r,k _ _ (.inl rfl) e⟩
 |tup xs=>obtain⟨z,its,r,ob,e,c⟩:=x;exact⟨z,its,r,ob,k _ _ (.inl rfl) e,c⟩
 |dK kZ=>obtain⟨z,y,vs,r,ob,es,ep,e,c⟩:=x;exact⟨z,y,vs,r,ob,es,ep,k _ _ (.inl rfl) e,c⟩
 |dT kZ=>
  obtain⟨z,y,xs,r,ob,es,ep,e,c⟩:=x;exact⟨z,y,xs,Paired.Mr r fun p q z=>⟨z.1,ht _ _ z.2.1,z.2.2⟩,ob,es,ep,k _ _ (.inl rfl) e,c⟩
 |set S n=>obtain⟨ob,es,ep,t,e,c⟩:=x;exact⟨ob,es,ep,t,k _ _ (.inl rfl) e,c⟩
 |ins C dx fs=>
  obtain⟨d,z,ne,e,mA,⟨od,es,ep,e2,c⟩,r⟩:=x;exact⟨ho _ d,z,ne,k _ _ (.inl rfl) e,mA,⟨od,es,ep,k _ _ (.inr d) e2,c⟩,r⟩
 |own y=>obtain⟨ob,e⟩:=x;exact⟨ob,k _ _ (.inl rfl) e⟩
 |xd fs=>obtain⟨mA,⟨od,es,ep,e,c⟩,r⟩:=x;exact⟨mA,⟨od,es,ep,k _ _ (.inl rfl) e,c⟩,r⟩
 |Qj lo hi=>obtain⟨t,u,v,e⟩:=x;exact⟨t,u,v,k _ _ (.inl rfl) e⟩
 |qR ob u ih=>obtain⟨e,q⟩:=x;exact⟨k _ _ (.inl rfl) e,ih q⟩
 |nQ ps=>
  have e:h.get? a=some { cls:=.none,data:=.fields ps }:=x;show h'.get? a=some { cls:=.none,data:=.fields ps };exact k a _ (.inl rfl) e
 |met f y=>
  have e:h.get? a=some (PySem.W.methodObj (.ref f) (.ref y)):=x;show h'.get? a=some (PySem.W.methodObj (.ref f) (.ref y));exact k a _ (.inl rfl) e
 |ext φ=>obtain⟨p,⟨o,e⟩,st⟩:=x;exact⟨st _ _ p fun o q=>k _ _ (.inl rfl) q,⟨o,k _ _ (.inl rfl) e⟩,st⟩
theorem kl.lt(x:kl P w H h)(e:H a=some o):a<h.objs.size:=(x a o e).lt
theorem kl.fresh(x:kl P w H h)(e:h.objs.size<=a):H a=none:=by
 cases q:H a with
 |none=>rfl
 |some u=>exact absurd (bz (x.lt q) e) (f_ _)
theorem kl.kept(x:kl P w H h)(k:∀b u,h.get? b=some u->h'.get? b=some u):kl P w H h':=fun a o e=>
 (x a o e).km (fun b u _ q=>k b u q) (fun _ q=>q) fun _ _ q=>q
theorem kl.laid(x:kl P w H h)(k:∀b u,h.get? b=some u->h'.get? b=some u)(hp:h.objs.size<=a)(new:cw P w (upd H a o) h' a o):kl P w (upd H a o) h':=fun b u e=>by
 have hn:=x.fresh hp;by_cases hb:b=a
 .subst hb;rw[ag] at e;cases e;exact new
 .rw[ao hb] at e;exact(x b u e).km (fun c v _ q=>k c v q) (fun c q=>by rw[ao (am q hn)];exact q) fun c xs q=>by rw[ao (am q hn)];exact q
end
def Rd(H:Hp)(a:Addr)(u:HO):Prop:=H a=some u\/∃o,H a=some (.qR o u)
theorem Rd.ok(r:Rd H a u)(x:kl P w H h):cw P w H h a u:=by
 rcases r with r|⟨o,r⟩
 .exact x a u r
 .obtain⟨_,q⟩:=x a _ r;exact q
def Qk:Option HO->Prop
 |some (.lst _)=>True
 |some (.dK _)=>True
 |some (.dT _)=>True
 |some (.set _ _)=>True
 |some (.ins _ _ _)=>True
 |some (.ext _)=>True
 |_=>False
section
variable {P:Program} {w:World} {H:Hp} {h h':Heap} {x e:Addr} {o':HO}
theorem kl.write(ok:kl P w H h)(mu:Qk (H x))(he:e=x\/H e=some (.own x))(k:∀b u,b≠e->h.get? b=some u->h'.get? b=some u)(LV:∃u,h'.get? e=some u)(new:cw P w (upd H x o') h' x o'):kl P w (upd H x o') h':=fun b u q=>by
 have Ms:∀c y,H c=some (.own y)->c≠x:=fun c y r z=>by subst z;rw[r] at mu;exact mu
 have Rq:∀c xs,H c=some (.tup xs)->c≠x:=fun c xs r z=>by subst z;rw[r] at mu;exact mu
 by_cases hb:b=x
 .subst hb;rw[ag] at q;cases q;exact new
 .rw[ao hb] at q;by_cases E2:b=e
  .have q':H b=some (.own x):=by
    rcases he with z|z
    .exact absurd (E2.trans z) hb
    .rw[E2];exact z
   rw[q] at q';cases q';obtain⟨v,hv⟩:=LV;exact⟨v,by rw[E2];exact hv⟩
  .refine(ok b u q).km (fun c v hc r=>k c v ?_ r) (fun c r=>by rw[ao (Ms c b r)];exact r) fun c xs r=>by rw[ao (Rq c xs r)];exact r
   rcases hc with rfl|hc
   .exact E2
   .rintro rfl;rcases he with z|z
    .exact Ms c b hc z
    .rw[hc] at z;cases z;exact hb rfl
end
structure Un(fs ex:List Addr)(H H':Hp)(h h':Heap):Prop where
 keep:∀b o,h.get? b=some o->H b=none->b∉fs->b∉ex->h'.get? b=some o
 slot:∀b o,h.get? b=some o->H b=none->b∈fs->b∉ex->∃sl,h'.get? b=some { o with slots:=sl }
 free:∀b o,h.get? b=some o->H b=none->b∉ex->H' b=none
 there:∀b o,h.get? b=some o->b∉ex->∃o',h'.get? b=some o'
 ii:∀b xs,H b=some (.tup xs)->H' b=some (.tup xs)
 iY:∀b o u,H b=some (.qR o u)->H' b=some (.qR o u)
 jJ:∀b ps,H b=some (.nQ ps)->∃more,H' b=some (.nQ (ps++more))
section
variable {fs XC ex ex':List Addr} {H H1 H2:Hp} {h h1 h2 h':Heap} {a x e:Addr} {o:HO}
theorem Un.any(u:Un fs ex H H1 h h1)(q:h.get? b=some ob)(n:H b=none)(hx:b∉ex):∃sl,h1.get? b=some { ob with slots:=sl }:=by
 by_cases hb:b∈fs
 .exact u.slot b ob q n hb hx
 .exact⟨ob.slots,u.keep b ob q n hb hx⟩
theorem Un.kept(k:∀b u,h.get? b=some u->h'.get? b=some u):Un fs ex H H h h':=
 ⟨fun b ob q _ _ _=>k b ob q,fun b ob q _ _ _=>⟨ob.slots,k b ob q⟩,fun _ _ _ n _=>n,fun b ob q _=>⟨ob,k b ob q⟩,fun _ _ q=>q,fun _ _ _ q=>q,fun _ ps q=>⟨#[],by rw[q];simp⟩⟩
theorem Un.refl:Un fs ex H H h h:=Un.kept fun _ _ q=>q
theorem Un.laid(k:∀b u,h.get? b=some u->h'.get? b=some u)(hp:h.objs.size<=a)(hn:H a=none):Un fs ex H (upd H a o) h h' where
 keep:=fun b u q _ _ _=>k b u q
 slot:=fun b u q _ _ _=>⟨u.slots,k b u q⟩
 free:=fun b u q n _=>by rw[ao (aT (bz (aQ q) hp))];exact n
 there:=fun b u q _=>⟨u,k b u q⟩
 ii:=fun b xs q=>by rw[ao (am q hn)];exact q
 iY:=fun b u xs q=>by rw[ao (am q hn)];exact q
 jJ:=fun b ps q=>⟨#[],by rw[ao (am q hn),q];simp⟩
theorem Un.write(mu:Qk (H x))(he:e=x\/H e=some (.own x))(k:∀b u,b≠e->h.get? b=some u->h'.get? b=some u)(LV:∃u,h'.get? e=some u):Un fs ex H (upd H x o) h h':=by
 have hx:∀b,H b=none->b≠x:=fun b n z=>by subst z;rw[n] at mu;exact mu
 have hb:∀b,H b=none->b≠e:=fun b n z=>by
  subst z;rcases he with r|r
  .exact hx b n r
  .rw[n] at r;cases r
 have hm:∀b u,H b=some u->¬ Qk (some u)->b≠x:=fun b u q nm z=>by subst z;rw[q] at mu;exact nm mu
 refine⟨fun b u q n _ _=>k b u (hb b n) q,fun b u q n _ _=>⟨u.slots,k b u (hb b n) q⟩,fun b u q n _=>by rw[ao (hx b n)];exact n,fun b u q _=>?_,
  fun b xs q=>by rw[ao (hm b _ q fun z=>z)];exact q,fun b u xs q=>by rw[ao (hm b _ q fun z=>z)];exact q,fun b ps q=>⟨#[],by rw[ao (hm b _ q fun z=>z),q];simp⟩⟩
 by_cases E2:b=e
 .subst E2;exact LV
 .exact⟨u,k b u E2 q⟩
end
def Ql(h:Heap)(H:Hp):List Addr:=(List.range h.objs.size).filter fun a=>(H a).isSome
def qz(h:Heap)(H:Hp):Heap:=PySem.W.hideAll h (Ql h H)
theorem Ah(h:Heap)(H:Hp):(qz h H).objs.size=h.objs.size:=PySem.W.hideAll_size _ _
theorem B1(e:h.get? b=some o)(n:H b=none):(qz h H).get? b=some o:=
 rS _ e fun hm=>by
  have q:(H b).isSome=true:=(fk.mp hm).2;rw[n] at q;simp at q
theorem Fl(e:(qz h H).get? b=some o):h.get? b=some o/\H b=none:=by
 have e':h.get? b=some o:=PySem.W.of_hideAll (Ql h H) e;refine⟨e',?_⟩;cases q:H b with
 |none=>rfl
 |some x=>
  have hm:b∈Ql h H:=fk.mpr ⟨dv.mpr (aQ e'),by simp[q]⟩;have z:(qz h H).get? b=none:=PySem.W.hideAll_none (Ql h H) hm;rw[z] at e;cases e
def ge(g h:Heap)(L:Addr):List (Addr×Obj):=(List.range h.objs.size).filterMap fun a=>if a=L\/(g.get? a).isSome=true then none else (h.get? a).map fun o=>(a,o)
theorem gf(h1:a≠L)(h2:g.get? a=none)(h3:h.get? a=some o):(a,o)∈ge g h L:=
 j7.mpr ⟨a,dv.mpr (aQ h3),by simp[h1,h2,h3]⟩
theorem o7(hp:p∈ge g h L):p.1≠L/\g.get? p.1=none/\h.get? p.1=some p.2:=by
 obtain⟨b,_,e⟩:=j7.mp hp;split at e
 .cases e
 .rename_i hn;cases q:h.get? b with
  |none=>rw[q] at e;simp at e
  |some u=>
   rw[q] at e;simp only[Option.map_some,Option.some.injEq] at e;subst e;refine⟨fun z=>hn (.inl z),?_,q⟩;show g.get? b=none;cases r:g.get? b with
   |none=>rfl
   |some v=>exact(hn (.inr (by simp[r]))).elim
theorem u_:News g L h (ge g h L):=fun p hp=>let ⟨a,b,c⟩:=o7 hp;⟨c,a,b⟩
structure Mod(K:PySem.W.Frag)(mg:Str->Option Value)(base:Heap):Prop where
 B3:K.In base
 glob:base.Ns mainGlobals mg
 blt:∃mb,base.Ns builtinsNs mb/\∀x:Str,x≠"__name__"->mb x=bootBuiltins x
 nolimit:base.NoLimit
structure Cx where
 prog:Program
 w:World
 K:PySem.W.Frag
 mg:Str->Option Value
 base:Heap
 A:Around
 N:List Str
 s₀:Shared
 H₀:Hp
 env:Env
 outer:List Env
 stack:List Env
 ex:List Addr
 fn:Str->Bool
 calm:Bool
 pn:List (Addr×Obj)
 xe:Value->Shared->Prop
def jR(l:List Env):List Addr:=l.filterMap (·.frame)
abbrev Cx.fs(X:Cx):List Addr:=jR X.outer
def Mt(sc:Scope)(x:Str):Prop:=sc.names.lookup x=some .local\/sc.names.lookup x=some .cell\/sc.names.lookup x=some .free
def Mu(sc:Scope)(x:Str):Prop:=sc.names.lookup x=some .local\/sc.names.lookup x=some .cell
def Rr(env:Env)(h:Heap)(m:Str->Option Value)(x:Str)(u:Value):Prop:=
 (env.kindOf x=some .local/\m x=some u)\/((env.kindOf x=some .cell\/env.kindOf x=some .free)/\∃c,env.cells.lookup x=some c/\h.IsCell c (some u))
structure Cx.Ok(X:Cx):Prop where
 mod:Mod X.K X.mg X.base
 kind:X.env.scope.kind=.function
 glob:X.env.globals=mainGlobals
 blt:X.env.builtins=builtinsNs
 above:X.s₀.heap.objs.size<=X.env.locals
 inj:∀x y c,X.env.cells.lookup x=some c->X.env.cells.lookup y=some c->x=y
 has:∀x,(X.env.kindOf x=some .cell\/X.env.kindOf x=some .free)->∃c,X.env.cells.lookup x=some c
 Jg:∀x c,X.fn x=true->X.env.cells.lookup x=some c->X.s₀.heap.objs.size<=c
 hd:X.calm=true->X.A.handled=none
 frames:X.A.frames=some X.stack
 BC:X.stack=X.outer\/(X.stack=X.env::X.outer/\X.env.frame=some X.env.locals)
 Mv:∀b∈X.ex,b≠X.env.locals/\∀x c,X.env.cells.lookup x=some c->c≠b
 bs:∀b o,X.base.get? b=some o->X.s₀.heap.get? b=some o/\X.H₀ b=none
 Ai:X.base.objs.size<=X.s₀.heap.objs.size
 me:∀b o,X.base.get? b=some o->b∉X.ex
 Aj:∀b∈X.ex,b∉X.fs
 iZ:X.s₀.heap.FunFrames X.base X.outer
 BE:∀b∈X.fs,X.H₀ b=none
structure aF(X:Cx)(ae:List (Addr×Obj))(σ:List (Option V))(H:Hp)(s:Shared):Prop where
 ok:X.Ok
 os:s.os=X.s₀.os
 bare:AllBare s.gens
 base:Un X.fs X.ex X.H₀ H X.s₀.heap s.heap
 loc:∃m,s.heap.Ns X.env.locals m/\∀ (i:Nat) (x:Str) (v:V),X.N[i]?=some x->σ[i]?=some (some v)->Mt X.env.scope x->∃u,bA v u/\Rr X.env s.heap m x u
 cell:∀x c,X.env.cells.lookup x=some c->∃v,s.heap.IsCell c v
 free:H X.env.locals=none
 fR:∀x c,X.env.cells.lookup x=some c->H c=none
 pin:∀p∈X.pn++ae,s.heap.get? p.1=some p.2/\H p.1=none/\p.1≠X.env.locals/\p.1∉X.fs/\∀v,p.2.data≠.cell v
 bq:kl X.prog X.w H s.heap
 len:σ.length=X.N.length
section
variable {X:Cx} {ae:List (Addr×Obj)} {σ:List (Option V)} {H H':Hp} {s:Shared} {h':Heap}
theorem Cx.Ok.Rt(ok:X.Ok)(e:X.base.get? b=some o):b∉X.fs:=fun hb=>by
 have:=(ok.iZ.mem hb).1;rw[e] at this;cases this
theorem aF.bs(I:aF X ae σ H s):∀b o,X.base.get? b=some o->s.heap.get? b=some o/\H b=none:=fun b o e=>
 ⟨I.base.keep b o (I.ok.bs b o e).1 (I.ok.bs b o e).2 (I.ok.Rt e) (I.ok.me b o e),I.base.free b o (I.ok.bs b o e).1 (I.ok.bs b o e).2 (I.ok.me b o e)⟩
theorem aF.bk(I:aF X ae σ H s):∀b o,X.base.get? b=some o->s.heap.get? b=some o:=fun b o e=>(I.bs b o e).1
theorem aF.mod(I:aF X ae σ H s):Mod X.K X.mg X.base:=I.ok.mod
theorem aF.jm(I:aF X ae σ H s):X.K.In s.heap:=I.ok.mod.B3.keeps I.bk
theorem aF.fr(I:aF X ae σ H s):∃m,Fr X.base X.env.locals s.heap m:=
 let ⟨m,hn,_⟩:=I.loc
 ⟨m,hn,I.bk,aY I.ok.Ai I.ok.above⟩
theorem aF.lt(I:aF X ae σ H s):X.env.locals<s.heap.objs.size:=let ⟨_,hn,_⟩:=I.loc;hn.lt
theorem aF.sz(I:aF X ae σ H s):X.s₀.heap.objs.size<=s.heap.objs.size:=aY I.ok.above (iE I.lt)
theorem aF.Ru(I:aF X ae σ H s)(h:s.heap.objs.size<=a):a∉X.fs:=fun hb=>by
 obtain⟨_,o,ho,_⟩:=I.ok.iZ.mem hb;exact absurd (bz (aQ ho) (aY I.sz h)) (f_ _)
theorem aF.Fm(I:aF X ae σ H s):∀x c,X.env.cells.lookup x=some c->c≠X.env.locals:=fun x c e z=>by
 obtain⟨v,o,ho,hd⟩:=I.cell x c e;obtain⟨m,⟨o',es,ep,uU,yR,_⟩,_⟩:=I.loc;rw[z,uU] at ho;cases ho;rw[yR] at hd;cases hd
theorem aF.iZ(I:aF X ae σ H s):s.heap.FunFrames X.base X.outer:=by
 have all:∀ (l:List Env),(∀b∈jR l,b∈X.fs)->X.s₀.heap.FunFrames X.base l->s.heap.FunFrames X.base l:=by
  intro l;induction l with
  |nil=>intro _ _;trivial
  |cons env r ih=>
   intro hs hl;obtain⟨hk,⟨L,o,hf,hn,ho,hd⟩,hr⟩:=hl;have hL:L∈X.fs:=hs L (by unfold jR;rw[w6,hf];exact ci);obtain⟨sl,e⟩:=I.base.slot L o ho (I.ok.BE L hL) hL fun z=>I.ok.Aj L z hL;exact⟨hk,⟨L,_,hf,hn,e,hd⟩,ih (fun b hb=>hs b (by unfold jR;rw[w6,hf];exact b8 _ hb)) hr⟩
 exact all X.outer (fun _ hb=>hb) I.ok.iZ
theorem aF.stack(I:aF X ae σ H s):s.heap.FunFrames X.base X.stack:=by
 rcases I.ok.BC with e|⟨e,hf⟩
 .rw[e];exact I.iZ
 .rw[e];obtain⟨m,hn,_⟩:=I.loc;refine .cons (by rw[I.ok.kind];decide) hf hn ?_ I.iZ;exact rX (aY I.ok.Ai I.ok.above)
theorem aF.sV(I:aF X ae σ H s):∀b∈jR X.stack,b∈X.env.locals::X.fs:=fun b hb=>by
 rcases I.ok.BC with e|⟨e,hf⟩
 .rw[e] at hb;exact b8 _ hb
 .rw[e] at hb;unfold jR at hb;rw[w6,hf] at hb;exact hb
theorem aF.sW(I:aF X ae σ H s):∀b∈jR X.stack,H b=none:=fun b hb=>by
 rcases bg.mp (I.sV b hb) with e|hb
 .rw[e];exact I.free
 .obtain⟨_,o,ho,_⟩:=I.ok.iZ.mem hb;exact I.base.free b o ho (I.ok.BE b hb) fun z=>I.ok.Aj b z hb
theorem aF.step{g':Array GenState}{t':Nat}{d':Drawn}{ch:List Addr}(I:aF X ae σ H s)(E3:∀b∈ch,(b∈X.ex\/X.s₀.heap.objs.size<=b)/\b≠X.env.locals/\(∀x c,X.env.cells.lookup x=some c->c≠b)/\∀p∈X.pn++ae,p.1≠b)(keep:∀b o,b≠X.env.locals->b∉X.fs->b∉ch->s.heap.get? b=some o->H b=none->h'.get? b=some o)(slot:∀b o,b≠X.env.locals->b∈X.fs->b∉ch->s.heap.get? b=some o->H b=none->∃sl,h'.get? b=some { o with slots:=sl })(free:∀b o,b∉ch->s.heap.get? b=some o->H b=none->H' b=none)(there:∀b o,b∉ch->s.heap.get? b=some o->∃o',h'.get? b=some o')(ii:∀b xs,H b=some (.tup xs)->H' b=some (.tup xs))(iY:∀b o u,H b=some (.qR o u)->H' b=some (.qR o u))(jJ:∀b ps,H b=some (.nQ ps)->∃more,H' b=some (.nQ (ps++more)))(ns:∀m,s.heap.Ns X.env.locals m->h'.Ns X.env.locals m)(bq:kl X.prog X.w H' h')(hg:AllBare g'):
  aF X ae σ H' { s with heap:=h',gens:=g',drawn:=d',toks:=t' }:=by
 have VE:∀b o,X.s₀.heap.get? b=some o->b≠X.env.locals:=fun b o e=>aT (bz (aQ e) I.ok.above);have Qm:∀b o,X.s₀.heap.get? b=some o->b∉X.ex->b∉ch:=fun b o e hx hb=>by
  rcases(E3 b hb).1 with z|z
  .exact hx z
  .exact absurd (bz (aQ e) z) (f_ _)
 have HS:∀x c,X.env.cells.lookup x=some c->∀v,s.heap.IsCell c v->h'.IsCell c v:=fun x c e v ⟨o,ho,hd⟩=>by
  have Mw:c∉ch:=fun z=>(E3 c z).2.2.1 x c e rfl;by_cases hc:c∈X.fs
  .obtain⟨sl,q⟩:=slot c o (I.Fm x c e) hc Mw ho (I.fR x c e);exact⟨_,q,hd⟩
  .exact⟨o,keep c o (I.Fm x c e) hc Mw ho (I.fR x c e),hd⟩
 refine⟨I.ok,I.os,hg,⟨fun b o e n hb hx=>?_,fun b o e n hb hx=>?_,fun b o e n hx=>?_,fun b o e hx=>?_,fun b xs e=>ii b xs (I.base.ii b xs e),fun b o xs e=>iY b o xs (I.base.iY b o xs e),fun b ps e=>?_⟩,?_,fun x c e=>?_,?_,fun x c e=>?_,fun p hp=>?_,bq,I.len⟩
 .exact keep b o (VE b o e) hb (Qm b o e hx) (I.base.keep b o e n hb hx) (I.base.free b o e n hx)
 .obtain⟨sl,e1⟩:=I.base.slot b o e n hb hx;obtain⟨Rv,e2⟩:=slot b _ (VE b o e) hb (Qm b o e hx) e1 (I.base.free b o e n hx);exact⟨Rv,e2⟩
 .obtain⟨o',e1⟩:=I.base.there b o e hx;exact free b o' (Qm b o e hx) e1 (I.base.free b o e n hx)
 .obtain⟨o',e1⟩:=I.base.there b o e hx;exact there b o' (Qm b o e hx) e1
 .obtain⟨m1,e1⟩:=I.base.jJ b ps e;obtain⟨m2,e2⟩:=jJ b _ e1;exact⟨m1++m2,by rw[e2,Array.append_assoc]⟩
 .obtain⟨m,hn,hl⟩:=I.loc;refine⟨m,ns m hn,fun i x v e1 e2 e3=>?_⟩;obtain⟨u,r,l⟩:=hl i x v e1 e2 e3;refine⟨u,r,?_⟩;rcases l with l|⟨k,c,e,z⟩
  .exact .inl l
  .exact .inr ⟨k,c,e,HS x c e _ z⟩
 .obtain⟨v,z⟩:=I.cell x c e;exact⟨v,HS x c e v z⟩
 .obtain⟨m,⟨o,_,_,ho,_⟩,_⟩:=I.loc;exact free _ o (fun z=>(E3 _ z).2.1 rfl) ho I.free
 .obtain⟨v,o,ho,hd⟩:=I.cell x c e;exact free c o (fun z=>(E3 c z).2.2.1 x c e rfl) ho (I.fR x c e)
 .obtain⟨e,n,ne,nf,d⟩:=I.pin p hp;have Mw:p.1∉ch:=fun z=>(E3 p.1 z).2.2.2 p hp rfl;exact⟨keep p.1 p.2 ne nf Mw e n,free p.1 p.2 Mw e n,ne,nf,d⟩
theorem aF.un{t':Nat}(I:aF X ae σ H s)(u:Un X.fs [] H H' s.heap h')(bq:kl X.prog X.w H' h'):aF X ae σ H' { s with heap:=h',toks:=t' }:=by
 obtain⟨m,⟨o,es,ep,ho,r⟩,_⟩:=id I.loc;obtain⟨sl,hL⟩:=u.any ho I.free (by simp);exact I.step (g':=s.gens) (d':=s.drawn) (ch:=[]) (fun _ z=>nomatch z) (fun b o _ hb _ e n=>u.keep b o e n hb (by simp)) (fun b o _ hb _ e n=>u.slot b o e n hb (by simp)) (fun b o _ e n=>u.free b o e n (by simp)) (fun b o _ e=>u.there b o e (by simp)) u.ii u.iY u.jJ (fun m' hm=>by
  obtain⟨o',ww,Qn,uU,r'⟩:=hm;rw[ho] at uU;cases uU;exact⟨_,ww,Qn,hL,r'⟩) bq I.bare
theorem aF.call{g':Array GenState}{t':Nat}{d':Drawn}{ch:List Addr}(I:aF X ae σ H s)(u:Un (jR X.stack) ch H H' s.heap h')(bq:kl X.prog X.w H' h')(hg:AllBare g')(E3:∀b∈ch,(b∈X.ex\/X.s₀.heap.objs.size<=b)/\b≠X.env.locals/\(∀x c,X.env.cells.lookup x=some c->c≠b)/\∀p∈X.pn++ae,p.1≠b):
  aF X ae σ H' { s with heap:=h',gens:=g',drawn:=d',toks:=t' }:=by
 obtain⟨m,⟨o,es,ep,ho,r⟩,_⟩:=id I.loc;obtain⟨sl,hL⟩:=u.any ho I.free fun z=>(E3 _ z).2.1 rfl;exact I.step (ch:=ch) E3 (fun b o hL hb hc e n=>u.keep b o e n (fun z=>(bg.mp (I.sV b z)).elim hL hb) hc) (fun b o _ _ hc e n=>u.any e n hc) (fun b o hc e n=>u.free b o e n hc) (fun b o hc e=>u.there b o e hc) u.ii u.iY u.jJ (fun m' hm=>by
  obtain⟨o',ww,Qn,uU,r'⟩:=hm;rw[ho] at uU;cases uU;exact⟨_,ww,Qn,hL,r'⟩) bq hg
theorem aF.turned{t':Nat}{it:Addr}(I:aF X ae σ H s)(k:∀b o,b≠it->s.heap.get? b=some o->h'.get? b=some o)(hn:H it=none)(hL:it≠X.env.locals)(h1:it∈X.ex\/X.s₀.heap.objs.size<=it)(h2:∀x c,X.env.cells.lookup x=some c->c≠it)(h3:∀p∈X.pn++ae,p.1≠it):aF X ae σ H { s with heap:=h',toks:=t' }:=by
 have HU:∀b u,H b=some u->b≠it:=fun b u e z=>by rw[z,hn] at e;cases e
 refine I.step (g':=s.gens) (d':=s.drawn) (ch:=[it]) (fun b hb=>?_) (fun b o _ _ hc e _=>k b o (fun z=>hc (by simp[z])) e) (fun b o _ _ hc e _=>⟨o.slots,k b o (fun z=>hc (by simp[z])) e⟩) (fun _ _ _ _ n=>n)
  (fun b o hc e=>⟨o,k b o (fun z=>hc (by simp[z])) e⟩) (fun _ _ e=>e) (fun _ _ _ e=>e) (fun b ps e=>⟨#[],by rw[e];simp⟩) (fun m hm=>?_) (fun b u e=>?_) I.bare
 .have e:b=it:=by simpa using hb
  subst e;exact⟨h1,hL,h2,h3⟩
 .obtain⟨o,es,ep,ho,r⟩:=hm;exact⟨o,es,ep,k _ o (dq hL) ho,r⟩
 .refine(I.bq b u e).km (fun c v hc q=>k c v ?_ q) (fun _ q=>q) fun _ _ q=>q;rcases hc with z|z
  .rw[z];exact HU b u e
  .exact HU c _ z
theorem aF.tok(I:aF X ae σ H s)(t:Nat):aF X ae σ H { s with toks:=t }:=I.un (h':=s.heap) (t':=t) Un.refl I.bq
theorem aF.kept(I:aF X ae σ H s)(k:∀b u,s.heap.get? b=some u->h'.get? b=some u):aF X ae σ H { s with heap:=h',toks:=t' }:=I.un (Un.kept k) (I.bq.kept k)
theorem aF.laid(I:aF X ae σ H s)(k:∀b u,s.heap.get? b=some u->h'.get? b=some u)(hp:s.heap.objs.size<=a)(new:cw X.prog X.w (upd H a o) h' a o):
  aF X ae σ (upd H a o) { s with heap:=h',toks:=t' }:=I.un (Un.laid k hp (I.bq.fresh hp)) (I.bq.laid k hp new)
theorem aF.write(I:aF X ae σ H s)(mu:Qk (H x))(he:e=x\/H e=some (.own x))(k:∀b u,b≠e->s.heap.get? b=some u->h'.get? b=some u)(LV:∃u,h'.get? e=some u)(new:cw X.prog X.w (upd H x o) h' x o):aF X ae σ (upd H x o) { s with heap:=h',toks:=t' }:=I.un (Un.write mu he k LV) (I.bq.write mu he k LV new)
theorem aF.yS(I:aF X ae σ H s)(h:∀p∈o8,s.heap.get? p.1=some p.2/\H p.1=none/\p.1≠X.env.locals/\p.1∉X.fs/\∀v,p.2.data≠.cell v):aF X o8 σ H s:=
 ⟨I.ok,I.os,I.bare,I.base,I.loc,I.cell,I.free,I.fR,fun p hp=>(cf.mp hp).elim (fun z=>I.pin p (gO _ z)) (h p),I.bq,I.len⟩
theorem o9{N:List Str}(hN:N.Nodup){i j:Nat}{x:Str}(a:N[i]?=some x)(b:N[j]?=some x):i=j:=by
 obtain⟨h1,e1⟩:=cL.mp a;obtain⟨h2,e2⟩:=cL.mp b;exact(List.getElem_inj hN).mp (e1.trans e2.symm)
theorem jn{M:Model}{A:Around}{E:Value->Shared->Prop}{i:Nat}{x:Str}{v:V}{u:Value}{Q:Unit->Shared->Prop}(I:aF X ae σ H s)(hN:X.N.Nodup)(hi:X.N[i]?=some x)(hx:Mu X.env.scope x)(r:bA v u)(h:∀s',aF X ae (σ.set i (some v)) H s'->(∃a,Heap.SameBut a s.heap s'.heap/\(a=X.env.locals\/X.env.cells.lookup x=some a))->Q () s')(hf:X.fn x=true\/X.env.scope.names.lookup x=some .local:=by first|exact .inl rfl|exact .inr rfl|assumption):wpAny M A (storeName X.env x u) Q E s:=by
 obtain⟨m,hn,hl⟩:=id I.loc;have Jh:(X.env.scope.kind==.class||(X.env.scope.kind==.module&&X.env.locals != X.env.globals))=false:=by rw[I.ok.kind];rfl
 have hiσ:i<σ.length:=by rw[I.len];exact(cL.mp hi).1
 have Fm:=I.Fm;have yT:∀ {a:Addr} {h':Heap},(∃o,s.heap.get? a=some o/\H a=none)->Heap.SameBut a s.heap h'->kl X.prog X.w H h':=fun {a h'} ha hs b ob e=>by
  obtain⟨_,_,HV⟩:=ha;refine(I.bq b ob e).km (fun c w' hc q=>(hs.2 c ?_).trans q) (fun _ q=>q) fun _ _ q=>q;rintro rfl;rcases hc with rfl|hc
  .rw[HV] at e;cases e
  .rw[HV] at hc;cases hc
 rcases hx with hk|hk
 .refine wpAny_storeName_local hk hn (fun h' HW hs=>?_) Jh;obtain⟨oL,_,_,Ak,_⟩:=id hn;refine h _ ⟨I.ok,I.os,I.bare,⟨fun b o e n hb hx=>?_,fun b o e n hb hx=>?_,I.base.free,fun b o e hx=>?_,I.base.ii,I.base.iY,I.base.jJ⟩,⟨_,HW,fun j y v' e1 e2 e3=>?_⟩,fun y c e=>?_,I.free,I.fR,fun p hp=>?_,yT ⟨oL,Ak,I.free⟩ hs,by simpa using I.len⟩ ⟨_,hs,.inl rfl⟩
  .exact(hs.2 b (aT (bz (aQ e) I.ok.above))).trans (I.base.keep b o e n hb hx)
  .obtain⟨sl,e1⟩:=I.base.slot b o e n hb hx;exact⟨sl,(hs.2 b (aT (bz (aQ e) I.ok.above))).trans e1⟩
  .obtain⟨o',e1⟩:=I.base.there b o e hx;exact⟨o',(hs.2 b (aT (bz (aQ e) I.ok.above))).trans e1⟩
  .by_cases hj:j=i
   .subst hj;rw[hi] at e1;cases e1;rw[ot hiσ] at e2;cases e2;exact⟨u,r,.inl ⟨hk,by simp⟩⟩
   .rw[lV (dq hj)] at e2;obtain⟨u',r',q⟩:=hl j y v' e1 e2 e3;refine⟨u',r',?_⟩;rcases q with ⟨k,e⟩|⟨k,c,e,z⟩
    .refine .inl ⟨k,?_⟩;have:y≠x:=fun e=>hj (o9 hN e1 (e ▸ hi));simp[this,e]
    .exact .inr ⟨k,c,e,z.sameBut hs (Fm y c e)⟩
  .obtain⟨w',z⟩:=I.cell y c e;exact⟨w',z.sameBut hs (Fm y c e)⟩
  .obtain⟨e,n,ne,nf,d⟩:=I.pin p hp;exact⟨(hs.2 p.1 ne).trans e,n,ne,nf,d⟩
 .have Rx:X.fn x=true:=by
   rcases hf with z|z
   .exact z
   .rw[z] at hk;cases hk
  obtain⟨c,hc⟩:=I.ok.has x (.inl hk);obtain⟨w',z⟩:=I.cell x c hc;refine wpAny_storeName_cell I.ok.kind hk hc z (fun h' Ji hs=>?_);obtain⟨oc,LW,Ry⟩:=id z;refine h { s with heap:=h' } ⟨I.ok,I.os,I.bare,⟨fun b o e n hb hx=>?_,fun b o e n hb hx=>?_,I.base.free,fun b o e hx=>?_,I.base.ii,I.base.iY,I.base.jJ⟩,⟨m,hn.sameBut hs (dq (Fm x c hc)),fun j y v' e1 e2 e3=>?_⟩,fun y c' e=>?_,I.free,I.fR,fun p hp=>?_,yT ⟨oc,LW,I.fR x c hc⟩ hs,by simpa using I.len⟩ ⟨c,hs,.inr hc⟩
  .exact(hs.2 b (aT (bz (aQ e) (I.ok.Jg x c Rx hc)))).trans (I.base.keep b o e n hb hx)
  .obtain⟨sl,e1⟩:=I.base.slot b o e n hb hx;exact⟨sl,(hs.2 b (aT (bz (aQ e) (I.ok.Jg x c Rx hc)))).trans e1⟩
  .obtain⟨o',e1⟩:=I.base.there b o e hx;exact⟨o',(hs.2 b (aT (bz (aQ e) (I.ok.Jg x c Rx hc)))).trans e1⟩
  .by_cases hj:j=i
   .subst hj;rw[hi] at e1;cases e1;rw[ot hiσ] at e2;cases e2;exact⟨u,r,.inr ⟨.inl hk,c,hc,Ji⟩⟩
   .rw[lV (dq hj)] at e2;obtain⟨u',r',q⟩:=hl j y v' e1 e2 e3;refine⟨u',r',?_⟩;rcases q with q|⟨k,c',e,z'⟩
    .exact .inl q
    .refine .inr ⟨k,c',e,z'.sameBut hs ?_⟩;rintro rfl;exact hj (o9 hN e1 (I.ok.inj _ _ _ e hc ▸ hi))
  .by_cases VF:c'=c
   .subst VF;exact⟨_,Ji⟩
   .obtain⟨w2,z2⟩:=I.cell y c' e;exact⟨w2,z2.sameBut hs VF⟩
  .obtain⟨e,n,ne,nf,d⟩:=I.pin p hp;refine⟨(hs.2 p.1 ?_).trans e,n,ne,nf,d⟩;intro q;rw[q,LW] at e;have q':oc=p.2:=bt e;exact d w' (by rw[<-q'];exact Ry)
theorem o_(I:aF X ae σ H s)(hN:X.N.Nodup)(hi:X.N[i]?=some x)(hx:Mu X.env.scope x)(r:bA v u)(h:∀s',aF X ae (σ.set i (some v)) H s'->Q () s')(hf:X.fn x=true\/X.env.scope.names.lookup x=some .local:=by first|exact .inl rfl|exact .inr rfl|assumption):wpAny M A (storeName X.env x u) Q E s:=
 jn I hN hi hx r (fun s' I' _=>h s' I') hf
theorem aF.HX(I:aF X ae σ H s)(ho:s'.os=s.os)(u:Un (jR X.stack) ch H H' s.heap s'.heap)(bq:kl X.prog X.w H' s'.heap)(hg:AllBare s'.gens)(E3:∀b∈ch,(b∈X.ex\/X.s₀.heap.objs.size<=b)/\b≠X.env.locals/\(∀x c,X.env.cells.lookup x=some c->c≠b)/\∀p∈X.pn++ae,p.1≠b):aF X ae σ H' s':=by
 obtain⟨h',g',d',t',o'⟩:=s';have e:o'=s.os:=ho;subst e;exact I.call (g':=g') (t':=t') (d':=d') u bq hg E3
end
abbrev XK:=Value->Option Addr->Hp->Prop
abbrev St:=List (Option V)
abbrev VK:=V->Hp->Prop
abbrev TE:=St->Hp->VK->Prop
abbrev TT:=St->Hp->(Bool->Hp->Prop)->Prop
abbrev TA:=St->Hp->(List V->Hp->Prop)->Prop
structure sX where
 nx:St->Hp->Prop
 rt:VK
 bk:St->Hp->Prop:=fun _ _=>False
 ct:St->Hp->Prop:=fun _ _=>False
abbrev TS:=sX->St->Hp->Prop
def EP(X:Cx)(ae:List (Addr×Obj))(σ:St)(Q:VK)(u:Value)(s':Shared):Prop:=∃v H',aF X ae σ H' s'/\bA v u/\Q v H'
def TP(X:Cx)(ae:List (Addr×Obj))(σ:St)(Q:Bool->Hp->Prop)(b:Bool)(s':Shared):Prop:=∃H',aF X ae σ H' s'/\Q b H'
def AP(X:Cx)(ae:List (Addr×Obj))(σ:St)(Q:List V->Hp->Prop)(us:List Value)(s':Shared):Prop:=∃vs H',aF X ae σ H' s'/\aP vs us/\Q vs H'
def SP(X:Cx)(ae:List (Addr×Obj))(D:sX)(f:Flow)(s':Shared):Prop:=
 match f with
 |.next=>∃σ' H',aF X ae σ' H' s'/\D.nx σ' H'
 |.brk=>∃σ' H',aF X ae σ' H' s'/\D.bk σ' H'
 |.cont=>∃σ' H',aF X ae σ' H' s'/\D.ct σ' H'
 |.ret u=>∃v σ' H',aF X ae σ' H' s'/\bA v u/\D.rt v H'
def PE(X:Cx)(e:Expr)(t:TE):Prop:=
 ∀ (ae:List (Addr×Obj)) (s:Shared) (σ:St) (H:Hp) (Q:VK),aF X ae σ H s->t σ H Q->wpAny (model X.prog X.w) X.A (eval e X.env) (EP X ae σ Q) X.xe s
def PT(X:Cx)(e:Expr)(t:TT):Prop:=
 ∀ (ae:List (Addr×Obj)) (s:Shared) (σ:St) (H:Hp) (Q:Bool->Hp->Prop),aF X ae σ H s->t σ H Q->wpAny (model X.prog X.w) X.A (isTrue e X.env (eval e X.env)) (TP X ae σ Q) X.xe s
def PW(X:Cx)(e:Expr)(t:TT):Prop:=
 ∀ (yU:Sem Value) (ae:List (Addr×Obj)) (s:Shared) (σ:St) (H:Hp) (Q:Bool->Hp->Prop),aF X ae σ H s->t σ H Q->wpAny (model X.prog X.w) X.A (isTrue e X.env yU) (TP X ae σ Q) X.xe s
theorem PW.pt(h:PW X e t):PT X e t:=h _
def PA(X:Cx)(es:List Expr)(t:TA):Prop:=
 ∀ (pos:Pos) (ae:List (Addr×Obj)) (s:Shared) (σ:St) (H:Hp) (Q:List V->Hp->Prop),aF X ae σ H s->t σ H Q->wpAny (model X.prog X.w) X.A (spliced (backTo pos (starEach es X.env))) (AP X ae σ Q) X.xe s
def PS(X:Cx)(st:Stmt)(t:TS):Prop:=
 ∀ (ae:List (Addr×Obj)) (s:Shared) (σ:St) (H:Hp) (D:sX),aF X ae σ H s->t D σ H->wpAny (model X.prog X.w) X.A (exec st X.env) (SP X ae D) X.xe s
def qq(X:Cx)(st:List Stmt)(t:TS):Prop:=
 ∀ (ae:List (Addr×Obj)) (s:Shared) (σ:St) (H:Hp) (D:sX),aF X ae σ H s->t D σ H->wpAny (model X.prog X.w) X.A (execs st X.env) (SP X ae D) X.xe s
theorem cE(h:wpAny M A t Q E s)(hQ:∀a s,Q a s->Q' a s):wpAny M A t Q' E s:=gw h hQ fun _ _ x=>x
section
variable {X:Cx}
def bU(i:Nat):TE:=fun σ H Q=>∃v,σ[i]?=some (some v)/\Q v H
def tC(v:V):TE:=fun _ H Q=>Q v H
theorem Jj(hN:X.N[i]?=some x)(hv:Mt X.env.scope x)(hd:(x==("__debug__":Str))=false:=by decide)(mY:(x==("__classdict__":Str))=false:=by decide):PE X (.Name x pos) (bU i):=by
 intro ae s σ H Q I h;obtain⟨v,e,h⟩:=h;obtain⟨m,hn,hl⟩:=I.loc;obtain⟨u,r,l⟩:=hl i x v hN e hv;have fin:EP X ae σ Q u s:=⟨v,H,I,r,h⟩
 rcases l with ⟨hk,hm⟩|⟨hk,c,hc,yV⟩
 .exact md (xb I.ok.kind hk hn hm fin) hd
 .rcases hk with hk|hk
  .exact md (wpAny_loadName_cell I.ok.kind hk hc yV fin) hd
  .exact md (xm I.ok.kind hk hc yV fin mY) hd
theorem az{i j pos}:PE X (.Constant (.int i) j pos) (tC (.int i)):=fun _ _ _ H _ I h=>wpAny_Constant_int ⟨.int i,H,I.tok _,⟨_,rfl⟩,h⟩
theorem gg{b j pos}:PE X (.Constant (.bool b) j pos) (tC (.bl b)):=fun _ _ _ H _ I h=>Constant_bool ⟨.bl b,H,I,rfl,h⟩
theorem sY{j pos}:PE X (.Constant .none j pos) (tC .bV):=fun _ _ _ H _ I h=>Constant_none ⟨.bV,H,I,rfl,h⟩
theorem kn{x j pos}:PE X (.Constant (.str x) j pos) (tC (.str x)):=fun _ _ _ H _ I h=>Calls.Constant_str ⟨.str x,H,I.tok _,⟨_,rfl⟩,h⟩
def Gl(X:Cx)(x:Str):Prop:=X.env.kindOf x=some .globalImplicit
theorem jo(I:aF X ae σ H s)(hg:Gl X x)(hm:X.mg x=some u)(h:Q u s)(hd:(x==("__debug__":Str))=false:=by decide):wpAny (model X.prog X.w) X.A (eval (.Name x pos) X.env) Q E s:=
 wO I.ok.kind hg (Calls.loadGlobal_global (by rw[I.ok.glob];exact I.mod.glob.keeps I.bk) hm h) hd
theorem kq(I:aF X ae σ H s)(hg:Gl X x)(hm:X.mg x=none)(hv:bootBuiltins x=some u)(h:Q u s)(hn:x≠"__name__":=by decide)(hd:(x==("__debug__":Str))=false:=by decide):wpAny (model X.prog X.w) X.A (eval (.Name x pos) X.env) Q E s:=by
 obtain⟨mb,h1,h2⟩:=I.mod.blt;exact wO I.ok.kind hg (Calls.loadGlobal_builtin (by rw[I.ok.glob];exact I.mod.glob.keeps I.bk) hm (by rw[I.ok.blt];exact h1.keeps I.bk) ((h2 x hn).trans hv) h) hd
theorem bW(hg:Gl X x)(hm:X.mg x=some u)(r:bA v u)(hd:(x==("__debug__":Str))=false:=by decide):PE X (.Name x pos) (tC v):=
 fun _ _ _ H _ I h=>jo I hg hm ⟨v,H,I,r,h⟩ hd
theorem gh(hg:Gl X x)(hm:X.mg x=none)(hv:bootBuiltins x=some u)(r:bA v u)(hn:x≠"__name__":=by decide)(hd:(x==("__debug__":Str))=false:=by decide):PE X (.Name x pos) (tC v):=
 fun _ _ _ H _ I h=>kq I hg hm hv ⟨v,H,I,r,h⟩ hn hd
variable {a b:Expr} {ta tb:TE} {pos:Pos}
def tB(t:TE):TT:=fun σ H Q=>t σ H fun x H1=>∃c,x=.bl c/\Q c H1
theorem dE(h:PE X e t)(he:∀yU,isTrue e X.env yU=(do let v <- yU;standAt e.pos;holding [v] (truthy v)):=by intro _;rfl):PT X e (tB t):=by
 intro ae s σ H Q I hw;refine isTrue_plain (cE (h ae s σ H _ I hw) fun v s1 ⟨x,H1,I1,r1,q1⟩=>?_) (he _);obtain⟨d,rfl,q⟩:=q1;cases r1;exact oN ⟨H1,I1,q⟩
variable {tA VG:TT} {qA:List Expr}
def XD(t u:TT):TT:=fun σ H Q=>t σ H fun c H1=>if c=true then Q true H1 else u σ H1 Q
def Rz(t:TT):TT:=fun σ H Q=>t σ H fun c H1=>Q (!c) H1
theorem pc(ha:PT X a tA):PW X (.BoolOp .Or [a] pos) tA:=by
 intro wh ae s σ H Q I h;refine isTrue_or (cE (ha ae s σ H Q I h) fun c s1 e=>?_);cases c with
 |false=>exact isTrue_or_nil e
 |true=>exact e
theorem va(ha:PT X a tA)(hb:PW X (.BoolOp .Or (b::qA) pos) VG):PW X (.BoolOp .Or (a::b::qA) pos) (XD tA VG):=by
 intro wh ae s σ H Q I h;refine isTrue_or (cE (ha ae s σ H _ I h) fun c s1 ⟨H1,I1,q1⟩=>?_);cases c with
 |true=>exact⟨H1,I1,q1⟩
 |false=>exact hb wh ae s1 σ H1 Q I1 q1
theorem et(ha:PT X a tA):PT X (.UnaryOp .Not a pos) (Rz tA):=by
 intro ae s σ H Q I h;exact isTrue_not (ha ae s σ H (fun c H1=>Q (!c) H1) I h)
def Mx(ta tb:TE):TE:=fun σ H Q=>ta σ H fun x H1=>∃c,x=.bl c/\if c=true then tb σ H1 Q else Q (.bl false) H1
def My(ta:TE):TE:=fun σ H Q=>ta σ H fun x H1=>∃c,x=.bl c/\Q (.bl (!c)) H1
theorem pe{op}(h:PE X a t):PE X (.BoolOp op [a] pos) t:=fun ae s σ H Q I hw=>BoolOp_one (h ae s σ H Q I hw)
theorem mf(ha:PE X a ta)(hb:PE X (.BoolOp .And (b::qA) pos) tb):PE X (.BoolOp .And (a::b::qA) pos) (Mx ta tb):=by
 intro ae s σ H Q I h;refine BoolOp_and (cE (ha ae s σ H _ I h) fun v s1 ⟨x,H1,I1,r1,q1⟩=>?_);obtain⟨c,rfl,q1⟩:=q1;cases r1;refine oN ?_;cases c with
 |true=>exact hb ae s1 σ H1 Q I1 q1
 |false=>exact⟨.bl false,H1,I1,rfl,q1⟩
theorem Jk(ha:PE X a ta):PE X (.UnaryOp .Not a pos) (My ta):=by
 intro ae s σ H Q I h;refine UnaryOp_ (cE (ha ae s σ H _ I h) fun v s1 ⟨x,H1,I1,r1,q1⟩=>?_);obtain⟨c,rfl,q1⟩:=q1;cases r1;exact not_of (oN ⟨.bl (!c),H1,I1,rfl,q1⟩)
def VH(t:TT)(ta tb:TE):TE:=fun σ H Q=>t σ H fun c H1=>if c=true then ta σ H1 Q else tb σ H1 Q
theorem B4(hc:PT X c tA)(ha:PE X a ta)(hb:PE X b tb):PE X (.IfExp c a b pos) (VH tA ta tb):=by
 intro ae s σ H Q I h;refine wpAny_IfExp (cE (hc ae s σ H _ I h) fun d s1 ⟨H1,I1,q1⟩=>?_);cases d with
 |true=>exact ha ae s1 σ H1 Q I1 q1
 |false=>exact hb ae s1 σ H1 Q I1 q1
end
def a_(K:PySem.W.Frag)(H:Hp)(a:Addr)(xs:List V):Prop:=
 Rd H a (.lst xs)\/
  ∃ (o:Obj) (its:Array Value) (n:Nat),K.lookup a=some o/\o.cls=.type "list"/\o.dict=none/\o.data=.seq its n/\its.size<=sizeLine/\aP xs its.toList
def cI(K:PySem.W.Frag)(H:Hp)(a:Addr)(xs:List V):Prop:=
 Rd H a (.tup xs)\/
  ∃ (o:Obj) (its:Array Value) (n:Nat),K.lookup a=some o/\o.cls=.type "tuple"/\o.data=.seq its n/\its.size<=sizeLine/\aP xs its.toList
def RA:Value->Option V
 |.none=>some .bV
 |.bool b=>some (.bl b)
 |.int i _=>some (.int i)
 |.str x _=>some (.str x)
 |.bytes b _=>some (.BB b)
 |.float b _=>some (.Jf b)
 |.ref a=>some (.ref a)
 |.type n=>some (.ty n)
 |_=>none
theorem bA.abs(r:bA x u):RA u=some x:=by
 cases x with
 |bV=>cases r;rfl
 |bl _=>cases r;rfl
 |int _=>obtain⟨t,rfl⟩:=r;rfl
 |str _=>obtain⟨t,rfl⟩:=r;rfl
 |BB _=>obtain⟨t,rfl⟩:=r;rfl
 |Jf _=>obtain⟨t,rfl⟩:=r;rfl
 |ref _=>cases r;rfl
 |ty _=>cases r;rfl
theorem bA.inj(r:bA x u)(q:bA y u):x=y:=bt (r.abs.symm.trans q.abs)
theorem aP.inj:∀ {xs ys:List V} {us:List Value},aP xs us->aP ys us->xs=ys
 |_,_,_,.nil,.nil=>rfl
 |_,_,_,.cons r t,.cons r' t'=>by rw[r.inj r',aP.inj t t']
section
variable {X:Cx} {ae:List (Addr×Obj)} {σ:St} {H:Hp} {s:Shared} {a:Addr} {xs ys:List V}
theorem a_.of{K:PySem.W.Frag}(h:H a=some (.lst xs)):a_ K H a xs:=.inl (.inl h)
theorem cI.of{K:PySem.W.Frag}(h:H a=some (.tup xs)):cI K H a xs:=.inl (.inl h)
theorem aF.list(I:aF X ae σ H s)(h:a_ X.K H a xs):∃its:List Value,aP xs its/\PlainL s.heap a its.toArray/\xs.length<=sizeLine:=by
 rcases h with h|⟨o,its,n,hk,hc,hd,hs,hz,r⟩
 .obtain⟨z,its,n,r,e⟩:=h.ok I.bq;exact⟨its,r,⟨_,n,e,rfl,rfl,rfl⟩,z⟩
 .refine⟨its.toList,r,⟨o,n,I.jm a o hk,hc,hd,by simpa using hs⟩,?_⟩;have e:=r.length;simp only[f8] at e;lia
theorem aF.tuple(I:aF X ae σ H s)(h:cI X.K H a xs):∃its:List Value,aP xs its/\IsTup s.heap a its.toArray/\xs.length<=sizeLine:=by
 rcases h with h|⟨o,its,n,hk,hc,hs,hz,r⟩
 .obtain⟨z,its,r,p⟩:=h.ok I.bq;exact⟨its,r,p.tup,z⟩
 .refine⟨its.toList,r,⟨o,I.jm a o hk,hc,n,by simpa using hs⟩,?_⟩;have e:=r.length;simp only[f8] at e;lia
theorem aF.pf(I:aF X ae σ H s)(h:a_ X.K H a xs)(h':a_ X.K H a ys):xs=ys:=by
 obtain⟨its,r,⟨o,n,e,_,_,d⟩,_⟩:=I.list h;obtain⟨its',r',⟨o',n',e',_,_,d'⟩,_⟩:=I.list h';rw[e] at e';cases e';rw[d] at d';injection d' with d1 _;have:its=its':=by simpa using congrArg Array.toList d1
 subst this;exact r.inj r'
theorem aF.qS(I:aF X ae σ H s)(h:cI X.K H a xs)(h':cI X.K H a ys):xs=ys:=by
 obtain⟨its,r,⟨o,e,_,n,d⟩,_⟩:=I.tuple h;obtain⟨its',r',⟨o',e',_,n',d'⟩,_⟩:=I.tuple h';rw[e] at e';cases e';rw[d] at d';injection d' with d1 _;have:its=its':=by simpa using congrArg Array.toList d1
 subst this;exact r.inj r'
end
abbrev Cx.qB(X:Cx)(E:Value->Shared->Prop):Cx:={ X with xe:=E }
abbrev Cx.E4(X:Cx):Cx:=X.qB fun _ _=>False
theorem Cx.Ok.qB{X:Cx}(ok:X.Ok)(E:Value->Shared->Prop):(X.qB E).Ok:=
 ⟨ok.mod,ok.kind,ok.glob,ok.blt,ok.above,ok.inj,ok.has,ok.Jg,ok.hd,ok.frames,ok.BC,ok.Mv,ok.bs,ok.Ai,ok.me,ok.Aj,ok.iZ,ok.BE⟩
theorem Cx.Ok.i6{X:Cx}{E:Value->Shared->Prop}(ok:(X.qB E).Ok):X.Ok:=
 ⟨ok.mod,ok.kind,ok.glob,ok.blt,ok.above,ok.inj,ok.has,ok.Jg,ok.hd,ok.frames,ok.BC,ok.Mv,ok.bs,ok.Ai,ok.me,ok.Aj,ok.iZ,ok.BE⟩
section
variable {X:Cx} {ae:List (Addr×Obj)} {σ:St} {H:Hp} {s:Shared} {E:Value->Shared->Prop}
theorem aF.qB(I:aF X ae σ H s)(E:Value->Shared->Prop):aF (X.qB E) ae σ H s:=⟨I.ok.qB E,I.os,I.bare,I.base,I.loc,I.cell,I.free,I.fR,I.pin,I.bq,I.len⟩
theorem aF.i6(I:aF (X.qB E) ae σ H s):aF X ae σ H s:=⟨I.ok.i6,I.os,I.bare,I.base,I.loc,I.cell,I.free,I.fR,I.pin,I.bq,I.len⟩
theorem SP.i6(h:SP (X.qB E) ae D f s'):SP X ae D f s':=by
 cases f with
 |next=>obtain⟨σ',H',I,q⟩:=h;exact⟨σ',H',I.i6,q⟩
 |brk=>obtain⟨σ',H',I,q⟩:=h;exact⟨σ',H',I.i6,q⟩
 |cont=>obtain⟨σ',H',I,q⟩:=h;exact⟨σ',H',I.i6,q⟩
 |ret u=>obtain⟨v,σ',H',I,r,q⟩:=h;exact⟨v,σ',H',I.i6,r,q⟩
theorem qq.E4{st:List Stmt}{t:TS}(h:qq X.E4 st t):qq X st t:=fun ae s σ H D I hw=>
 gw (h ae s σ H D (I.qB _) hw) (fun _ _ q=>q.i6) fun _ _ z=>False.elim z
end
section
variable {X:Cx} {st:Stmt} {qA:List Stmt} {t u:TS} {e:Expr} {te:TE} {pos:Pos}
def Mz:TS:=fun D σ H=>D.nx σ H
def ME(t u:TS):TS:=fun D σ H=>t { D with nx:=u D } σ H
theorem aX:qq X [] Mz:=fun _ _ σ H _ I h=>oR ⟨σ,H,I,h⟩
theorem ah(h1:PS X st t)(h2:qq X qA u):qq X (st::qA) (ME t u):=by
 intro ae s σ H D I h;refine wpAny_execs_cons (cE (h1 ae s σ H { D with nx:=u D } I h) fun f s1 q=>?_);cases f with
 |next=>
  obtain⟨σ',H',I',q⟩:=q;exact h2 ae s1 σ' H' D I' q
 |ret v=>exact q
 |brk=>exact q
 |cont=>exact q
theorem ak(h1:PS X st t):qq X [st] t:=by
 intro ae s σ H D I h;refine wpAny_execs_cons (cE (h1 ae s σ H D I h) fun f s1 q=>?_);cases f with
 |next=>exact oR q
 |ret v=>exact q
 |brk=>exact q
 |cont=>exact q
theorem aF.quiet(I:aF X ae σ H s):interactive X.env=false:=by simp[interactive,I.ok.kind]
def HY(te:TE):TS:=fun D σ H=>te σ H fun _ H1=>D.nx σ H1
theorem b_(he:PE X e te)(hs:swapsWith e none pos.line X.env=pure false:=by rfl):PS X (.Expr e pos) (HY te):=by
 intro ae s σ H D I h;exact wpAny_Expr_any (cE (he ae s σ H _ I h) fun v s1 ⟨x,H1,I1,r1,q1⟩=>⟨σ,H1,I1,q1⟩) I.quiet hs
def RB(te:TE):TS:=fun D σ H=>te σ H D.rt
theorem aN(he:PE X e te):PS X (.Return (some e) pos) (RB te):=by
 intro ae s σ H D I h;exact wpAny_Return_some (cE (he ae s σ H _ I h) fun v s1 ⟨x,H1,I1,r1,q1⟩=>⟨x,σ,H1,I1,r1,q1⟩)
def RC(c:TT)(t u:TS):TS:=fun D σ H=>c σ H fun b H1=>if b=true then t D σ H1 else u D σ H1
theorem bZ(hc:PT X c tc)(ha:qq X a t)(hb:qq X b u):PS X (.If c a b pos) (RC tc t u):=by
 intro ae s σ H D I h;refine wpAny_If (cE (hc ae s σ H _ I h) fun d s1 ⟨H1,I1,q1⟩=>?_);cases d with
 |true=>exact ha ae s1 σ H1 D I1 q1
 |false=>exact hb ae s1 σ H1 D I1 q1
def Jl:TS:=fun _ _ _=>False
theorem dg:qq X sts Jl:=fun _ _ _ _ _ _ h=>h.elim
end
abbrev TG:=V->St->Hp->(St->Hp->Prop)->Prop
abbrev MJ:=List V->St->Hp->(St->Hp->Prop)->Prop
def PG(X:Cx)(Jm:Expr)(t:TG):Prop:=
 ∀ (ae:List (Addr×Obj)) (s:Shared) (σ:St) (H:Hp) (v:V) (u:Value) (Q:St->Hp->Prop),aF X ae σ H s->bA v u->t v σ H Q->
  wpAny (model X.prog X.w) X.A (assign Jm X.env u) (fun _ s'=>∃σ' H',aF X ae σ' H' s'/\Q σ' H') X.xe s
def Qo(X:Cx)(ts:List Expr)(t:MJ):Prop:=
 ∀ (ae:List (Addr×Obj)) (s:Shared) (σ:St) (H:Hp) (vs:List V) (us:List Value) (Q:St->Hp->Prop),aF X ae σ H s->aP vs us->t vs σ H Q->
  wpAny (model X.prog X.w) X.A (assignInOrder ((assignEach ts X.env).map (·.2)) us) (fun _ s'=>∃σ' H',aF X ae σ' H' s'/\Q σ' H') X.xe s
abbrev ML:=V->V->V->Hp->(Hp->Prop)->Prop
def MQ(X:Cx)(t:ML):Prop:=
 ∀ (ae:List (Addr×Obj)) (s:Shared) (σ:St) (H:Hp) (o i v:V) (ov iv u:Value) (Q:Hp->Prop),aF X ae σ H s->bA o ov->bA i iv->bA v u->t o i v H Q->
  wpAny (model X.prog X.w) X.A (setItem ov iv u) (fun _ s'=>∃H',aF X ae σ H' s'/\Q H') X.xe s
abbrev RD:=V->V->Hp->VK->Prop
def Qp(X:Cx)(op:Operator)(t:RD):Prop:=
 ∀ (ae:List (Addr×Obj)) (s:Shared) (σ:St) (H:Hp) (x y:V) (v u:Value) (Q:VK),aF X ae σ H s->bA x v->bA y u->t x y H Q->
  wpAny (model X.prog X.w) X.A (inplaceOp op v u) (EP X ae σ Q) X.xe s
section
variable {X:Cx} {pos:Pos}
def bp(i:Nat):TG:=fun v σ H Q=>Q (σ.set i (some v)) H
theorem aB(hN:X.N.Nodup)(hi:X.N[i]?=some x)(hx:Mu X.env.scope x)(hf:X.fn x=true\/X.env.scope.names.lookup x=some .local:=by first|exact .inl rfl|exact .inr rfl|assumption):PG X (.Name x pos) (bp i):=by
 intro ae s σ H v u Q I r h;exact wpAny_assign_Name (o_ I hN hi hx r (fun s' I'=>⟨_,H,I',h⟩) hf)
def qC:MJ:=fun vs σ H Q=>vs=[]/\Q σ H
def dN(t:TG)(u:MJ):MJ:=fun vs σ H Q=>∃v r,vs=v::r/\t v σ H fun σ' H'=>u r σ' H' Q
theorem cU:Qo X [] qC:=by
 intro ae s σ H vs us Q I r h;obtain⟨e,h⟩:=h;subst e;cases r;exact assignInOrder_nil ⟨σ,H,I,h⟩
theorem aU(h1:PG X e t)(h2:Qo X es u)(hs:(assignEach (e::es) X.env).map (·.2)=assign e X.env::(assignEach es X.env).map (·.2):=by rfl):Qo X (e::es) (dN t u):=by
 intro ae s σ H vs us Q I r h;obtain⟨v,vr,e1,h⟩:=h;subst e1;cases r with
 |cons r rr=>
  rw[hs];refine assignInOrder_cons (cE (h1 ae s σ H _ _ _ I r h) fun _ s1 ⟨σ1,H1,I1,q1⟩=>?_);exact h2 ae s1 σ1 H1 _ _ Q I1 rr q1
def qD(K:PySem.W.Frag)(n:Nat)(t:MJ):TG:=fun v σ H Q=>∃a xs,v=.ref a/\cI K H a xs/\xs.length=n/\t xs σ H Q
theorem dO(hc:X.calm=true)(h:Qo X es t)(hn:(assignEach es X.env).length=n:=by rfl)(jp:(assignEach es X.env).findIdx? (·.1)=none:=by rfl):PG X (.Tuple es k pos) (qD X.K n t):=by
 intro ae s σ H v u Q I r hw;obtain⟨a,xs,e1,hq,hl,hw⟩:=hw;subst e1;cases r;obtain⟨its,rv,ht,hz⟩:=I.tuple hq;refine assign_Tuple_tuple (I.ok.hd hc) ht (by simp[hn,<-hl,rv.length]) jp fun h' hx=>?_;have I1:aF X ae σ H { s with heap:=h' }:=I.kept (t':=s.toks) fun b o e=>hx b o (aT (aQ e)) e;exact h ae _ σ H xs _ Q I1 (by simpa using rv) hw
def RE(to ti:TE)(t:ML):TG:=fun v σ H Q=>to σ H fun o H1=>ti σ H1 fun i H2=>t o i v H2 fun H3=>Q σ H3
theorem sZ(ho:PE X o to)(hi:PE X i ti)(hs:MQ X t)(ha:∀v,assign (.Subscript o i pos) X.env v=(do
   let ov <- holding [v] (eval o X.env)
   let iv <- holding [v,ov] (eval i X.env)
   standAt pos
   holding [v,ov,iv] (setItem ov iv v)
   release [v,ov,iv] []):=by intro _;rfl):PG X (.Subscript o i pos) (RE to ti t):=by
 intro ae s σ H v u Q I r h;rw[ha];refine ap (fK (cE (ho ae s σ H _ I h) fun ov s1 ⟨x,H1,I1,r1,q1⟩=>?_));refine ap (fK (cE (hi ae s1 σ H1 _ I1 q1) fun iv s2 ⟨y,H2,I2,r2,q2⟩=>?_));refine ap (o0 (ap (fK (cE (hs ae s2 σ H2 x y v ov iv u _ I2 r1 r2 r q2) fun _ s3 ⟨H3,I3,q3⟩=>?_))));exact wpAny_release ⟨σ,H3,I3,q3⟩
def Al(te:TE)(g:TG):TS:=fun D σ H=>te σ H fun x H1=>g x σ H1 D.nx
theorem mh(he:PE X e te)(hg:PG X tg g)(hs:swapsWithSole [tg] e pos.line X.env=pure false:=by rfl)(hw:swappedStores [tg] e X.env=pure none:=by rfl)(h1:(assignEach [tg] X.env).map (·.2)=[assign tg X.env]:=by rfl):PS X (.Assign [tg] e pos) (Al te g):=by
 intro ae s σ H D I h;refine wpAny_Assign_stores (cE (he ae s σ H _ I h) fun v s1 ⟨x,H1,I1,r1,q1⟩=>?_) hs hw;rw[h1];exact cE (hg ae s1 σ H1 x v _ I1 r1 q1) fun _ s2 q=>q
theorem aK(hN:X.N.Nodup)(hi:X.N[i]?=some x)(hx:Mu X.env.scope x)(he:PE X e te)(hs:swapsWith e (some (.Name x Am)) pos.line X.env=pure false:=by rfl)(hf:X.fn x=true\/X.env.scope.names.lookup x=some .local:=by first|exact .inl rfl|exact .inr rfl|assumption):
  PS X (.Assign [.Name x Am] e pos) (Al te (bp i)):=by
 intro ae s σ H D I h;refine wpAny_Assign_Name (cE (he ae s σ H _ I h) fun v s1 ⟨y,H1,I1,r1,q1⟩=>?_) hs;exact o_ I1 hN hi hx r1 (fun s2 I2=>⟨_,H1,I2,q1⟩) hf
def RF(i:Nat)(te:TE)(ti:RD):TS:=fun D σ H=>∃x,σ[i]?=some (some x)/\te σ H fun y H1=>ti x y H1 fun z H2=>D.nx (σ.set i (some z)) H2
theorem mi(hN:X.N.Nodup)(hi:X.N[i]?=some x)(hx:Mu X.env.scope x)(he:PE X e te)(ho:Qp X op ti)(hf:X.fn x=true\/X.env.scope.names.lookup x=some .local:=by first|exact .inl rfl|exact .inr rfl|assumption):
  PS X (.AugAssign (.Name x Am) op e pos) (RF i te ti):=by
 intro ae s σ H D I h;obtain⟨v,e1,h⟩:=h;obtain⟨m,hn,hl⟩:=I.loc;have RG:Mt X.env.scope x:=by rcases hx with k|k;exact .inl k;exact .inr (.inl k)
 obtain⟨u,r,l⟩:=hl i x v hi e1 RG;refine wpAny_AugAssign_Name ?_;have go:wpAny (model X.prog X.w) X.A (eval e X.env) (fun w s₂=>wpAny (model X.prog X.w) X.A (inplaceOp op u w) (fun r s₃=>wpAny (model X.prog X.w) X.A (storeName X.env x r) (fun _=>SP X ae D .next) X.xe s₃) X.xe s₂) X.xe s:=by
  refine cE (he ae s σ H _ I h) fun w s1 ⟨y,H1,I1,r1,q1⟩=>?_;refine cE (ho ae s1 σ H1 v y u w _ I1 r r1 q1) fun z s2 ⟨zv,H2,I2,r2,q2⟩=>?_;exact o_ I2 hN hi hx r2 (fun s3 I3=>⟨_,H2,I3,q2⟩) hf
 rcases l with ⟨hk,hm⟩|⟨hk,c,hc,yV⟩
 .exact xb I.ok.kind hk hn hm go
 .rcases hk with hk|hk
  .exact wpAny_loadName_cell I.ok.kind hk hc yV go
  .rcases hx with k|k
   .have:X.env.scope.names.lookup x=some .free:=hk;rw[k] at this;cases this
   .have:X.env.scope.names.lookup x=some .free:=hk;rw[k] at this;cases this
def XE(f:Int->Int->Int):RD:=fun x y H Q=>∃i j,x=.int i/\y=.int j/\Q (.int (f i j)) H
theorem B5:Qp X .Add (XE fun i j=>i+j):=by
 intro ae s σ H x y v u Q I r1 r2 h;obtain⟨i,j,e1,e2,q⟩:=h;subst e1;subst e2;obtain⟨t,rfl⟩:=r1;obtain⟨t',rfl⟩:=r2;exact iadd_int ⟨.int _,H,I.tok _,⟨_,rfl⟩,q⟩
def B6(c:TT)(tb:TS):TS:=fun D σ H=>∃W:Nat->St->Hp->Prop,(∃m,W m σ H)/\∀m σ H,W m σ H->
 c σ H fun b H1=>if b=true then ∃N:St->Hp->Prop,(∀σ' H',N σ' H'->∃m',m'<m/\W m' σ' H')/\tb { D with nx:=N,ct:=N,bk:=D.nx } σ H1 else D.nx σ H1
theorem B7(hp:PassesOwn (model X.prog X.w) X.A X.env X.xe)(hc:PT X c tc)(hb:qq X body tb):PS X (.While c body [] pos) (B6 tc tb):=by
 intro ae s σ H D I h;obtain⟨W,⟨m0,w0⟩,B8⟩:=h;refine wpAny_While (codeAny_whileLoop (fun n s'=>∃σ' H',aF X ae σ' H' s'/\W n σ' H') ?_ m0 ⟨σ,H,I,w0⟩);rintro n s1 ⟨σ1,H1,I1,w1⟩;refine j_ hp (cE (hc ae s1 σ1 H1 _ I1 (B8 n σ1 H1 w1)) fun b s2 ⟨H2,I2,q2⟩=>?_);cases b with
 |true=>
  obtain⟨N,hN,q2⟩:=q2;rw[aq rfl];refine j_ hp (cE (hb ae s2 σ1 H2 _ I2 q2) fun f s3 q3=>?_);cases f with
  |next=>
   obtain⟨σ3,H3,I3,n3⟩:=q3;obtain⟨m',hm,w3⟩:=hN σ3 H3 n3;exact⟨m',hm,σ3,H3,I3,w3⟩
  |cont=>
   obtain⟨σ3,H3,I3,n3⟩:=q3;obtain⟨m',hm,w3⟩:=hN σ3 H3 n3;exact⟨m',hm,σ3,H3,I3,w3⟩
  |brk=>exact q3
  |ret v=>exact q3
 |false=>
  rw[au cq];exact oR ⟨σ1,H2,I2,q2⟩
end
structure It where
 go:Nat->Hp->Prop
 Fn:Nat->Hp->V->Hp->Prop
 stop:Nat->Hp->Prop
 Fo:Around->Hp->Prop
def gW(X:Cx)(ae:List (Addr×Obj))(H:Hp)(b:Addr):Prop:=
 H b=none/\b≠X.env.locals/\b∉X.fs/\(b∈X.ex\/X.s₀.heap.objs.size<=b)/\(∀x c,X.env.cells.lookup x=some c->c≠b)/\∀p∈X.pn++ae,p.1≠b
theorem aF.An(I:aF X ae σ H s)(hb:s.heap.objs.size<=b)(hn:H' b=none):gW X ae H' b:=by
 refine⟨hn,gu (bz I.lt hb),I.Ru hb,.inr (aY I.sz hb),fun x c e z=>?_,fun p hp z=>?_⟩
 .obtain⟨v,q⟩:=I.cell x c e;exact absurd (bz q.lt (by rw[z];exact hb)) (f_ _)
 .exact absurd (bz (aQ (I.pin p hp).1) (by rw[z];exact hb)) (f_ _)
structure vc(P:Program)(w:World)(K:PySem.W.Frag)(tg:Expr)(J:It)(fp:List Addr)(it:Addr)(tn:Nat->Heap->Prop):Prop where
 mem:it∈fp
 obj:∀i h,tn i h->∀b∈fp,∃o,h.get? b=some o/\∀v,o.data≠.cell v
 keep:∀i h h',tn i h->(∀b∈fp,∀o,h.get? b=some o->h'.get? b=some o)->tn i h'
 item:∀ (X:Cx),X.prog=P->X.w=w->X.K=K->∀ (i:Nat) (ae:List (Addr×Obj)) (s:Shared) (σ:St) (H:Hp) (E:Value->Shared->Prop),(X.calm=true\/J.Fo X.A H)->aF X ae σ H s->(∀b∈fp,gW X ae H b)->tn i s.heap->J.go i H->
  wpAny (model P w) X.A (pyNext (.ref it)) (fun r s1=>∃u,r=some u/\
   wpAny (model P w) X.A (letOwnedTupleGo tg (.ref it) u) (fun _ s2=>∃x H',aF X ae σ H' s2/\bA x u/\J.Fn i H x H'/\tn (i+1) s2.heap/\∀b∈fp,H' b=none) E s1) E s
 done:∀ (X:Cx),X.prog=P->X.w=w->X.K=K->∀ (i:Nat) (ae:List (Addr×Obj)) (s:Shared) (σ:St) (H:Hp) (E:Value->Shared->Prop),(X.calm=true\/J.Fo X.A H)->aF X ae σ H s->(∀b∈fp,gW X ae H b)->tn i s.heap->J.stop i H->
  wpAny (model P w) X.A (pyNext (.ref it)) (fun r s1=>r=none/\aF X ae σ H s1) E s
 self:∀ (A:Around) (i:Nat) (s:Shared) (Q:Value->Shared->Prop) (E:Value->Shared->Prop),tn i s.heap->Q (.ref it) s->wpAny (model P w) A (pyIter (.ref it)) Q E s
abbrev TI:=St->Hp->(It->Hp->Prop)->Prop
def VI(X:Cx)(ae:List (Addr×Obj))(σ:St)(tg:Expr)(R:It->Hp->Prop)(MR:Value)(s2:Shared):Prop:=
 ∃ (it:Addr) (fp:List Addr) (tn:Nat->Heap->Prop) (J:It) (H':Hp),MR=.ref it/\aF X ae σ H' s2/\vc X.prog X.w X.K tg J fp it tn/\tn 0 s2.heap/\(∀b∈fp,gW X ae H' b)/\R J H'
def PI(X:Cx)(tg gy:Expr)(wi:TI):Prop:=
 ∀ (ae:List (Addr×Obj)) (s:Shared) (σ:St) (H:Hp) (R:It->Hp->Prop),aF X ae σ H s->wi σ H R->
  wpAny (model X.prog X.w) X.A (eval gy X.env) (fun v s1=>wpAny (model X.prog X.w) X.A (pyIter v) (VI X ae σ tg R) X.xe s1) X.xe s
theorem B9(ho:s.heap.get? it=some o)(hc:o.cls=.type n)(hd:o.data=.fields vs)(hn:["enumerate","zip","dict_itemiterator","dict_reverseitemiterator","odict_iterator","itertools.zip_longest","itertools.pairwise"].contains n=false)(hQ:Q () s):wpAny M A (letOwnedTupleGo tg (.ref it) u) Q E s:=by
 unfold letOwnedTupleGo;cases tg <;> first
  |exact wpAny_pure hQ
  |(cases u <;> first
    |exact wpAny_pure hQ
    |(refine ap (wpAny_load ho ?_);rw[hc,hd];show wpAny M A (if (["enumerate","zip","dict_itemiterator","dict_reverseitemiterator","odict_iterator","itertools.zip_longest","itertools.pairwise"].contains n&&vs[0]?==some (rawInt _))=true then _ else _) Q E s;rw[au (by intro h;rw[hn,Bool.false_and] at h;cases h)];exact wpAny_pure hQ))
def HZ(K:PySem.W.Frag)(a:Addr):It:=
 ⟨fun i H=>∃xs x,a_ K H a xs/\xs[i]?=some x,fun i H x H'=>H'=H/\∀xs,a_ K H a xs->xs[i]?=some x,fun i H=>∃xs,a_ K H a xs/\xs.length<=i,fun _ _=>False⟩
def MU(K:PySem.W.Frag)(a:Addr):It:=
 ⟨fun i H=>∃xs x,cI K H a xs/\xs[i]?=some x,fun i H x H'=>H'=H/\∀xs,cI K H a xs->xs[i]?=some x,fun i H=>∃xs,cI K H a xs/\xs.length<=i,fun _ _=>False⟩
def E5(lo:Int)(n:Nat):It:=⟨fun i _=>i<n,fun i H x H'=>H'=H/\x=.int (lo+i),fun i _=>n<=i,fun A H=>A.handled=none\/∃p φ,A.handled=some (.ref p)/\H p=some (.ext φ)/\∀h,φ h->u7 p h⟩
theorem Ao{P:Program}{w:World}{K:PySem.W.Frag}{tg:Expr}(a it:Addr):vc P w K tg (HZ K a) [it] it (fun i h=>h.IsListIter it a i) where
 mem:=by simp
 obj:=fun i h st b hb=>by
  have e:b=it:=by simpa using hb
  subst e;obtain⟨o,e,c,d⟩:=st;exact⟨o,e,fun v z=>by rw[d] at z;cases z⟩
 keep:=fun i h h' st k=>st.at fun o e=>k it (by simp) o e
 item:=by
  intro X hP hw hK i ae s σ H E xB I hf st hg;subst hP hw hK;have hc:X.calm=true:=xB.elim id fun z=>(show False from z).elim;obtain⟨xs,x,hq,hx⟩:=hg;obtain⟨its,rv,p,hz⟩:=I.list hq;obtain⟨u,hu,ru⟩:=rv.get hx;obtain⟨f0,f1,f2,f3,f4,f5⟩:=hf it (by simp);refine wpAny_pyNext_list_item st p.isList (x:=u) (by simpa using hu) fun h' aM sb=>?_;have I1:aF X ae σ H { s with heap:=h' }:=I.turned (t':=s.toks) (fun b o hb e=>(sb.2 b hb).trans e) f0 f1 f3 f4 f5;obtain⟨o,e,c,d⟩:=id aM;exact⟨u,rfl,B9 (s:={ s with heap:=h' }) e c d (by decide) ⟨x,H,I1,ru,⟨rfl,fun ys hy=>by rw[I.pf hy hq];exact hx⟩,aM,fun b hb=>(hf b hb).1⟩⟩
 done:=by
  intro X hP hw hK i ae s σ H E xB I hf st hg;subst hP hw hK;have hc:X.calm=true:=xB.elim id fun z=>(show False from z).elim;obtain⟨xs,hq,hx⟩:=hg;obtain⟨its,rv,p,hz⟩:=I.list hq;obtain⟨f0,f1,f2,f3,f4,f5⟩:=hf it (by simp);have hl:=rv.length;exact wpAny_pyNext_list_end (I.ok.hd hc) st p.isList (by simp;lia) fun h' eb=>⟨rfl,I.turned (t':=s.toks) (fun b o hb e=>eb b o hb e) f0 f1 f3 f4 f5⟩
 self:=fun _ _ _ _ _ st h=>wpAny_pyIter_listiter st h
theorem xC{P:Program}{w:World}{K:PySem.W.Frag}{tg:Expr}(a it:Addr):vc P w K tg (MU K a) [it] it (fun i h=>h.IsTupleIter it a i) where
 mem:=by simp
 obj:=fun i h st b hb=>by
  have e:b=it:=by simpa using hb
  subst e;obtain⟨o,e,c,d⟩:=st;exact⟨o,e,fun v z=>by rw[d] at z;cases z⟩
 keep:=fun i h h' st k=>st.at fun o e=>k it (by simp) o e
 item:=by
  intro X hP hw hK i ae s σ H E xB I hf st hg;subst hP hw hK;have hc:X.calm=true:=xB.elim id fun z=>(show False from z).elim;obtain⟨xs,x,hq,hx⟩:=hg;obtain⟨its,rv,p,hz⟩:=I.tuple hq;obtain⟨u,hu,ru⟩:=rv.get hx;obtain⟨f0,f1,f2,f3,f4,f5⟩:=hf it (by simp);refine wpAny_pyNext_tuple_item st (show s.heap.IsTuple a its.toArray from p) (x:=u) (by simpa using hu) fun h' aM sb=>?_;have I1:aF X ae σ H { s with heap:=h' }:=I.turned (t':=s.toks) (fun b o hb e=>(sb.2 b hb).trans e) f0 f1 f3 f4 f5;obtain⟨o,e,c,d⟩:=id aM;exact⟨u,rfl,B9 (s:={ s with heap:=h' }) e c d (by decide) ⟨x,H,I1,ru,⟨rfl,fun ys hy=>by rw[I.qS hy hq];exact hx⟩,aM,fun b hb=>(hf b hb).1⟩⟩
 done:=by
  intro X hP hw hK i ae s σ H E xB I hf st hg;subst hP hw hK;have hc:X.calm=true:=xB.elim id fun z=>(show False from z).elim;obtain⟨xs,hq,hx⟩:=hg;obtain⟨its,rv,p,hz⟩:=I.tuple hq;obtain⟨f0,f1,f2,f3,f4,f5⟩:=hf it (by simp);have hl:=rv.length;exact wpAny_pyNext_tuple_end (I.ok.hd hc) st (show s.heap.IsTuple a its.toArray from p) (by simp;lia) fun h' eb=>⟨rfl,I.turned (t':=s.toks) (fun b o hb e=>eb b o hb e) f0 f1 f3 f4 f5⟩
 self:=fun _ _ _ _ _ st h=>wpAny_pyIter_tupleiter st h
theorem xD{P:Program}{w:World}{K:PySem.W.Frag}{tg:Expr}(it:Addr)(lo:Int)(n:Nat):vc P w K tg (E5 lo n) [it] it (fun i h=>IsRangeIter h it (lo+(i:Nat)*1) ((n:Int)-(i:Nat)) 1) where
 mem:=by simp
 obj:=fun i h st b hb=>by
  have e:b=it:=by simpa using hb
  subst e;exact⟨_,st,fun v z=>by
   have z':Data.fields _=Data.cell v:=z;cases z'⟩
 keep:=fun i h h' st k=>k it (by simp) _ st
 item:=by
  intro X hP hw hK i ae s σ H E hc I hf st hg;subst hP hw hK;obtain⟨f0,f1,f2,f3,f4,f5⟩:=hf it (by simp);refine wpAny_pyNext_range_item st (by have:i<n:=hg;lia) fun h' aM sb=>?_;have I1:aF X ae σ H { s with heap:=h',toks:=s.toks+1 }:=I.turned (fun b o hb e=>(sb.2 b hb).trans e) f0 f1 f3 f4 f5;have fU:IsRangeIter h' it (lo+((i+1:Nat):Int)*1) ((n:Int)-((i+1:Nat):Int)) 1:=by
   rw[show lo+((i+1:Nat):Int)*1=lo+(i:Int)*1+1 by lia,show (n:Int)-((i+1:Nat):Int)=(n:Int)-(i:Int)-1 by lia];exact aM
  exact⟨_,rfl,B9 (s:={ s with heap:=h',toks:=s.toks+1 }) (n:="range_iterator") fU rfl rfl (by decide) ⟨.int (lo+i),H,I1,⟨s.toks,by rw[Int.mul_one]⟩,⟨rfl,rfl⟩,fU,fun b hb=>(hf b hb).1⟩⟩
 done:=by
  intro X hP hw hK i ae s σ H E hc I hf st hg;subst hP hw hK;obtain⟨f0,f1,f2,f3,f4,f5⟩:=hf it (by simp);have he:X.A.handled=none\/∃p φ,X.A.handled=some (.ref p)/\H p=some (.ext φ)/\∀h,φ h->u7 p h:=hc.elim (fun z=>.inl (I.ok.hd z)) id;rcases he with hn|⟨p,φ,hp,hH,hφ⟩
  .exact wpAny_pyNext_range_end hn st (by have:n<=i:=hg;lia) fun h' eb=>⟨rfl,I.turned (t':=s.toks) (fun b o hb e=>eb b o hb e) f0 f1 f3 f4 f5⟩
  .exact xA hp (hφ _ (I.bq p _ hH).1) st (by have:n<=i:=hg;lia) fun h' eb=>⟨rfl,I.kept (t':=s.toks) eb⟩
 self:=fun _ _ _ _ _ st h=>wpAny_pyIter_rangeiter st h
section
variable {X:Cx} {tg:Expr}
def MV(K:PySem.W.Frag)(tl:TE):TI:=fun σ H R=>tl σ H fun x H1=>∃a,x=.ref a/\(∃xs,a_ K H1 a xs)/\R (HZ K a) H1
def RH(K:PySem.W.Frag)(tl:TE):TI:=fun σ H R=>tl σ H fun x H1=>∃a,x=.ref a/\(∃xs,cI K H1 a xs)/\R (MU K a) H1
theorem dh{l:Expr}{tl:TE}(hl:PE X l tl):PI X tg l (MV X.K tl):=by
 intro ae s σ H R I h;refine cE (hl ae s σ H _ I h) fun v s1 ⟨x,H1,I1,r1,q1⟩=>?_;obtain⟨a,e,⟨xs,hq⟩,q⟩:=q1;subst e;cases r1;obtain⟨its,rv,p,hz⟩:=I1.list hq;refine sk p.isList ?_;refine⟨s1.heap.objs.size,[s1.heap.objs.size],_,_,H1,rfl,I1.kept (t':=s1.toks) fun b o e=>bC _ e,Ao a _,⟨_,cC _ rfl,rfl,rfl⟩,fun b hb=>?_,q⟩;have e:b=s1.heap.objs.size:=by simpa using hb
 subst e;exact I1.An (a9 _) (I1.bq.fresh (a9 _))
theorem mj{l:Expr}{tl:TE}(hl:PE X l tl):PI X tg l (RH X.K tl):=by
 intro ae s σ H R I h;refine cE (hl ae s σ H _ I h) fun v s1 ⟨x,H1,I1,r1,q1⟩=>?_;obtain⟨a,e,⟨xs,hq⟩,q⟩:=q1;subst e;cases r1;obtain⟨its,rv,p,hz⟩:=I1.tuple hq;refine wpAny_pyIter_tuple (show s1.heap.IsTuple a its.toArray from p) ?_;refine⟨s1.heap.objs.size,[s1.heap.objs.size],_,_,H1,rfl,I1.kept (t':=s1.toks) fun b o e=>bC _ e,xC a _,⟨_,cC _ rfl,rfl,rfl⟩,fun b hb=>?_,q⟩;have e:b=s1.heap.objs.size:=by simpa using hb
 subst e;exact I1.An (a9 _) (I1.bq.fresh (a9 _))
theorem B_{ae:List (Addr×Obj)}{σ:St}{H:Hp}{s:Shared}{R:It->Hp->Prop}{E:Value->Shared->Prop}{lo hi:Int}{t u v:Tok}{tk:Nat}(I:aF X ae σ H s)(h1:-(2 ^ 62)<=lo)(h2:lo<2 ^ 62)(h3:-(2 ^ 62)<=hi)(h4:hi<2 ^ 62)(q:R (E5 lo (hi-lo).toNat) H):wpAny (model X.prog X.w) X.A (pyIter (.ref s.heap.objs.size)) (VI X ae σ tg R) E { s with heap:=s.heap.push { cls:=.type "range",data:=.fields #[.int lo t,.int hi u,.int 1 v] },toks:=tk }:=by
 refine wpAny_pyIter_range (IsRange.new ..) (small_one h1 h2 h3 h4) ?_;have I1:aF X ae σ H { s with heap:=s.heap.push { cls:=.type "range",data:=.fields #[.int lo t,.int hi u,.int 1 v] },toks:=tk }:=I.kept fun b o e=>bC _ e;refine⟨(s.heap.push { cls:=.type "range",data:=.fields #[.int lo t,.int hi u,.int 1 v] }).objs.size,[(s.heap.push { cls:=.type "range",data:=.fields #[.int lo t,.int hi u,.int 1 v] }).objs.size],_,_,H,rfl,
  I1.kept (t':=tk) fun b o e=>bC _ e,xD _ lo (hi-lo).toNat,?_,fun b hb=>?_,q⟩
 .have e1:lo+((0:Nat):Int)*1=lo:=by simp
  have e2:(((hi-lo).toNat:Nat):Int)-((0:Nat):Int)=Builtin.Range.rangeSize lo hi 1:=by rw[rangeSize_one];split <;> lia
  show IsRangeIter _ _ (lo+((0:Nat):Int)*1) ((((hi-lo).toNat:Nat):Int)-((0:Nat):Int)) 1;rw[e1,e2];exact cC _ rfl
 .have e:b=(s.heap.push { cls:=.type "range",data:=.fields #[.int lo t,.int hi u,.int 1 v] }).objs.size:=by simpa using hb
  subst e;exact I1.An (a9 _) (I1.bq.fresh (a9 _))
def MW(ta:TA):TI:=fun σ H R=>ta σ H fun vs H1=>∃j:Int,vs=[.int j]/\-(2 ^ 62)<=j/\j<2 ^ 62/\R (E5 0 j.toNat) H1
theorem ck{a:Expr}{ta:TA}{p pos:Pos}(hg:Gl X "range")(hm:X.mg "range"=none)(ha:PA X [a] ta)(hs:starEach [a] X.env=[(false,eval a X.env)]:=by rfl):PI X tg (.Call (.Name "range" p) [a] [] pos) (MW ta):=by
 intro ae s σ H R I h;refine Call_ (kq I hg hm boot_range (rK (cE (ha pos ae s σ H _ I h) fun us s1 ⟨vs,H1,I1,r1,q1⟩=>?_) hs rfl));obtain⟨j,e,q1,q2,q⟩:=q1;subst e;cases r1 with
 |cons r rr=>
  cases rr;obtain⟨t,rfl⟩:=r;exact call_range_1 (B_ I1 (by lia) (by lia) q1 q2 (by simpa using q))
def RI(wi:TI)(g:TG)(tb:TS):TS:=fun D σ H=>wi σ H fun J H1=>∃W:Nat->Nat->St->Hp->Prop,(∃m,W 0 m σ H1)/\∀i m σ H,W i m σ H->
 (J.stop i H/\D.nx σ H)\/(J.go i H/\∃N:St->Hp->Prop,(∀σ' H',N σ' H'->∃m',m'<m/\W (i+1) m' σ' H')/\∀x H',J.Fn i H x H'->g x σ H' fun σ2 H2=>tb { D with nx:=N,ct:=N,bk:=D.nx } σ2 H2)
def ph(fp:List Addr)(h:Heap):List (Addr×Obj):=fp.filterMap fun b=>(h.get? b).map fun o=>(b,o)
theorem ij(hb:b∈fp)(e:h.get? b=some o):(b,o)∈ph fp h:=j7.mpr ⟨b,hb,by rw[e];rfl⟩
theorem Ap(hp:p∈ph fp h):p.1∈fp/\h.get? p.1=some p.2:=by
 obtain⟨b,hb,e⟩:=j7.mp hp;cases q:h.get? b with
 |none=>rw[q] at e;cases e
 |some o=>
  rw[q] at e;have e':(b,o)=p:=bt e;subst e';exact⟨hb,q⟩
theorem aF.pinned(I:aF X ae σ H s)(hf:∀b∈fp,gW X ae H b)(ho:∀b∈fp,∃o,s.heap.get? b=some o/\∀v,o.data≠.cell v):aF X (ae++ph fp s.heap) σ H s:=
 I.yS fun p hp=>(cf.mp hp).elim (fun z=>I.pin p (iA _ z)) fun z=>by
  obtain⟨hb,e⟩:=Ap z;obtain⟨f0,f1,f2,_⟩:=hf p.1 hb;obtain⟨o,e',d⟩:=ho p.1 hb;rw[e] at e';cases e';exact⟨e,f0,f1,f2,d⟩
theorem aF.lc(I:aF X (ae++pl) σ H s):aF X ae σ H s:=I.yS fun p hp=>I.pin p (iA _ (gO _ hp))
theorem cG(hp:PassesOwn (model X.prog X.w) X.A X.env X.xe)(hc:X.calm=true)(hi:PI X tg gy wi)(hg:PG X tg g)(hb:qq X body tb)(hs:∀x,foldedSetIterable gy X.env x=pure x:=by intro _;rfl):PS X (.For tg gy body [] pos) (RI wi g tb):=by
 intro ae s σ H D I h;refine wpAny_For (cE (hi ae s σ H _ I h) fun v s1 h1=>cE h1 fun MR s2 h2=>?_) hs;obtain⟨it,fp,tn,J,H2,e,I2,T,fU,f2,W,⟨m0,w0⟩,B8⟩:=h2;subst e;have xE:∀ {H':Hp},(∀b∈fp,H' b=none)->∀b∈fp,gW X ae H' b:=fun hn b hb=>⟨hn b hb,(f2 b hb).2⟩
 refine codeAny_forLoop_any (fun n s'=>∃i σ' H',aF X ae σ' H' s'/\tn i s'.heap/\(∀b∈fp,H' b=none)/\W i n σ' H') ?_ m0 ⟨0,σ,H2,I2,fU,fun b hb=>(f2 b hb).1,w0⟩;rintro n s3 ⟨i,σ3,H3,I3,s_,Jn,w3⟩;rcases B8 i n σ3 H3 w3 with ⟨stop,qn⟩|⟨go,N,hN,step⟩
 .refine j_ hp (cE (T.done X rfl rfl rfl i ae s3 σ3 H3 X.xe (.inl hc) I3 (xE Jn) s_ stop) fun r s4 ⟨hr,I4⟩=>?_);subst hr;exact oR ⟨σ3,H3,I4,qn⟩
 .refine j_ hp (cE (T.item X rfl rfl rfl i ae s3 σ3 H3 X.xe (.inl hc) I3 (xE Jn) s_ go) fun r s4 ⟨u,hr,h4⟩=>?_);subst hr;refine j_ hp (cE h4 fun _ s5 ⟨x,H5,I5,r5,y5,yW,RJ⟩=>?_);have RK:=I5.pinned (xE RJ) (T.obj _ _ yW);refine j_ hp (cE (hg _ s5 σ3 H5 x u _ RK r5 (step x H5 y5)) fun _ s6 ⟨σ6,H6,I6,q6⟩=>?_);refine j_ hp (cE (hb _ s6 σ6 H6 _ I6 q6) fun f s7 q7=>?_);have again:∀ {σ7:St} {H7:Hp},aF X (ae++ph fp s5.heap) σ7 H7 s7->N σ7 H7->∃m,m<n/\∃i σ' H',aF X ae σ' H' s7/\tn i s7.heap/\(∀b∈fp,H' b=none)/\W i m σ' H':=fun {σ7 H7} I7 n7=>by
   obtain⟨m',hm,w7⟩:=hN σ7 H7 n7;refine⟨m',hm,i+1,σ7,H7,I7.lc,T.keep _ _ _ yW fun b hb o e=>(I7.pin (b,o) (iA _ (iA _ (ij hb e)))).1,fun b hb=>?_,w7⟩;obtain⟨o,e,d⟩:=T.obj _ _ yW b hb;exact(I7.pin (b,o) (iA _ (iA _ (ij hb e)))).2.1
  cases f with
  |next=>obtain⟨σ7,H7,I7,n7⟩:=q7;exact again I7 n7
  |cont=>obtain⟨σ7,H7,I7,n7⟩:=q7;exact again I7 n7
  |brk=>obtain⟨σ7,H7,I7,q7⟩:=q7;exact⟨σ7,H7,I7.lc,q7⟩
  |ret v=>obtain⟨x7,σ7,H7,I7,r7,q7⟩:=q7;exact⟨x7,σ7,H7,I7.lc,r7,q7⟩
end
theorem lf{K:PySem.W.Frag}{a:Addr}{xs:List V}{g:TG}{tb:TS}{D:sX}{σ:St}{H:Hp}(Pv:Nat->St->Hp->Prop)(h0:Pv 0 σ H)(hl:∀i σ H,i<=xs.length->Pv i σ H->a_ K H a xs)(hs:∀i x σ H,xs[i]?=some x->Pv i σ H->g x σ H fun σ2 H2=>tb { D with nx:=Pv (i+1),ct:=Pv (i+1),bk:=D.nx } σ2 H2)(hd:∀σ H,Pv xs.length σ H->D.nx σ H):
  ∃W:Nat->Nat->St->Hp->Prop,(∃m,W 0 m σ H)/\∀i m σ H,W i m σ H->
   ((HZ K a).stop i H/\D.nx σ H)\/((HZ K a).go i H/\∃N:St->Hp->Prop,(∀σ' H',N σ' H'->∃m',m'<m/\W (i+1) m' σ' H')/\∀x H',(HZ K a).Fn i H x H'->g x σ H' fun σ2 H2=>tb { D with nx:=N,ct:=N,bk:=D.nx } σ2 H2):=by
 refine⟨fun i m σ H=>m=xs.length-i/\i<=xs.length/\Pv i σ H,⟨xs.length,by simp,cN _,h0⟩,?_⟩;rintro i m σ H ⟨rfl,hi,p⟩;have q:=hl i σ H hi p;by_cases dX:i<xs.length
 .refine .inr ⟨⟨xs,xs[i],q,by simp[dX]⟩,Pv (i+1),fun σ' H' p'=>⟨xs.length-(i+1),by lia,rfl,dX,p'⟩,fun x H' y=>?_⟩;obtain⟨e,y⟩:=y;subst e;exact hs i x σ _ (y xs q) p
 .have e:i=xs.length:=by lia
  subst e;exact .inl ⟨⟨xs,q,a9 _⟩,hd σ H p⟩
theorem jq{K:PySem.W.Frag}{a:Addr}{xs:List V}{g:TG}{tb:TS}{D:sX}{σ:St}{H:Hp}(Pv:Nat->St->Hp->Prop)(h0:Pv 0 σ H)(hl:∀i σ H,i<=xs.length->Pv i σ H->cI K H a xs)(hs:∀i x σ H,xs[i]?=some x->Pv i σ H->g x σ H fun σ2 H2=>tb { D with nx:=Pv (i+1),ct:=Pv (i+1),bk:=D.nx } σ2 H2)(hd:∀σ H,Pv xs.length σ H->D.nx σ H):
  ∃W:Nat->Nat->St->Hp->Prop,(∃m,W 0 m σ H)/\∀i m σ H,W i m σ H->
   ((MU K a).stop i H/\D.nx σ H)\/((MU K a).go i H/\∃N:St->Hp->Prop,(∀σ' H',N σ' H'->∃m',m'<m/\W (i+1) m' σ' H')/\∀x H',(MU K a).Fn i H x H'->g x σ H' fun σ2 H2=>tb { D with nx:=N,ct:=N,bk:=D.nx } σ2 H2):=by
 refine⟨fun i m σ H=>m=xs.length-i/\i<=xs.length/\Pv i σ H,⟨xs.length,by simp,cN _,h0⟩,?_⟩;rintro i m σ H ⟨rfl,hi,p⟩;have q:=hl i σ H hi p;by_cases dX:i<xs.length
 .refine .inr ⟨⟨xs,xs[i],q,by simp[dX]⟩,Pv (i+1),fun σ' H' p'=>⟨xs.length-(i+1),by lia,rfl,dX,p'⟩,fun x H' y=>?_⟩;obtain⟨e,y⟩:=y;subst e;exact hs i x σ _ (y xs q) p
 .have e:i=xs.length:=by lia
  subst e;exact .inl ⟨⟨xs,q,a9 _⟩,hd σ H p⟩
theorem eA{lo:Int}{n:Nat}{g:TG}{tb:TS}{D:sX}{σ:St}{H:Hp}(Pv:Nat->St->Hp->Prop)(h0:Pv 0 σ H)(hs:∀i σ H,i<n->Pv i σ H->g (.int (lo+i)) σ H fun σ2 H2=>tb { D with nx:=Pv (i+1),ct:=Pv (i+1),bk:=D.nx } σ2 H2)(hd:∀σ H,Pv n σ H->D.nx σ H):
  ∃W:Nat->Nat->St->Hp->Prop,(∃m,W 0 m σ H)/\∀i m σ H,W i m σ H->
   ((E5 lo n).stop i H/\D.nx σ H)\/((E5 lo n).go i H/\∃N:St->Hp->Prop,(∀σ' H',N σ' H'->∃m',m'<m/\W (i+1) m' σ' H')/\∀x H',(E5 lo n).Fn i H x H'->g x σ H' fun σ2 H2=>tb { D with nx:=N,ct:=N,bk:=D.nx } σ2 H2):=by
 refine⟨fun i m σ H=>m=n-i/\i<=n/\Pv i σ H,⟨n,by simp,cN _,h0⟩,?_⟩;rintro i m σ H ⟨rfl,hi,p⟩;by_cases dX:i<n
 .refine .inr ⟨dX,Pv (i+1),fun σ' H' p'=>⟨n-(i+1),by lia,rfl,dX,p'⟩,fun x H' y=>?_⟩;obtain⟨e,y⟩:=y;subst e y;exact hs i σ _ dX p
 .have e:i=n:=by lia
  subst e;exact .inl ⟨a9 _,hd σ H p⟩
theorem Cd(Pv:St->Hp->Prop)(μ:St->Hp->Nat)(h0:Pv σ H)(hs:∀σ H,Pv σ H->c σ H fun b H1=>if b=true then tb { D with nx:=fun σ' H'=>Pv σ' H'/\μ σ' H'<μ σ H,ct:=fun σ' H'=>Pv σ' H'/\μ σ' H'<μ σ H,bk:=D.nx } σ H1 else D.nx σ H1)(mono:∀σ H Q Q',(∀b H1,Q b H1->Q' b H1)->c σ H Q->c σ H Q'):B6 c tb D σ H:=by
 refine⟨fun m σ H=>m=μ σ H/\Pv σ H,⟨_,rfl,h0⟩,?_⟩;rintro m σ H ⟨rfl,p⟩;refine mono σ H _ _ (fun b H1 q=>?_) (hs σ H p);cases b with
 |true=>exact⟨_,fun σ' H' ⟨p',l⟩=>⟨_,l,rfl,p'⟩,q⟩
 |false=>exact q
abbrev R2:=V->V->Hp->VK->Prop
def lR(X:Cx)(f:Value->Value->Sem Value)(r:R2):Prop:=
 ∀ (ae:List (Addr×Obj)) (s:Shared) (σ:St) (H:Hp) (x y:V) (v u:Value) (Q:VK),aF X ae σ H s->bA x v->bA y u->r x y H Q->
  wpAny (model X.prog X.w) X.A (f v u) (EP X ae σ Q) X.xe s
def RL(X:Cx)(f:Value->Sem Value)(r:V->Hp->VK->Prop):Prop:=
 ∀ (ae:List (Addr×Obj)) (s:Shared) (σ:St) (H:Hp) (x:V) (v:Value) (Q:VK),aF X ae σ H s->bA x v->r x H Q->
  wpAny (model X.prog X.w) X.A (f v) (EP X ae σ Q) X.xe s
def eR(X:Cx)(f:Value)(r:List V->Hp->VK->Prop):Prop:=
 ∀ (ae:List (Addr×Obj)) (s:Shared) (σ:St) (H:Hp) (xs:List V) (us:List Value) (Q:VK),aF X ae σ H s->aP xs us->r xs H Q->
  wpAny (model X.prog X.w) X.A (call f us) (EP X ae σ Q) X.xe s
def qE(r:R2)(ta tb:TE):TE:=fun σ H Q=>ta σ H fun x H1=>tb σ H1 fun y H2=>r x y H2 Q
def RM(r:V->Hp->VK->Prop)(ta:TE):TE:=fun σ H Q=>ta σ H fun x H1=>r x H1 Q
def rI(C:Int->Int->Prop)(g:Int->Int->V):R2:=fun x y H Q=>∃i j,x=.int i/\y=.int j/\C i j/\Q (g i j) H
def yX(g:Int->Int->V):R2:=fun x y H Q=>∃i j,x=.int i/\y=.int j/\Q (g i j) H
def rU(g:Int->V):V->Hp->VK->Prop:=fun x H Q=>∃i,x=.int i/\Q (g i) H
section
variable {X:Cx} {a b c:Expr} {ta tb tc:TE} {pos:Pos}
theorem Jo(ha:PE X a ta)(hb:PE X b tb){ae:List (Addr×Obj)}{s:Shared}{σ:St}{H:Hp}{R:V->V->Hp->Prop}(I:aF X ae σ H s)(h:ta σ H fun x H1=>tb σ H1 fun y H2=>R x y H2){Q:Value->Shared->Prop}{f:Value->Value->Sem Value}(hf:∀v u s2 x y H2,aF X ae σ H2 s2->bA x v->bA y u->R x y H2->wpAny (model X.prog X.w) X.A (f v u) Q X.xe s2):
  wpAny (model X.prog X.w) X.A (eval a X.env) (fun v s₁=>wpAny (model X.prog X.w) X.A (eval b X.env) (fun u s₂=>wpAny (model X.prog X.w) X.A (f v u) Q X.xe s₂) X.xe s₁) X.xe s:=by
 refine cE (ha ae s σ H _ I h) fun v s1 ⟨x,H1,I1,r1,q1⟩=>?_;refine cE (hb ae s1 σ H1 _ I1 q1) fun u s2 ⟨y,H2,I2,r2,q2⟩=>?_;exact hf v u s2 x y H2 I2 r1 r2 q2
theorem aR{op:Operator}{r:R2}(ho:lR X (binaryOp op) r)(ha:PE X a ta)(hb:PE X b tb):PE X (.BinOp a op b pos) (qE r ta tb):=by
 intro ae s σ H Q I h;exact wpAny_BinOp (Jo ha hb I h fun v u s2 x y H2 I2 rx ry q=>ho ae s2 σ H2 x y v u Q I2 rx ry q)
theorem yY(ho:RL X (unaryOp op) r)(ha:PE X a ta):PE X (.UnaryOp op a pos) (RM r ta):=by
 intro ae s σ H Q I h;exact UnaryOp_ (cE (ha ae s σ H _ I h) fun v s1 ⟨x,H1,I1,r1,q1⟩=>ho ae s1 σ H1 x v Q I1 r1 q1)
theorem LX{f:Value->Value->Sem Value}{C:Int->Int->Prop}{g:Int->Int->Int}(rule:∀ (i j:Int) (t u:Tok) (s:Shared) (Q:Value->Shared->Prop) (E:Value->Shared->Prop),C i j->Q (.int (g i j) s.toks) { s with toks:=s.toks+1 }->wpAny (model X.prog X.w) X.A (f (.int i t) (.int j u)) Q E s):
  lR X f (rI C fun i j=>.int (g i j)):=by
 intro ae s σ H x y v u Q I rx ry h;obtain⟨i,j,rfl,rfl,hc,q⟩:=h;obtain⟨t,rfl⟩:=rx;obtain⟨t',rfl⟩:=ry;exact rule i j t t' s _ _ hc ⟨.int (g i j),H,I.tok _,⟨_,rfl⟩,q⟩
theorem MX{f:Value->Value->Sem Value}{g:Int->Int->Int}(rule:∀ (i j:Int) (t u:Tok) (s:Shared) (Q:Value->Shared->Prop) (E:Value->Shared->Prop),Q (.int (g i j) s.toks) { s with toks:=s.toks+1 }->wpAny (model X.prog X.w) X.A (f (.int i t) (.int j u)) Q E s):
  lR X f (yX fun i j=>.int (g i j)):=by
 intro ae s σ H x y v u Q I rx ry h;obtain⟨i,j,rfl,rfl,q⟩:=h;obtain⟨t,rfl⟩:=rx;obtain⟨t',rfl⟩:=ry;exact rule i j t t' s _ _ ⟨.int (g i j),H,I.tok _,⟨_,rfl⟩,q⟩
theorem Jp{f:Value->Value->Sem Value}{g:Int->Int->Bool}(rule:∀ (i j:Int) (t u:Tok) (s:Shared) (Q:Value->Shared->Prop) (E:Value->Shared->Prop),Q (.bool (g i j)) s->wpAny (model X.prog X.w) X.A (f (.int i t) (.int j u)) Q E s):
  lR X f (yX fun i j=>.bl (g i j)):=by
 intro ae s σ H x y v u Q I rx ry h;obtain⟨i,j,rfl,rfl,q⟩:=h;obtain⟨t,rfl⟩:=rx;obtain⟨t',rfl⟩:=ry;exact rule i j t t' s _ _ ⟨.bl (g i j),H,I,rfl,q⟩
def Jq(i j:Int):Prop:=0<j/\j<1073741824
def RN(i j:Int):Prop:=0<=j/\j<=1000000/\i.natAbs<2 ^ 64
def Fp(i j:Int):Prop:=(-(2 ^ 64)<i/\i<2 ^ 64)\/(-(2 ^ 64)<j/\j<2 ^ 64)
theorem Fp.ok(h:Fp i j):IntMulOk i j:=by
 rcases h with ⟨h1,h2⟩|⟨h1,h2⟩
 .exact .of_left (intBits_le_64 h1 h2)
 .exact .of_right (intBits_le_64 h1 h2)
theorem dP:lR X (binaryOp .Add) (yX fun i j=>.int (i+j)):=MX fun _ _ _ _ _ _ _ q=>add_int q
theorem gC:lR X (binaryOp .Sub) (yX fun i j=>.int (i-j)):=MX fun _ _ _ _ _ _ _ q=>sub_int q
theorem pi:lR X (binaryOp .Mult) (rI Fp fun i j=>.int (i*j)):=LX fun _ _ _ _ _ _ _ hc q=>mul_int q hc.ok
theorem nR:lR X (binaryOp .FloorDiv) (rI Jq fun i j=>.int (i / j)):=LX fun i j _ _ _ _ _ hc q=>by
 have h1:(0:Int)<j:=hc.1;have h2:j<1073741824:=hc.2;exact floordiv_int (by lia) (by rw[rM i (by lia)];exact q) (.inl (PyProof.noPylong_small (by lia)))
theorem gG:lR X (binaryOp .Mod) (rI (fun _ j=>0<j) fun i j=>.int (i % j)):=LX fun i j _ _ _ _ _ hc q=>by
 have h1:(0:Int)<j:=hc;exact mod_int' (by lia) (by rw[wD i (by lia)];exact q)
theorem tf:lR X (binaryOp .Pow) (rI RN fun i j=>.int (i ^ j.toNat)):=LX fun _ _ _ _ _ _ _ hc q=>pow_int_small hc.1 hc.2.1 hc.2.2 q
theorem Ch:lR X (inplaceOp .FloorDiv) (rI Jq fun i j=>.int (i / j)):=LX fun i j _ _ _ _ _ hc q=>by
 have h1:(0:Int)<j:=hc.1;have h2:j<1073741824:=hc.2;exact ifloordiv_int (by lia) (by rw[rM i (by lia)];exact q) (.inl (PyProof.noPylong_small (by lia)))
theorem XF{f:Value->Sem Value}{g:Int->Int}(rule:∀ (i:Int) (t:Tok) (s:Shared) (Q:Value->Shared->Prop) (E:Value->Shared->Prop),Q (.int (g i) s.toks) { s with toks:=s.toks+1 }->wpAny (model X.prog X.w) X.A (f (.int i t)) Q E s):
  RL X f (rU fun i=>.int (g i)):=by
 intro ae s σ H x v Q I rx h;obtain⟨i,rfl,q⟩:=h;obtain⟨t,rfl⟩:=rx;exact rule i t s _ _ ⟨.int (g i),H,I.tok _,⟨_,rfl⟩,q⟩
theorem tm:RL X (unaryOp .USub) (rU fun i=>.int (-i)):=XF fun _ _ _ _ _ q=>neg_int q
end
def MY:V->V->Bool
 |.bV,.bV=>true|.bV,.int _=>true|.int _,.bV=>true|.bV,.bl _=>true|.bl _,.bV=>true|.bV,.str _=>true|.str _,.bV=>true
 |.int _,.int _=>true|.bl _,.bl _=>true|.str _,.str _=>true|.BB _,.BB _=>true
 |.int _,.str _=>true|.str _,.int _=>true|.bl _,.str _=>true|.str _,.bl _=>true
 |_,_=>false
def RP:R2:=fun x y H Q=>MY x y=true/\Q (.bl (decide (x=y))) H
def XG:R2:=fun x y H Q=>MY x y=true/\Q (.bl (!decide (x=y))) H
theorem yZ:decide (V.int i=V.int j)=(i==j):=by
 rw[l8];simp
theorem Cj:decide (V.bl i=V.bl j)=(i==j):=by
 rw[l8];simp
theorem y0:decide (V.str i=V.str j)=(i==j):=by
 rw[l8];simp
theorem y3:decide (V.BB i=V.BB j)=(i.toList==j.toList):=by
 rw[l8];cases i;cases j;simp
section
variable {X:Cx} {a b c:Expr} {ta tb tc:TE} {pos:Pos}
theorem bn(I:aF X ae σ H s)(q:Q (.bl k) H)(e:k=k'):EP X ae σ Q (.bool k') s:=by
 subst e;exact⟨.bl k,H,I,rfl,q⟩
theorem lg:lR X (compareOp .Eq) RP:=by
 intro ae s σ H x y v u Q I rx ry h;obtain⟨hs,q⟩:=h;cases x with
 |bV=>
  cases rx;cases y with
  |bV=>cases ry;exact PySem.EqNone.eq_none_none (bn I q (by simp))
  |bl j=>cases ry;exact PySem.EqNone.eq_none_bool (bn I q (by simp))
  |int j=>obtain⟨t',rfl⟩:=ry;exact PySem.EqNone.eq_none_int (bn I q (by simp))
  |str j=>obtain⟨t',rfl⟩:=ry;exact PySem.EqNone.eq_none_str (bn I q (by simp))
  |_=>exact absurd (show false=true from hs) cq
 |bl i=>
  cases rx;cases y with
  |bV=>cases ry;exact PySem.EqNone.eq_bool_none (bn I q (by simp))
  |bl j=>cases ry;exact eq_bool (bn I q Cj)
  |str j=>obtain⟨t',rfl⟩:=ry;exact PySem.EqMixed.eq_bool_str (bn I q (by simp))
  |_=>exact absurd (show false=true from hs) cq
 |int i=>
  obtain⟨t,rfl⟩:=rx;cases y with
  |bV=>cases ry;exact PySem.EqNone.eq_int_none (bn I q (by simp))
  |int j=>obtain⟨t',rfl⟩:=ry;exact eq_int (bn I q yZ)
  |str j=>obtain⟨t',rfl⟩:=ry;exact PySem.EqMixed.eq_int_str (bn I q (by simp))
  |_=>exact absurd (show false=true from hs) cq
 |str i=>
  obtain⟨t,rfl⟩:=rx;cases y with
  |bV=>cases ry;exact PySem.EqNone.eq_str_none (bn I q (by simp))
  |bl j=>cases ry;exact PySem.EqMixed.eq_str_bool (bn I q (by simp))
  |int j=>obtain⟨t',rfl⟩:=ry;exact PySem.EqMixed.eq_str_int (bn I q (by simp))
  |str j=>obtain⟨t',rfl⟩:=ry;exact eq_str (bn I q y0)
  |_=>exact absurd (show false=true from hs) cq
 |BB i=>
  obtain⟨t,rfl⟩:=rx;cases y with
  |BB j=>obtain⟨t',rfl⟩:=ry;exact PySem.W.eq_bytes (bn I q y3)
  |_=>exact absurd (show false=true from hs) cq
 |_=>cases y <;> exact absurd (show false=true from hs) cq
theorem pj:lR X (compareOp .NotEq) XG:=by
 intro ae s σ H x y v u Q I rx ry h;obtain⟨hs,q⟩:=h;cases x with
 |bV=>
  cases rx;cases y with
  |bV=>cases ry;exact PySem.EqNone.ne_none_none (bn I q (by simp))
  |bl j=>cases ry;exact PySem.EqNone.ne_none_bool (bn I q (by simp))
  |int j=>obtain⟨t',rfl⟩:=ry;exact PySem.EqNone.ne_none_int (bn I q (by simp))
  |str j=>obtain⟨t',rfl⟩:=ry;exact PySem.EqNone.ne_none_str (bn I q (by simp))
  |_=>exact absurd (show false=true from hs) cq
 |bl i=>
  cases rx;cases y with
  |bV=>cases ry;exact PySem.EqNone.ne_bool_none (bn I q (by simp))
  |bl j=>cases ry;exact ne_bool (bn I q (congrArg not Cj))
  |str j=>obtain⟨t',rfl⟩:=ry;exact PySem.EqMixed.ne_bool_str (bn I q (by simp))
  |_=>exact absurd (show false=true from hs) cq
 |int i=>
  obtain⟨t,rfl⟩:=rx;cases y with
  |bV=>cases ry;exact PySem.EqNone.ne_int_none (bn I q (by simp))
  |int j=>obtain⟨t',rfl⟩:=ry;exact ne_int (bn I q (congrArg not yZ))
  |str j=>obtain⟨t',rfl⟩:=ry;exact PySem.EqMixed.ne_int_str (bn I q (by simp))
  |_=>exact absurd (show false=true from hs) cq
 |str i=>
  obtain⟨t,rfl⟩:=rx;cases y with
  |bV=>cases ry;exact PySem.EqNone.ne_str_none (bn I q (by simp))
  |bl j=>cases ry;exact PySem.EqMixed.ne_str_bool (bn I q (by simp))
  |int j=>obtain⟨t',rfl⟩:=ry;exact PySem.EqMixed.ne_str_int (bn I q (by simp))
  |str j=>obtain⟨t',rfl⟩:=ry;exact ne_str (bn I q (congrArg not y0))
  |_=>exact absurd (show false=true from hs) cq
 |BB i=>
  obtain⟨t,rfl⟩:=rx;cases y with
  |BB j=>obtain⟨t',rfl⟩:=ry;exact PySem.W.ne_bytes (bn I q (congrArg not y3))
  |_=>exact absurd (show false=true from hs) cq
 |_=>cases y <;> exact absurd (show false=true from hs) cq
theorem vd:lR X (compareOp .Lt) (yX fun i j=>.bl (decide (i<j))):=Jp fun _ _ _ _ _ _ _ q=>lt_int q
theorem H_:lR X (compareOp .LtE) (yX fun i j=>.bl (decide (i<=j))):=Jp fun _ _ _ _ _ _ _ q=>le_int q
theorem Ck:lR X (compareOp .Gt) (yX fun i j=>.bl (decide (j<i))):=Jp fun _ _ _ _ _ _ _ q=>gt_int q
theorem Jr:lR X (compareOp .Is) (fun x y H Q=>y=.bV/\Q (.bl (decide (x=.bV))) H):=by
 intro ae s σ H x y v u Q I rx ry h;obtain⟨rfl,q⟩:=h;cases ry;refine is_none_gen (bn I q ?_);cases x <;> first
  |(cases rx;rfl)
  |(obtain⟨t,rfl⟩:=rx;rfl)
theorem bb(b:Expr)(h:op≠.In:=by decide)(h2:op≠.NotIn:=by decide):behindInMarks op b=false:=by
 have e1:(op==CmpOp.In)=false:=by cases op <;> first|rfl|exact absurd rfl h
 have e2:(op==CmpOp.NotIn)=false:=by cases op <;> first|rfl|exact absurd rfl h2
 cases b <;> simp[behindInMarks,e1,e2]
theorem lh(ho:lR X (compareOp op) r)(ha:PE X a ta)(hb:PE X b tb)(hm:behindInMarks op b=false):PE X (.Compare a [op] [b] pos) (qE r ta tb):=by
 intro ae s σ H Q I h;exact wpAny_Compare1 (Jo ha hb I h fun v u s2 x y H2 I2 rx ry q=>ho ae s2 σ H2 x y v u Q I2 rx ry q) hm
def y4(t:TE):TT:=fun σ H Q=>t σ H fun x H'=>∃k,x=.bl k/\Q k H'
theorem a8(ho:lR X (compareOp op) r)(ha:PE X a ta)(hb:PE X b tb)(hm:behindInMarks op b=false):PT X (.Compare a [op] [b] pos) (y4 (qE r ta tb)):=by
 intro ae s σ H Q I h;refine wpAny_isTrue_Compare1 (cE (ha ae s σ H _ I h) fun v s1 ⟨x,H1,I1,r1,q1⟩=>cE (hb ae s1 σ H1 _ I1 q1) fun u s2 ⟨y,H2,I2,r2,q2⟩=>
  cE (ho ae s2 σ H2 x y v u _ I2 r1 r2 q2) fun c s3 ⟨z,H3,I3,r3,k,e,q3⟩=>?_) hm
 subst e;cases r3;exact oN ⟨H3,I3,q3⟩
def Js(r r':R2)(ta tb tc:TE):TE:=fun σ H Q=>ta σ H fun x H1=>tb σ H1 fun y H2=>r x y H2 fun z H3=>∃k,z=.bl k/\
 (if k=true then tc σ H3 fun w' H4=>r' y w' H4 Q else Q (.bl false) H3)
theorem Cm(ho:lR X (compareOp op) r)(uU:lR X (compareOp VJ) r')(ha:PE X a ta)(hb:PE X b tb)(hc:PE X c tc)(hm:lastMarks [op,VJ] [b,c]=false:=by with_unfolding_all rfl):PE X (.Compare a [op,VJ] [b,c] pos) (Js r r' ta tb tc):=by
 intro ae s σ H Q I h;refine Compare_chain (cE (ha ae s σ H _ I h) fun v s1 ⟨x,H1,I1,r1,q1⟩=>chain_link (cE (hb ae s1 σ H1 _ I1 q1) fun u s2 ⟨y,H2,I2,r2,q2⟩=>
  cE (ho ae s2 σ H2 x y v u _ I2 r1 r2 q2) fun d s3 ⟨z,H3,I3,r3,k,e,q3⟩=>?_)) hm
 subst e;cases r3;refine oN ?_;cases k with
 |false=>exact ite_ff ⟨.bl false,H3,I3,rfl,q3⟩
 |true=>exact ite_tt (chain_last (cE (hc ae s3 σ H3 _ I3 q3) fun w' s4 ⟨z',H4,I4,r4,q4⟩=>uU ae s4 σ H4 y z' u w' Q I4 r2 r4 q4))
theorem tu:(sizeLine:Nat)<2 ^ 63:=by rw[iV];decide
theorem y9(r:aP [x] us):∃u,us=[u]/\bA x u:=by
 cases r with
 |cons r1 r2=>cases r2;exact⟨_,rfl,r1⟩
theorem Cn(r:aP [x,y] us):∃u w',us=[u,w']/\bA x u/\bA y w':=by
 cases r with
 |cons r1 r2=>
  cases r2 with
  |cons r3 r4=>cases r4;exact⟨_,_,rfl,r1,r3⟩
theorem pq:eR X (.builtin "abs") (fun xs H Q=>∃i,xs=[.int i]/\Q (.int (if i<0 then -i else i)) H):=by
 intro ae s σ H xs us Q I r h;obtain⟨i,rfl,q⟩:=h;obtain⟨u,rfl,t,rfl⟩:=y9 r;exact call_abs_int fun u tk=>⟨.int (if i<0 then -i else i),H,I.tok _,⟨_,rfl⟩,q⟩
theorem qT(hc:X.calm=true):eR X (.builtin "max") (fun xs H Q=>∃i j,xs=[.int i,.int j]/\Q (.int (if j > i then j else i)) H):=by
 intro ae s σ H xs us Q I r h;obtain⟨i,j,rfl,q⟩:=h;obtain⟨u,w',rfl,⟨t,rfl⟩,⟨t',rfl⟩⟩:=Cn r;refine max_two_ints (I.ok.hd hc) fun h' tk k=>⟨_,H,I.kept k,?_,q⟩
 by_cases hj:j > i
 .rw[aq hj,aq hj];exact⟨_,rfl⟩
 .rw[au hj,au hj];exact⟨_,rfl⟩
theorem qU(hc:X.calm=true):eR X (.builtin "min") (fun xs H Q=>∃i j,xs=[.int i,.int j]/\Q (.int (if j<i then j else i)) H):=by
 intro ae s σ H xs us Q I r h;obtain⟨i,j,rfl,q⟩:=h;obtain⟨u,w',rfl,⟨t,rfl⟩,⟨t',rfl⟩⟩:=Cn r;refine min_two_ints (I.ok.hd hc) fun h' tk k=>⟨_,H,I.kept k,?_,q⟩
 by_cases hj:j<i
 .rw[aq hj,aq hj];exact⟨_,rfl⟩
 .rw[au hj,au hj];exact⟨_,rfl⟩
end
structure xF(h:Heap)(x dx C:Addr)(mA:Str->Option Value):Prop where
 obj:h.get? x=some (PySem.W.instObj C dx)
 ns:h.Ns1 dx mA
 ne:dx≠x
theorem Aq{h:Heap}{dx:Addr}{mA:Str->Option Value}(n:h.Ns1 dx mA):∃od,h.get? dx=some od/\∀name,PySem.W.lookIn name od=some (mA name):=by
 obtain⟨o,es,ep,ho,hd,hk,_,hm⟩:=n;refine⟨o,ho,fun name=>?_⟩;have e:=hm name;unfold nsFind findBy at e;rw[<-Array.find?_toList] at e;unfold PySem.W.lookIn;rw[hd];dsimp only;split
 .rename_i y q;rw[q] at e;exact congrArg some e
 .rename_i q;rw[q] at e;have a:es.toList.any (·.refKey)=false:=by
   rw[xh];intro y hy;obtain⟨z,t,nq⟩:=hk y (Array.mem_toList_iff.mp hy);simp[DictEntry.refKey,nq]
  have a':¬ es.toList.any (·.refKey)=true:=by rw[a];exact cq
  rw[au a'];exact congrArg some e
theorem xF.look(I:xF h x dx C mA):∃od,PySem.W.InstAt h x (PySem.W.instObj C dx) C (some od)/\∀name,PySem.W.lookIn name od=some (mA name):=
 let ⟨od,ho,hl⟩:=Aq I.ns
 ⟨od,⟨I.obj,rfl,rfl,ho⟩,hl⟩
section
variable {prog:Program} {w:World} {A:Around} {E:Value->Shared->Prop} {s:Shared} {K:PySem.W.Frag} {x dx C f:Addr} {mA:Str->Option Value} {name:Str} {v:Value}
theorem Fq(X:K.In s.heap)(I:xF s.heap x dx C mA)(hg:PySem.W.plainGet K C name=true)(hh:PySem.W.hasDictIn K C=true)(ha:PySem.W.findIn K (.ref C) name=some none)(hv:mA name=some v)(Jt:PySem.W.handedIn v=true)(h:Q v { s with toks:=s.toks+1 }):
  wpAny (model prog w) A (getAttr (.ref x) name Fs) Q E s:=by
 obtain⟨od,J,hl⟩:=I.look;exact PySem.W.get_value X J (w4 hg).1 (PySem.W.findObj_own hh ha rfl (by rw[hl,hv])) Jt h
theorem Co(X:K.In s.heap)(I:xF s.heap x dx C mA)(hg:PySem.W.plainGet K C name=true)(hf:PySem.W.findIn K (.ref C) name=some (some (.ref f)))(ht:PySem.W.isFn K (.ref f)=true)(hv:mA name=none)(h:Q (.ref f,[.ref x]) s):
  wpAny (model prog w) A (getMethod (.ref x) name pl) Q E s:=by
 obtain⟨od,J,hl⟩:=I.look;exact PySem.W.method_fn X J (w4 hg).1 (w4 hg).2 hf (fm.mp ht) (by show (PySem.W.lookIn name od).map (·.isSome)=some false;rw[hl,hv];rfl) h
theorem Ft(X:K.In s.heap)(I:xF s.heap x dx C mA)(hs:PySem.W.findIn K (.ref C) "__setattr__"=some (some (.builtin "object.__setattr__")))(hp:PySem.W.plainOver K C=true)(ht:PySem.W.takerIn K C name=some none)(hh:PySem.W.hasDictIn K C=true)(hw:PySem.Within mA ns)(kK:ns.length<=sizeLine)(h:∀h',xF h' x dx C (fun y=>if y=name then some v else mA y)->Heap.SameBut dx s.heap h'->Q () { s with heap:=h',toks:=s.toks+2 }):
  wpAny (model prog w) A (setAttr (.ref x) name v) Q E s:=by
 obtain⟨od,J,hl⟩:=I.look;refine PySem.W.set_plain X J hs (PySem.W.osa_open (s:={ s with toks:=s.toks+1 }) (r:=none) X J hp ht fun b=>?_);obtain⟨cd,hc,yR⟩:=PySem.W.any_some hh;have hx:s.heap.get? x=some ⟨.ref C,some dx,.plain,#[]⟩:=I.obj;refine ap (wpAny_pure (ap (ap (wpAny_loadPart hx (ap (PySem.W.Looks.here (s:={ s with toks:=s.toks+1 }) (PySem.W.looks_clsIn X hc) ?_))))));rw[yR];refine wpAny_pure (a:=some dx) (ap (wpAny_pure (ap ?_)));refine wpAny_nsSet1 (s:={ s with toks:=s.toks+1 }) I.ns fun h' LY tw=>?_;obtain⟨oD,esD,epD,XH,MZ,Fu⟩:=LY.count (PySem.Within.cons name v hw);refine ap (wpAny_lookBehind XH (by rw[MZ];exact pastItsLine_dict (aY Fu (by rw[cM];lia))) ?_);exact wpAny_pure (h _ ⟨(tw.2 _ (dq I.ne)).trans I.obj,LY,I.ne⟩ tw)
theorem ve(X:K.In s.heap)(hm:PySem.W.makesIn K C=true)(hi:PySem.W.findIn K (.ref C) "__init__"=some (some (.ref f)))(hf:PySem.W.typeIn K (.ref f)=some (.type "function"))(h:codeAny (model prog w) (A.under (.builtin "type.__call__" ⟨.ref C::vs,kw⟩)) (.call (.ref f) ⟨.ref (s.heap.objs.size+1)::vs,kw⟩) (PySem.W.InitBack (s.heap.objs.size+1) R)
   { s with heap:=(s.heap.push PySem.W.emptyDict).push (PySem.W.instObj C s.heap.objs.size) }):
  codeAny (model prog w) A (.call (.ref C) ⟨vs,kw⟩) R s:=by
 obtain⟨hh,g,d,t,os⟩:=s;exact PySem.W.make_core (PySem.W.makes_of X hm) (PySem.W.looks_findIn X hi) (fun self=>PySem.W.bind_fn X self hf) (.inl rfl) h
end
def cx(f:Str)(v:V):List (Str×V)->List (Str×V)
 |[]=>[(f,v)]
 |(g,x)::r=>if g=f then (g,v)::r else (g,x)::cx f v r
theorem aI(f g:Str)(v:V):∀fs:List (Str×V),(cx f v fs).lookup g=if g=f then some v else fs.lookup g
 |[]=>by
  show List.lookup g [(f,v)]=_;by_cases h:g=f
  .have hb:(g==f)=true:=fm.mpr h;simp only[List.lookup,hb,aq h]
  .have hb:(g==f)=false:=j6.mpr h;simp only[List.lookup,hb,au h]
 |(k,x)::r=>by
  have ih:=aI f g v r;rw[show cx f v ((k,x)::r)=(if k=f then (k,v)::r else (k,x)::cx f v r) from rfl];by_cases hk:k=f
  .rw[aq hk];by_cases h:g=k
   .have hb:(g==k)=true:=fm.mpr h;simp only[List.lookup,hb,aq (h.trans hk)]
   .have hb:(g==k)=false:=j6.mpr h;simp only[List.lookup,hb,au (fun e:g=f=>h (e.trans hk.symm))]
  .rw[au hk];by_cases h:g=k
   .have hb:(g==k)=true:=fm.mpr h;simp only[List.lookup,hb,au (fun e:g=f=>hk (h.symm.trans e))]
   .have hb:(g==k)=false:=j6.mpr h;simp only[List.lookup,hb];exact ih
theorem ml(f:Str)(v:V):∀fs:List (Str×V),f∈(cx f v fs).map (·.1)/\∀g,g∈fs.map (·.1)->g∈(cx f v fs).map (·.1)
 |[]=>⟨by simp[cx],fun g h=>by simp at h⟩
 |(k,x)::r=>by
  obtain⟨i1,i2⟩:=ml f v r;rw[show cx f v ((k,x)::r)=(if k=f then (k,v)::r else (k,x)::cx f v r) from rfl];by_cases hk:k=f
  .rw[aq hk];subst hk;exact⟨by simp,fun g h=>by simpa using h⟩
  .rw[au hk];refine⟨?_,fun g h=>?_⟩
   .rw[fJ];exact b8 _ i1
   .rw[fJ] at h |-;rcases bg.mp h with e|e
    .exact bg.mpr (.inl e)
    .exact b8 _ (i2 g e)
theorem cZ(f:Str)(v:V):∀fs:List (Str×V),(cx f v fs).length<=fs.length+1
 |[]=>by simp[cx]
 |(k,x)::r=>by
  have ih:=cZ f v r;rw[show cx f v ((k,x)::r)=(if k=f then (k,v)::r else (k,x)::cx f v r) from rfl];by_cases hk:k=f
  .rw[aq hk,cM,cM];lia
  .rw[au hk,cM,cM];lia
theorem qy.some_of(r:qy (some v) o):∃u,o=some u/\bA v u:=by
 cases o with
 |none=>exact(show False from r).elim
 |some u=>exact⟨u,rfl,r⟩
theorem qy.none_of(r:qy none o):o=none:=by
 cases o with
 |none=>rfl
 |some u=>exact(show False from r).elim
theorem Ar(r:bA v u):PySem.W.handedIn u=true:=by
 cases v with
 |bV=>cases (show u=Value.none from r);rfl
 |bl b=>cases (show u=Value.bool b from r);rfl
 |int i=>obtain⟨t,e⟩:=(show ∃t,u=Value.int i t from r);cases e;rfl
 |str x=>obtain⟨t,e⟩:=(show ∃t,u=Value.str x t from r);cases e;rfl
 |BB b=>obtain⟨t,e⟩:=(show ∃t,u=Value.bytes b t from r);cases e;rfl
 |Jf b=>obtain⟨t,e⟩:=(show ∃t,u=Value.float b t from r);cases e;rfl
 |ref a=>cases (show u=Value.ref a from r);rfl
 |ty n=>cases (show u=Value.type n from r);rfl
section
variable {P:Program} {w:World} {H H':Hp} {h h':Heap} {a C dx:Addr} {fs XC:List (Str×V)}
theorem nU(bq:kl P w H h)(e:H a=some (.ins C dx fs)):∃mA,xF h a dx C mA/\(∀f,qy (fs.lookup f) (mA f))/\PySem.Within mA (fs.map (·.1))/\fs.length<=1000/\H dx=some (.own a):=by
 obtain⟨d,z,ne,ob,mA,n,r,q⟩:=(show cw P w H h a (.ins C dx fs) from bq a _ e)
 exact⟨mA,⟨ob,n,ne⟩,r,q,z,d⟩
end
structure As(K:PySem.W.Frag)(C:Addr):Prop where
 pg:PySem.W.plainGet K C Str.empty=true
 hd:PySem.W.hasDictIn K C=true
 po:PySem.W.plainOver K C=true
 sa:PySem.W.findIn K (.ref C) "__setattr__"=some (some (.builtin "object.__setattr__"))
theorem As.get{K:PySem.W.Frag}{C:Addr}(c:As K C)(f:Str):PySem.W.plainGet K C f=true:=c.pg
def fc(K:PySem.W.Frag)(C:Addr)(f:Str):Prop:=PySem.W.findIn K (.ref C) f=some none
theorem fc.M0{K:PySem.W.Frag}{C:Addr}{f:Str}(n:fc K C f):PySem.W.takerIn K C f=some none:=by
 unfold PySem.W.takerIn;rw[show PySem.W.findIn K (.ref C) f=some none from n];rfl
structure Cp(K:PySem.W.Frag)(C:Addr)(m:Str)(f:Addr):Prop where
 at_:PySem.W.findIn K (.ref C) m=some (some (.ref f))
 fn:PySem.W.isFn K (.ref f)=true
 kp:PySem.W.keepIn K (.ref f)=true
section
variable {X:Cx} {ae:List (Addr×Obj)} {σ:St} {H:Hp} {s:Shared} {a C dx:Addr} {fs:List (Str×V)} {f:Str} {v:V} {A:Around} {E:Value->Shared->Prop}
theorem xG(I:aF X ae σ H s)(e:H a=some (.ins C dx fs))(c:As X.K C)(n:fc X.K C f)(l:fs.lookup f=some v)(h:∀u s',aF X ae σ H s'->bA v u->Q u s'):wpAny (model X.prog X.w) A (getAttr (.ref a) f b) Q E s:=by
 obtain⟨mA,O,r,_,_,_⟩:=nU I.bq e;obtain⟨u,hu,ru⟩:=qy.some_of (v:=v) (o:=mA f) (by rw[<-l];exact r f);exact Fq I.jm O (c.get f) c.hd n hu (Ar ru) (h u _ (I.tok _) ru)
theorem kr(I:aF X ae σ H s)(e:H a=some (.ins C dx fs))(c:As X.K C)(k:Cp X.K C m g)(l:fs.lookup m=none)(h:Q (.ref g,[.ref a]) s):wpAny (model X.prog X.w) A (getMethod (.ref a) m pl) Q E s:=by
 obtain⟨mA,O,r,_,_,_⟩:=nU I.bq e;have hn:mA m=none:=qy.none_of (by rw[<-l];exact r m);exact Co I.jm O (c.get m) k.at_ k.fn hn h
theorem xH(I:aF X ae σ H s)(e:H a=some (.ins C dx fs))(c:As X.K C)(n:fc X.K C f)(hl:fs.length<1000)(ry:bA y u)(h:∀s',aF X ae σ (upd H a (.ins C dx (cx f y fs))) s'->Q () s'):wpAny (model X.prog X.w) A (setAttr (.ref a) f u) Q E s:=by
 obtain⟨mA,O,r,wi,_,ho⟩:=nU I.bq e;have hz:(fs.map (·.1)).length<=sizeLine:=by rw[aZ,iV];lia
 refine Ft I.jm O c.sa c.po n.M0 c.hd wi hz fun h' O' sb=>h _ ?_;have hd:∃o,h'.get? dx=some o:=let ⟨o,_,_,e',_⟩:=O'.ns;⟨o,e'⟩;refine I.write (x:=a) (e:=dx) (by rw[e];exact True.intro) (.inr ho) (fun b q hb z=>(sb.2 b hb).trans z) hd ?_;refine⟨by rw[ao O.ne];exact ho,?_,O.ne,O'.obj,_,O'.ns,fun g=>?_,fun g hg=>?_⟩
 .have:=cZ f y fs;lia
 .show qy ((cx f y fs).lookup g) (if g=f then some u else mA g);rw[aI];by_cases q:g=f
  .rw[aq q,aq q];exact ry
  .rw[au q,au q];exact r g
 .by_cases q:g=f
  .rw[q];exact(ml f y fs).1
  .refine(ml f y fs).2 g (wi g fun z=>hg ?_);show (if g=f then some u else mA g)=none;rw[au q];exact z
theorem aF.made(I:aF X ae σ H s):aF X ae σ (upd (upd H s.heap.objs.size (.own (s.heap.objs.size+1))) (s.heap.objs.size+1) (.ins C s.heap.objs.size []))
  { s with heap:=(s.heap.push PySem.W.emptyDict).push (PySem.W.instObj C s.heap.objs.size) }:=by
 have e1:(s.heap.push PySem.W.emptyDict).get? s.heap.objs.size=some PySem.W.emptyDict:=cC s.heap rfl;have e2:((s.heap.push PySem.W.emptyDict).push (PySem.W.instObj C s.heap.objs.size)).get? (s.heap.objs.size+1)=some (PySem.W.instObj C s.heap.objs.size):=by
  have:=cC (s.heap.push PySem.W.emptyDict) (o:=PySem.W.instObj C s.heap.objs.size) rfl;rwa [iR] at this
 have e3:(s.heap.push PySem.W.emptyDict).Ns s.heap.objs.size (fun _=>none):=⟨PySem.W.emptyDict,#[],_,e1,rfl,(fun e he=>absurd he (by simp)),fun _=>rfl⟩
 have I1:=I.laid (a:=s.heap.objs.size) (o:=.own (s.heap.objs.size+1)) (h':=s.heap.push PySem.W.emptyDict) (t':=s.toks) (fun b u q=>bC _ q) (a9 _) ⟨_,e1⟩;refine I1.laid (a:=s.heap.objs.size+1) (o:=.ins C s.heap.objs.size []) (t':=s.toks) (fun b u q=>bC _ q) (sL (iR _ _)) ?_;have ne:s.heap.objs.size≠s.heap.objs.size+1:=aT (gR _);refine⟨by rw[ao ne,ag],cN _,ne,e2,fun _=>none,(Heap.Ns1.of_empty e3).at fun o q=>bC _ q,fun _=>True.intro,fun y hy=>absurd rfl hy⟩
theorem Fv(hb:attributeBase e f env (eval e env)=eval e env)(h:wpAny (model prog w) A (eval e env) (fun o s₁=>wpAny (model prog w) A (getAttr o f true) Q E s₁) E s):wpAny (model prog w) A (eval (.Attribute e f pos) env) Q E s:=
 Attribute_any_ h (by rw[arm_eval_Attribute,hb])
end
def Ju(K:PySem.W.Frag)(ta:TE)(f:Str):TE:=fun σ H Q=>ta σ H fun x H1=>∃a C dx fs v,x=.ref a/\H1 a=some (.ins C dx fs)/\As K C/\fc K C f/\fs.lookup f=some v/\Q v H1
def RQ(K:PySem.W.Frag)(ta tv:TE)(f:Str):TS:=fun D σ H=>tv σ H fun y H1=>ta σ H1 fun x H2=>∃a C dx fs,x=.ref a/\H2 a=some (.ins C dx fs)/\As K C/\fc K C f/\fs.length<1000/\
 D.nx σ (upd H2 a (.ins C dx (cx f y fs)))
section
variable {X:Cx} {o e value:Expr} {f:Str} {pos Am Fw:Pos} {ta tv:TE}
theorem dF(he:PE X e ta)(hb:attributeBase e f X.env (eval e X.env)=eval e X.env):PE X (.Attribute e f pos) (Ju X.K ta f):=by
 intro ae s σ H Q I h;refine Fv hb (cE (he ae s σ H _ I h) fun u s1 ⟨x,H1,I1,rx,a,C,dx,fs,v,ex,ea,c,n,l,q⟩=>?_);subst ex;obtain rfl:u=Value.ref a:=rx;exact xG I1 ea c n l fun u' s2 I2 ru=>⟨v,H1,I2,ru,q⟩
theorem mm(ha:PE X o ta)(hv:PE X value tv)(hs:swapsWith value (some (.Attribute o f Am)) pos.line X.env=pure false):PS X (.Assign [.Attribute o f Am] value pos) (RQ X.K ta tv f):=by
 intro ae s σ H D I h;refine plainObj_wpAny_Assign_Attribute (cE (hv ae s σ H _ I h) fun u s1 ⟨y,H1,I1,ry,q⟩=>cE (ha ae s1 σ H1 _ I1 q) fun ov s2 ⟨x,H2,I2,rx,a,C,dx,fs,ex,ea,c,n,l,q2⟩=>?_) hs;subst ex;obtain rfl:ov=Value.ref a:=rx;exact xH I2 ea c n l ry fun s3 I3=>⟨σ,_,I3,q2⟩
end
section
variable {X:Cx} {ae:List (Addr×Obj)} {σ:St} {H:Hp} {s:Shared} {A:Around} {E:Value->Shared->Prop} {Q:Value->Shared->Prop} {c:Value} {b:Bool}
inductive mn (K:PySem.W.Frag) (H:Hp):V->Value->Prop where
 |bV:mn K H .bV (.type "NoneType")
 |bl (x:Bool):mn K H (.bl x) (.type "bool")
 |int (i:Int):mn K H (.int i) (.type "int")
 |str (x:Str):mn K H (.str x) (.type "str")
 |Jf (x:UInt64):mn K H (.Jf x) (.type "float")
 |lst {a:Addr} {xs:List V} (e:H a=some (.lst xs)):mn K H (.ref a) (.type "list")
 |qR {a:Addr} {o:Obj} {xs:List V} (e:H a=some (.qR o (.lst xs))):mn K H (.ref a) (.type "list")
 |tup {a:Addr} {xs:List V} (e:H a=some (.tup xs)):mn K H (.ref a) (.type "tuple")
 |dK {a:Addr} {kZ:List (qx×V)} (e:H a=some (.dK kZ)):mn K H (.ref a) (.type "dict")
 |dT {a:Addr} {kZ:List (List qx×V)} (e:H a=some (.dT kZ)):mn K H (.ref a) (.type "dict")
 |ins {a C dx:Addr} {fs:List (Str×V)} (e:H a=some (.ins C dx fs)) (cl:As K C) (ha:PySem.W.findIn K (.ref C) "__class__"=some (some (.builtin "object.__class__")))
   (hn:PySem.W.specialIn K (.builtin "object.__class__") "__get__"=some (some (.builtin "getset_descriptor.__get__"))) (RS:PySem.W.takesIn K (.builtin "object.__class__")=some true)
   (hm:PySem.W.mroIn K C (.type "object")=some true):mn K H (.ref a) (.ref C)
theorem qV(I:aF X ae σ H s)(rx:bA x u)(ty:mn X.K H x t)(e:PySem.W.kitOne X.K t c=some b)(h:∀tk,Q (.bool b) { s with toks:=tk }):
  wpAny (model X.prog X.w) A (call (.builtin "isinstance") [u,c]) Q E s:=by
 cases ty with
 |bV=>cases (show u=Value.none from rx);exact gU PySem.W.kitx_none I.jm True.intro e (fun z=>nomatch z) h
 |bl y=>cases (show u=Value.bool y from rx);exact gU PySem.W.kitx_bool I.jm True.intro e (fun z=>nomatch z) h
 |int i=>obtain⟨t,q⟩:=(show ∃t,u=Value.int i t from rx);cases q;exact gU PySem.W.kitx_int I.jm True.intro e (fun z=>nomatch z) h
 |str y=>obtain⟨t,q⟩:=(show ∃t,u=Value.str y t from rx);cases q;exact gU PySem.W.kitx_str I.jm True.intro e (fun z=>nomatch z) h
 |Jf y=>obtain⟨t,q⟩:=(show ∃t,u=Value.float y t from rx);cases q;exact gU PySem.W.kitx_float I.jm True.intro e (fun z=>nomatch z) h
 |@lst a xs ea=>
  cases (show u=Value.ref a from rx);obtain⟨_,_,n,_,h1⟩:=(show cw X.prog X.w H s.heap a (.lst xs) from I.bq a _ ea)
  exact gU PySem.W.kitx_list I.jm ⟨_,h1,rfl⟩ e (fun z=>nomatch z) h
 |@qR a ob xs ea=>
  cases (show u=Value.ref a from rx);obtain⟨_,_,_,n,_,h1⟩:=(show cw X.prog X.w H s.heap a (.qR ob (.lst xs)) from I.bq a _ ea)
  exact gU PySem.W.kitx_list I.jm ⟨_,h1,rfl⟩ e (fun z=>nomatch z) h
 |@tup a xs ea=>
  cases (show u=Value.ref a from rx);obtain⟨_,_,_,p⟩:=(show cw X.prog X.w H s.heap a (.tup xs) from I.bq a _ ea)
  obtain⟨o,h1,h2,_⟩:=p;exact gU PySem.W.kitx_tuple I.jm ⟨o,h1,h2⟩ e (fun z=>nomatch z) h
 |@dK a kZ ea=>
  cases (show u=Value.ref a from rx);obtain⟨_,_,vs,_,p⟩:=(show cw X.prog X.w H s.heap a (.dK kZ) from I.bq a _ ea)
  obtain⟨o,es,ep,h1,h2,_⟩:=p;exact gU PySem.W.kitx_dict I.jm ⟨o,h1,h2.1⟩ e (fun z=>nomatch z) h
 |@dT a kZ ea=>
  cases (show u=Value.ref a from rx);obtain⟨_,_,xs,_,o,es,ep,h1,h2,_⟩:=(show cw X.prog X.w H s.heap a (.dT kZ) from I.bq a _ ea)
  exact gU PySem.W.kitx_dict I.jm ⟨o,h1,h2.1⟩ e (fun z=>nomatch z) h
 |@ins a C dx fs ea cl ha hn RS hm=>
  cases (show u=Value.ref a from rx);obtain⟨mA,O,_⟩:=nU I.bq ea;obtain⟨od,J,_⟩:=O.look;exact gU (PySem.W.kitx_own (cl.get _) cl.hd ha hn RS hm) I.jm J e (fun z=>nomatch z) h
end
structure bK(k:Nat)(A:Around):Prop where
 hd:A.handled=none
 dp:A.depth+3*k+5<recursionLimit
 un:A.units+16*k+200<cLine
 gd:A.guards=some []
theorem bK.mono(r:bK k A)(h:j<=k):bK j A:=⟨r.hd,by have:=r.dp;lia,by have:=r.un;lia,r.gd⟩
theorem bK.deeper(r:bK (k+1) A)(env:Env):bK k (A.deeper env):=
 ⟨r.hd,by have:=r.dp;show A.depth+1+3*k+5<_;lia,by have:=r.un;show A.units+3+16*k+200<_;lia,r.gd⟩
theorem xI{A:Around}{C:Addr}{us:List Value}{kw:List (Str×Value)}:(A.under (.builtin "type.__call__" ⟨.ref C::us,kw⟩)).depth=A.depth+1:=by
 first|rfl|simp[Around.under,Code.weight,Code.isCreation,Code.isGuard,Code.isCaller,Code.frames,Code.isFrame,guardIds]
theorem xJ{A:Around}{C:Addr}{us:List Value}{kw:List (Str×Value)}:(A.under (.builtin "type.__call__" ⟨.ref C::us,kw⟩)).units=A.units+1:=by
 first|rfl|simp[Around.under,Code.cUnits,Code.frames,Code.isFrame]
theorem bK.make(r:bK (k+1) A)(C:Addr)(us:List Value)(kw:List (Str×Value)):bK k (A.under (.builtin "type.__call__" ⟨.ref C::us,kw⟩)):=
 ⟨r.hd,by have:=r.dp;rw[xI];lia,by have:=r.un;rw[xJ];lia,r.gd⟩
theorem bK.depth(r:bK k A):A.depth<recursionLimit:=by have:=r.dp;lia
theorem bK.u(r:bK k A)(h:n<=200:=by decide):A.units+n<cLine:=by have:=r.un;lia
def eC:TA:=fun _ H Q=>Q [] H
def bQ(ta:TE)(tr:TA):TA:=fun σ H Q=>ta σ H fun x H1=>tr σ H1 fun xs H2=>Q (x::xs) H2
section
variable {X:Cx} {e:Expr} {es:List Expr} {te:TE} {t:TA} {pos:Pos}
theorem af:PA X [] eC:=fun _ _ _ _ H Q I h=>Calls.spliced_nil ⟨[],H,I,.nil,h⟩
theorem aa(ha:PE X e te)(hr:PA X es t)(hs:starEach (e::es) X.env=(false,eval e X.env)::starEach es X.env:=by rfl):PA X (e::es) (bQ te t):=by
 intro pos ae s σ H Q I h;rw[hs];show wpAny _ _ (spliced ((false,eval e X.env)::backTo pos (starEach es X.env))) _ _ s;refine Calls.spliced_cons (cE (ha ae s σ H _ I h) fun u s1 ⟨x,H1,I1,r1,q1⟩=>?_);exact cE (hr pos ae s1 σ H1 _ I1 q1) fun us s2 ⟨xs,H2,I2,r2,q2⟩=>⟨x::xs,H2,I2,.cons r1 r2,q2⟩
def Jv(t:TA):TE:=fun σ H Q=>t σ H fun xs H1=>xs.length<=sizeLine/\∀p,H1 p=none->Q (.ref p) (upd H1 p (.tup xs))
def Fx(t:TA):TE:=fun σ H Q=>t σ H fun xs H1=>xs.length<=sizeLine/\∀p,H1 p=none->Q (.ref p) (upd H1 p (.lst xs))
theorem fV{x1}(h:PA X es t):PE X (.Tuple es x1 pos) (Jv t):=by
 intro ae s σ H Q I hq;refine wpAny_Tuple_spliced (cE (h pos ae s σ H _ I hq) fun us s1 ⟨xs,H1,I1,r,z,q⟩=>⟨by rw[<-r.length];exact z,?_⟩);have hf:H1 s1.heap.objs.size=none:=I1.bq.fresh (a9 _);refine⟨.ref s1.heap.objs.size,upd H1 s1.heap.objs.size (.tup xs),I1.laid (t':=s1.toks) (fun b u e=>bC _ e) (a9 _) ?_,rfl,q _ hf⟩;exact⟨z,us,r,⟨_,cC _ rfl,rfl,_,rfl,rfl⟩⟩
theorem bX(h:PA X es t):PE X (.List es pos) (Fx t):=by
 intro ae s σ H Q I hq;refine wpAny_List_spliced (cE (h pos ae s σ H _ I hq) fun us s1 ⟨xs,H1,I1,r,z,q⟩=>⟨by rw[<-r.length];exact z,?_⟩);have hf:H1 s1.heap.objs.size=none:=I1.bq.fresh (a9 _);refine⟨.ref s1.heap.objs.size,upd H1 s1.heap.objs.size (.lst xs),I1.laid (t':=s1.toks) (fun b u e=>bC _ e) (a9 _) ?_,rfl,q _ hf⟩;exact⟨z,us,0,r,cC _ rfl⟩
end
abbrev Sp:=List V->Hp->VK->XK->Prop
abbrev nu:=List Env->Hp->Shared->XK->Value->Shared->Prop
structure tD(P:Program)(w:World)(K:PySem.W.Frag)(mg:Str->Option Value)(base:Heap)(A:Around)(outer:List Env)(s:Shared)(H:Hp):Prop where
 frames:A.frames=some outer
 mod:Mod K mg base
 bs:∀b o,base.get? b=some o->s.heap.get? b=some o/\H b=none
 Ai:base.objs.size<=s.heap.objs.size
 iZ:s.heap.FunFrames base outer
 BE:∀b∈jR outer,H b=none
 bq:kl P w H s.heap
 bare:AllBare s.gens
def CE(outer:List Env)(P:Program)(w:World)(H:Hp)(s:Shared)(Q:VK)(u:Value)(s':Shared):Prop:=
 ∃v H',s'.os=s.os/\AllBare s'.gens/\Un (jR outer) [] H H' s.heap s'.heap/\kl P w H' s'.heap/\bA v u/\Q v H'
def CR(CX:nu)(outer:List Env)(P:Program)(w:World)(H:Hp)(s:Shared)(Q:VK)(E:XK)(r:Result)(s':Shared):Prop:=
 match r with
 |.ok (.ret u)=>CE outer P w H s Q u s'
 |.ok _=>False
 |.error e=>CX outer H s E e s'
structure be(P:Program)(w:World)(K:PySem.W.Frag)(mg:Str->Option Value)(base:Heap)(CX:nu)(k:Nat)(f:Addr)(fd:FuncData)(ps:List Str)(sp:Sp):Prop where
 len:∀vs H Q E,sp vs H Q E->vs.length=ps.length
 run:∀ (A:Around) (outer:List Env) (s:Shared) (H:Hp) (args:Args) (us:List Value) (vs:List V) (Q:VK) (E:XK),bK k A->tD P w K mg base A outer s H->BindsTo s fd args (ps.zip us)->aP vs us->sp vs H Q E->
  codeAny (model P w) A (.call (.ref f) args) (CR CX outer P w H s Q E) s
theorem tD.make{P:Program}{w:World}{K:PySem.W.Frag}{mg:Str->Option Value}{base:Heap}{A:Around}{outer:List Env}{s:Shared}{H:Hp}(e:tD P w K mg base A outer s H)(C:Addr)(us:List Value)(kw:List (Str×Value)):
  tD P w K mg base (A.under (.builtin "type.__call__" ⟨.ref C::us,kw⟩)) outer s H:=⟨by first|exact e.frames|(simpa [Around.under,Code.envs,Code.isFrame,pushEnvs] using e.frames),e.mod,e.bs,e.Ai,e.iZ,e.BE,e.bq,e.bare⟩
section
variable {X:Cx} {ae:List (Addr×Obj)} {σ:St} {H:Hp} {s s':Shared}
theorem aF.Cq(I:aF X ae σ H s):tD X.prog X.w X.K X.mg X.base X.A X.stack s H:=
 ⟨I.ok.frames,I.ok.mod,I.bs,aY I.ok.Ai I.sz,I.stack,I.sW,I.bq,I.bare⟩
theorem aF.after(I:aF X ae σ H s)(h:CE X.stack X.prog X.w H s Q u s'):EP X ae σ Q u s':=by
 obtain⟨v,H',os,bare,un,bq,r,q⟩:=h;obtain⟨hh,g,d,t,RT⟩:=s';obtain rfl:RT=s.os:=os;exact⟨v,H',I.call (h':=hh) (g':=g) (d':=d) (t':=t) (ch:=[]) un bq bare (fun b z=>absurd z (by simp)),r,q⟩
end
def pz(sp:Sp)(fW:List V)(E:XK)(t:TA):TE:=fun σ H Q=>t σ H fun vs H1=>sp (vs++fW) H1 Q E
def Ib(C:Addr)(m:Str)(sp:Sp)(fW:List V)(E:XK)(ta:TE)(t:TA):TE:=fun σ H Q=>ta σ H fun x H1=>∃a dx fs,x=.ref a/\H1 a=some (.ins C dx fs)/\fs.lookup m=none/\
 t σ H1 fun vs H2=>sp (x::(vs++fW)) H2 Q E
def M1(C:Addr)(sp:Sp)(fW:List V)(E:XK)(t:TA):TE:=fun σ H Q=>t σ H fun vs H1=>∀x dx,H1 x=none->H1 dx=none->dx≠x->
 sp (.ref x::(vs++fW)) (upd (upd H1 dx (.own x)) x (.ins C dx [])) (fun v H2=>v=.bV/\Q (.ref x) H2) E
def dJ(K:PySem.W.Frag)(fd:FuncData)(ps:List Str)(ds:List Value):Prop:=
 ∀ (s:Shared) (us:List Value),K.In s.heap->(us++ds).length=ps.length->BindsTo s fd ⟨us,[]⟩ (ps.zip (us++ds))
theorem dJ.all{K:PySem.W.Frag}{fd:FuncData}{ps:List Str}(h:∀us:List Value,us.length=ps.length->bindArgs fd ⟨us,[]⟩=pure (ps.zip us)):dJ K fd ps []:=fun s us _ hl=>by
 rw[fE] at hl |-;exact .of_eq (h us hl)
def ff(CX:nu)(X:Cx)(E:XK):Prop:=∀ (ae:List (Addr×Obj)) (σ:St) (H:Hp) (s:Shared) (e:Value) (s':Shared),aF X ae σ H s->CX X.stack H s E e s'->X.xe e s'
section
variable {X:Cx} {CX:nu} {k:Nat} {f C:Addr} {fd:FuncData} {ps:List Str} {sp:Sp} {fW:List V} {ds:List Value} {E:XK} {x m:Str} {p pos jK:Pos} {e o:Expr} {es:List Expr} {ta:TE} {t:TA}
theorem xK(F:be X.prog X.w X.K X.mg X.base CX k f fd ps sp)(hr:bK k X.A)(hb:dJ X.K fd ps ds)(hd:aP fW ds)(hx:ff CX X E)(I:aF X ae σ H s)(r:aP vs us)(h:sp (vs++fW) H Q E):wpAny (model X.prog X.w) X.A (call (.ref f) us) (EP X ae σ Q) X.xe s:=by
 have r2:aP (vs++fW) (us++ds):=r.append hd;have hl:(us++ds).length=ps.length:=by rw[<-r2.length];exact F.len _ _ _ _ h
 refine kh (h_ (F.run X.A X.stack s H ⟨us,[]⟩ (us++ds) (vs++fW) Q E hr I.Cq (hb s us I.jm hl) r2 h) fun r s' hq=>?_);cases r with
 |error e=>exact hx ae σ H s e s' I hq
 |ok fl=>
  cases fl with
  |ret u=>exact I.after hq
  |next=>exact False.elim hq
  |brk=>exact False.elim hq
  |cont=>exact False.elim hq
theorem Fy(F:be X.prog X.w X.K X.mg X.base CX k f fd ps sp)(hr:bK k X.A)(hg:Gl X x)(hm:X.mg x=some (.ref f))(hk:PySem.W.keepIn X.K (.ref f)=true)(hb:dJ X.K fd ps ds)(hd:aP fW ds)(hx:ff CX X E)(ha:PA X (e::es) t)(pA:(x==("__debug__":Str))=false:=by decide)(he:starEach (e::es) X.env=(false,eval e X.env)::starEach es X.env:=by rfl)(lQ:(backTo pos (starEach es X.env)).any (·.1)=false:=by rfl):
  PE X (.Call (.Name x p) (e::es) [] pos) (pz sp fW E t):=by
 intro ae s σ H Q I h;refine j8 (jo I hg hm ?_ pA);refine lW (h₀:=X.base) I.ok.mod.B3 hk (cE (ha pos ae s σ H _ I h) fun us s1 ⟨vs,H1,I1,r,q⟩=>⟨I1.jm,?_⟩) he lQ;exact xK F hr hb hd hx I1 r q
theorem dQ(he:PE X o ta)(c:As X.K C)(hm:Cp X.K C m f)(F:be X.prog X.w X.K X.mg X.base CX k f fd ps sp)(hr:bK k X.A)(hb:dJ X.K fd ps ds)(hd:aP fW ds)(hx:ff CX X E)(ha:PA X (e::es) t)(jp:starEach (e::es) X.env=(false,eval e X.env)::starEach es X.env:=by rfl)(lQ:(backTo pos (starEach es X.env)).any (·.1)=false:=by rfl)(ht:eval (.Call (.Attribute o m jK) (e::es) [] pos) X.env=(do
   let ov <- eval o X.env
   standAt jK.atName
   let (f,first) <- holding [ov] (getMethod ov m pl)
   callWith pos f first (backTo pos (starEach (e::es) X.env)) (backToKw pos (keywordEach [] X.env))):=by rfl):
  PE X (.Call (.Attribute o m jK) (e::es) [] pos) (Ib C m sp fW E ta t):=by
 intro ae s σ H Q I h;refine wU (pl:=pl) (cE (he ae s σ H _ I h) fun u s1 ⟨x,H1,I1,rx,a,dx,fs,ex,ea,l,q⟩=>?_) ht;subst ex;obtain rfl:u=Value.ref a:=rx;refine kr I1 ea c hm l ?_;refine lW (first:=[.ref a]) (h₀:=X.base) I.ok.mod.B3 hm.kp (cE (ha pos ae s1 σ H1 _ I1 q) fun us s2 ⟨vs,H2,I2,r,q2⟩=>⟨I2.jm,?_⟩) jp lQ;exact xK (us:=.ref a::us) (vs:=.ref a::vs) F hr hb hd hx I2 (.cons rfl r) q2
theorem i7{pl:Sem Bool}(he:PE X o ta)(c:As X.K C)(hm:Cp X.K C m f)(F:be X.prog X.w X.K X.mg X.base CX k f fd ps sp)(hr:bK k X.A)(hb:dJ X.K fd ps ds)(hd:aP fW ds)(hx:ff CX X E)(ht:eval (.Call (.Attribute o m jK) [] [] pos) X.env=(do
   let ov <- eval o X.env
   standAt jK.atName
   let (f,first) <- holding [ov] (getMethod ov m pl)
   callWith pos f first (backTo pos (starEach [] X.env)) (backToKw pos (keywordEach [] X.env))):=by rfl):
  PE X (.Call (.Attribute o m jK) [] [] pos) (Ib C m sp fW E ta eC):=by
 intro ae s σ H Q I h;refine wU (pl:=pl) (cE (he ae s σ H _ I h) fun u s1 ⟨x,H1,I1,rx,a,dx,fs,ex,ea,l,q⟩=>?_) ht;subst ex;obtain rfl:u=Value.ref a:=rx;refine kr I1 ea c hm l ?_;exact PySem.W.callWith_K0 (first:=[.ref a]) I1.jm hm.kp (xK (us:=[.ref a]) (vs:=[.ref a]) F hr hb hd hx I1 (.cons rfl .nil) q)
structure Mk(K:PySem.W.Frag)(C f:Addr):Prop where
 makes:PySem.W.makesIn K C=true
 init:PySem.W.findIn K (.ref C) "__init__"=some (some (.ref f))
 fn:PySem.W.isFn K (.ref f)=true
 kp:PySem.W.keepIn K (.ref C)=true
theorem Cr(M:Mk X.K C f)(F:be X.prog X.w X.K X.mg X.base CX k f fd ps sp)(hr:bK (k+1) X.A)(hb:dJ X.K fd ps ds)(hd:aP fW ds)(hx:ff CX X E)(I:aF X ae σ H s)(r:aP vs us)(h:∀x dx,H x=none->H dx=none->dx≠x->sp (.ref x::(vs++fW)) (upd (upd H dx (.own x)) x (.ins C dx [])) (fun v H2=>v=.bV/\Q (.ref x) H2) E):
  wpAny (model X.prog X.w) X.A (call (.ref C) us) (EP X ae σ Q) X.xe s:=by
 have hq:=h (s.heap.objs.size+1) s.heap.objs.size (I.bq.fresh (sR _)) (I.bq.fresh (a9 _)) (aT (gR _));have I2:=aF.made (C:=C) I;have r2:aP (V.ref (s.heap.objs.size+1)::(vs++fW)) (Value.ref (s.heap.objs.size+1)::(us++ds)):=.cons rfl (r.append hd);have hl:(Value.ref (s.heap.objs.size+1)::us++ds).length=ps.length:=by
  have e:=r2.length;rw[F.len _ _ _ _ hq] at e;exact e.symm
 refine kh (ve (f:=f) I.jm M.makes M.init (fm.mp M.fn) (h_ (F.run _ X.stack _ _ ⟨Value.ref (s.heap.objs.size+1)::us,[]⟩ (Value.ref (s.heap.objs.size+1)::(us++ds)) _ _ E (hr.make C us [])
  (I2.Cq.make C us []) (hb _ (Value.ref (s.heap.objs.size+1)::us) I2.jm hl) r2 hq) fun r s' Au=>?_))
 cases r with
 |error e=>exact hx ae σ _ _ e s' I2 Au
 |ok fl=>
  cases fl with
  |ret u=>
   obtain⟨v,H',I3,rv,ev,q3⟩:=I2.after Au;subst ev;exact⟨rv,⟨V.ref (s.heap.objs.size+1),H',I3,rfl,q3⟩⟩
  |next=>exact False.elim Au
  |brk=>exact False.elim Au
  |cont=>exact False.elim Au
theorem y_(M:Mk X.K C f)(F:be X.prog X.w X.K X.mg X.base CX k f fd ps sp)(hr:bK (k+1) X.A)(hg:Gl X x)(hm:X.mg x=some (.ref C))(hb:dJ X.K fd ps ds)(hd:aP fW ds)(hx:ff CX X E)(ha:PA X (e::es) t)(pA:(x==("__debug__":Str))=false:=by decide)(he:starEach (e::es) X.env=(false,eval e X.env)::starEach es X.env:=by rfl)(lQ:(backTo pos (starEach es X.env)).any (·.1)=false:=by rfl):
  PE X (.Call (.Name x p) (e::es) [] pos) (M1 C sp fW E t):=by
 intro ae s σ H Q I h;refine j8 (jo I hg hm ?_ pA);refine lW (h₀:=X.base) I.ok.mod.B3 M.kp (cE (ha pos ae s σ H _ I h) fun us s1 ⟨vs,H1,I1,r,q⟩=>⟨I1.jm,?_⟩) he lQ;exact Cr M F hr hb hd hx I1 r q
end
def PK(X:Cx)(Cs:List Keyword)(t:TA):Prop:=
 ∀ (pos:Pos) (ae:List (Addr×Obj)) (s:Shared) (σ:St) (H:Hp) (Q:List V->Hp->Prop),aF X ae σ H s->t σ H Q->wpAny (model X.prog X.w) X.A (evalAll ((backToKw pos (keywordEach Cs X.env)).map (·.2))) (AP X ae σ Q) X.xe s
section
variable {X:Cx} {CX:nu} {k:Nat} {f C:Addr} {fd:FuncData} {ps ks:List Str} {sp:Sp} {E:XK} {x m:Str} {p pos jK RU:Pos} {e o:Expr} {es:List Expr} {Cs:List Keyword} {te ta:TE} {t tk:TA} {nm:Option Str}
theorem Jw:PK X [] eC:=fun _ _ _ _ H Q I h=>wpAny_evalAll_nil ⟨[],H,I,.nil,h⟩
theorem Fz(ha:PE X e te)(hr:PK X Cs t):PK X (⟨nm,e,RU⟩::Cs) (bQ te t):=by
 intro pos ae s σ H Q I h;show wpAny _ _ (evalAll ((do let v <- eval e X.env;standAt pos;pure v)::(backToKw pos (keywordEach Cs X.env)).map (·.2))) _ _ s;refine wpAny_evalAll_cons (ap (cE (ha ae s σ H _ I h) fun u s1 ⟨x,H1,I1,r1,q1⟩=>ap (o0 (wpAny_pure ?_))));exact cE (hr pos ae s1 σ H1 _ I1 q1) fun us s2 ⟨xs,H2,I2,r2,q2⟩=>⟨x::xs,H2,I2,.cons r1 r2,q2⟩
variable {g:List Value->List Value->List Value} {gV:List V->List V->List V}
end
structure aE(N P:List Str)(sc:Scope):Prop where
 kind:sc.kind=.function
 co:sc.isCoroutine=false
 gen:sc.isGenerator=false
 nd:N.Nodup
 pre:N.take P.length=P
 par:∀x∈P,sc.names.lookup x=some .local\/sc.names.lookup x=some .cell
 Ct:∀y∈sc.names,y.2≠.free
theorem qW{kindOf:Str->Option NameKind}{x:Str}:∀ {binds:List (Str×Value)} {m:Str->Option Value},(∀v,(x,v)∉binds)->bindL kindOf binds m x=m x
 |[],_,_=>rfl
 |(n,v)::r,m,h=>by
  unfold bindL;rw[qW fun w hw=>h w (b8 _ hw)];split
  .have:x≠n:=by rintro rfl;exact h v ci
   simp[this]
  .rfl
theorem qX{kindOf:Str->Option NameKind}{x:Str}:∀ {binds:List (Str×Value)} {m:Str->Option Value},(∀v,(x,v)∉binds)->bindC kindOf binds m x=m x
 |[],_,_=>rfl
 |(n,v)::r,m,h=>by
  unfold bindC;rw[qX fun w hw=>h w (b8 _ hw)];split
  .rfl
  .have:x≠n:=by rintro rfl;exact h v ci
   simp[this]
theorem mq{kindOf:Str->Option NameKind}{x:Str}{v:Value}:∀ {P:List Str} {vs:List Value} {i:Nat} {m:Str->Option Value},P.Nodup->P[i]?=some x->vs[i]?=some v->kindOf x=some .local->
  bindL kindOf (P.zip vs) m x=some v
 |[],_,_,_,_,h,_,_=>by simp at h
 |_::_,[],_,_,_,_,h,_=>by simp at h
 |p::P,w::vs,0,m,nd,h1,h2,hk=>by
  simp at h1 h2;subst h1;subst h2;show bindL kindOf ((p,w)::P.zip vs) m p=_;unfold bindL;rw[qW fun v hv=>(iC.mp nd).1 (l6 hv).1,aq hk];simp
 |p::P,w::vs,i+1,m,nd,h1,h2,hk=>by
  show bindL kindOf ((p,w)::P.zip vs) m x=_;unfold bindL;exact mq (i:=i) (iC.mp nd).2 (by simpa using h1) (by simpa using h2) hk
theorem mr{kindOf:Str->Option NameKind}{x:Str}{v:Value}:∀ {P:List Str} {vs:List Value} {i:Nat} {m:Str->Option Value},P.Nodup->P[i]?=some x->vs[i]?=some v->kindOf x≠some .local->
  bindC kindOf (P.zip vs) m x=some v
 |[],_,_,_,_,h,_,_=>by simp at h
 |_::_,[],_,_,_,_,h,_=>by simp at h
 |p::P,w::vs,0,m,nd,h1,h2,hk=>by
  simp at h1 h2;subst h1;subst h2;show bindC kindOf ((p,w)::P.zip vs) m p=_;unfold bindC;rw[qX fun v hv=>(iC.mp nd).1 (l6 hv).1,au hk];simp
 |p::P,w::vs,i+1,m,nd,h1,h2,hk=>by
  show bindC kindOf ((p,w)::P.zip vs) m x=_;unfold bindC;exact mr (i:=i) (iC.mp nd).2 (by simpa using h1) (by simpa using h2) hk
def start(N:List Str)(vs:List V):St:=vs.map some++List.replicate (N.length-vs.length) none
def gX(CX:nu)(P:Program)(w:World)(K:PySem.W.Frag)(mg:Str->Option Value)(base:Heap)(N:List Str)(qual:Str)(scope:Scope)(f:Addr)(cd:Value)(A:Around)(outer:List Env)(s:Shared)(H:Hp)(E:XK):Cx where
 prog:=P
 w:=w
 K:=K
 mg:=mg
 base:=base
 A:=A.deeper (envOfC qual scope s.heap.objs.size f cd)
 N:=N
 s₀:=s
 H₀:=H
 env:=envOfC qual scope s.heap.objs.size f cd
 outer:=outer
 stack:=envOfC qual scope s.heap.objs.size f cd::outer
 ex:=[]
 calm:=true
 fn:=fun _=>true
 pn:=[]
 xe:=fun e s'=>wpAny (model P w) (A.deeper (envOfC qual scope s.heap.objs.size f cd)) (leaving (envOfC qual scope s.heap.objs.size f cd) e) (fun _ FA=>CX outer H s E e FA) (fun e' FA=>CX outer H s E e' FA) s'
theorem lj{sc:Scope}{n:Nat}{x:Str}(h:sc.names.lookup x=some .cell):∃c,(cellsFrom n sc.names []).lookup x=some c:=by
 have q:=wP sc.names n [] (.inl h);exact wK.mp q
theorem Av{CX:nu}{P:Program}{w:World}{K:PySem.W.Frag}{mg:Str->Option Value}{base:Heap}{N ps:List Str}{qual:Str}{scope:Scope}{f:Addr}{cd:Value}{A:Around}{outer:List Env}{s s1:Shared}{H:Hp}{E:XK}{us:List Value}{vs:List V}(S:aE N ps scope)(hd:A.handled=none)(e0:tD P w K mg base A outer s H)(hl:vs.length=ps.length)(r:aP vs us)(x:InCallC s s.heap.objs.size (bindL (envOfC qual scope s.heap.objs.size f cd).kindOf (ps.zip us) fun _=>none) (cellsFrom (s.heap.objs.size+1) scope.names []) (bindC (envOfC qual scope s.heap.objs.size f cd).kindOf (ps.zip us) fun _=>none) s1):
  aF (gX CX P w K mg base N qual scope f cd A outer s H E) [] (start N vs) H s1:=by
 have lQ:ps.length<=N.length:=by have:=congrArg List.length S.pre;rw[fA] at this;lia
 obtain⟨h1,tk,rfl,hk⟩:=x.done;have E6:∀b:Addr,b∉(gX CX P w K mg base N qual scope f cd A outer s H E).ex:=fun b z=>absurd (show b∈([]:List Addr) from z) (by simp);refine⟨⟨e0.mod,S.kind,rfl,rfl,a9 _,fun y z c h1 h2=>?_,fun y hy=>?_,fun y c _ h=>?_,fun _=>hd,Around.frames_deeper e0.frames,.inr ⟨rfl,rfl⟩,fun b z=>absurd z (E6 b),e0.bs,e0.Ai,fun b _ _=>E6 b,fun b z=>absurd z (E6 b),e0.iZ,e0.BE⟩,
  rfl,e0.bare,Un.kept hk,⟨_,x.toInCall.ns,fun i y v h1 h2 h3=>?_⟩,fun y c h=>⟨_,x.cell y c h⟩,e0.bq.fresh (a9 _),fun y c h=>?_,fun p hp=>absurd (show p∈([]:List (Addr×Obj)) from hp) (by simp),e0.bq.kept hk,?_⟩
 .exact name_of_addr x.apart (gQ h1) (gQ h2)
 .have hy:scope.names.lookup y=some .cell\/scope.names.lookup y=some .free:=hy;rcases hy with hy|hy
  .exact lj hy
  .exact absurd rfl (S.Ct _ (gQ hy))
 .exact iE (x.above y c (gQ h))
 .have hi:i<vs.length:=by
   unfold start at h2;by_cases hi:i<vs.length
   .exact hi
   .rw[iM (by simpa using hi)] at h2;rw[wN] at h2;split at h2 <;> cases h2
  have ha:vs[i]?=some v:=by
   unfold start at h2;rw[gN (by simpa using hi),bi] at h2;cases e:vs[i]? with
   |none=>rw[e] at h2;cases h2
   |some a=>rw[e] at h2;cases h2;rfl
  obtain⟨u,hu,rv⟩:=r.get ha;have hp:ps[i]?=some y:=by
   rw[<-S.pre,BV (by lia)];exact h1
  have M2:ps.Nodup:=by rw[<-S.pre];exact S.nd.sublist (List.take_sublist _ _)
  refine⟨u,rv,?_⟩;rcases S.par y (cT hp) with k|k
  .exact .inl ⟨k,mq M2 hp hu k⟩
  .obtain⟨c,e⟩:=lj (n:=s.heap.objs.size+1) k;refine .inr ⟨.inl k,c,e,?_⟩;have q:=x.cell y c e;rw[mr M2 hp hu (by show scope.names.lookup y≠_;rw[k];decide)] at q;exact q
 .exact e0.bq.fresh (iE (x.above y c (gQ h)))
 .unfold start;show _=N.length;rw[cD,aZ,oz];lia
theorem Cu{CX:nu}{P:Program}{w:World}{K:PySem.W.Frag}{mg:Str->Option Value}{base:Heap}{k:Nat}{f:Addr}{name qual:Str}{params:Arguments}{body:List Stmt}{scope:Scope}{dV kV jr pm cm ct oc:Value}{an od:Option Addr}{qY:Array (Option Value)}{N ps:List Str}{sp:Sp}(lk:K.lookup f=some ⟨oc,od,.func (PySem.W.fnOf name qual params body scope dV kV jr pm an cm ct),qY⟩)(mY:PySem.W.codeIn K cm qual=true)(S:aE N ps scope)(len:∀vs H Q E,sp vs H Q E->vs.length=ps.length)(i8:∀ (A:Around) (outer:List Env) (s:Shared) (H:Hp) (vs:List V) (Q:VK) (E:XK),bK k (A.deeper (envOfC qual scope s.heap.objs.size f cm))->sp vs H Q E->
   ∃t,qq (gX CX P w K mg base N qual scope f cm A outer s H E) body t/\t { nx:=fun _ H'=>Q .bV H',rt:=Q } (start N vs) H):
  be P w K mg base CX (k+1) f (PySem.W.fnOf name qual params body scope dV kV jr pm an cm ct) ps sp:=by
 refine⟨len,fun A outer s H args us vs Q E hr e0 hb r vf=>?_⟩;have hl:=len _ _ _ _ vf;have KX:K.In s.heap:=e0.mod.B3.keeps fun b o e=>(e0.bs b o e).1;have RV:s.heap.NoLimit:=e0.mod.nolimit.keeps fun b o e=>(e0.bs b o e).1;have Cv:∀y∈ps.zip us,scope.names.lookup y.1=some .local\/(scope.names.lookup y.1=some .cell/\((cellsFrom (s.heap.objs.size+1) scope.names []).lookup y.1).isSome=true):=fun ⟨n,v⟩ hy=>by
  rcases S.par n (l6 hy).1 with q|q
  .exact .inl q
  .exact .inr ⟨q,wP _ _ _ (.inl q)⟩
 refine codeAny_call_function hr.depth (KX _ _ lk) rfl S.co S.gen rfl (PySem.W.codeRec_of KX mY) (hb _ _ _ _ ?_);refine wpAny_newFunctionEnv_cells S.kind Cv fun env he s1 x=>?_;subst he;refine⟨RV.keeps x.toInCall.keep,codeAny_func ?_⟩;obtain⟨t,ht,hq⟩:=i8 A outer s H vs Q E (hr.deeper _) vf;have I:aF (gX CX P w K mg base N qual scope f cm A outer s H E) [] (start N vs) H s1:=Av S hr.hd e0 hl r x;refine gw (ht [] s1 (start N vs) H _ I hq) (fun fl s' hs=>?_) fun e s' hs=>hs;have fin:∀ {σ':St} {H':Hp} {v:V} {u:Value},aF (gX CX P w K mg base N qual scope f cm A outer s H E) [] σ' H' s'->bA v u->Q v H'->CE outer P w H s Q u s':=
  fun {σ' H' v u} J rv q=>⟨v,H',J.os,J.bare,J.base,J.bq,rv,q⟩
 cases fl with
 |ret u=>
  obtain⟨v,σ',H',J,rv,q⟩:=hs;exact fin J rv q
 |next=>
  obtain⟨σ',H',J,q⟩:=hs;exact fin (v:=V.bV) (u:=Value.none) J rfl q
 |brk=>
  obtain⟨_,_,_,q⟩:=hs;exact False.elim q
 |cont=>
  obtain⟨_,_,_,q⟩:=hs;exact False.elim q
section
variable {X:Cx} {x:Str} {p pos:Pos} {e:Expr} {es:List Expr} {t:TA} {id T:String} {r:List V->Hp->VK->Prop}
def E7(r:List V->Hp->VK->Prop)(t:TA):TE:=fun σ H Q=>t σ H fun vs H1=>r vs H1 Q
theorem av(hc:eR X (.builtin id) r)(hg:Gl X x)(hm:X.mg x=none)(hv:bootBuiltins x=some (.builtin id))(ha:PA X (e::es) t)(hn:x≠"__name__":=by decide)(pA:(x==("__debug__":Str))=false:=by decide)(he:starEach (e::es) X.env=(false,eval e X.env)::starEach es X.env:=by rfl)(lQ:(backTo pos (starEach es X.env)).any (·.1)=false:=by rfl):PE X (.Call (.Name x p) (e::es) [] pos) (E7 r t):=by
 intro ae s σ H Q I h;refine j8 (kq I hg hm hv ?_ hn pA);exact PyProof.Rows.callWith_builtin1 (cE (ha pos ae s σ H _ I h) fun us s1 ⟨vs,H1,I1,r1,q1⟩=>hc ae s1 σ H1 vs us Q I1 r1 q1) he lQ
theorem di(hc:eR X (.type T) r)(hg:Gl X x)(hm:X.mg x=none)(hv:bootBuiltins x=some (.type T))(ha:PA X (e::es) t)(hn:x≠"__name__":=by decide)(pA:(x==("__debug__":Str))=false:=by decide)(he:starEach (e::es) X.env=(false,eval e X.env)::starEach es X.env:=by rfl)(lQ:(backTo pos (starEach es X.env)).any (·.1)=false:=by rfl):PE X (.Call (.Name x p) (e::es) [] pos) (E7 r t):=by
 intro ae s σ H Q I h;refine j8 (kq I hg hm hv ?_ hn pA);exact rK (cE (ha pos ae s σ H _ I h) fun us s1 ⟨vs,H1,I1,r1,q1⟩=>hc ae s1 σ H1 vs us Q I1 r1 q1) he lQ
end
end L2
namespace HT
open PySem PyProof.Rows
section
open PySem.SeqAt
open PySem.AutoSeq1 (wpAny_loadPart')
open PySem.MeetsSeq PySem.MeetsSeq2 PySem.MeetsSeq3
end
section
variable {prog:Program} {w:World} {A:Around} {E:Value->Shared->Prop} {s:Shared}
def d_(n d:Nat):Option Int->Nat
 |none=>d
 |some v=>if v<0 then (v+(n:Int)).toNat else min v.toNat n
theorem Cw(n d:Nat):d_ n d none=d:=rfl
theorem FB(n d k:Nat):d_ n d (some (k:Int))=min k n:=by
 show (if (k:Int)<0 then ((k:Int)+(n:Int)).toNat else min (k:Int).toNat n)=min k n;rw[au (by lia),rZ]
theorem Jx(n d:Nat)(hd:d<=n)(o:Option Int):d_ n d o<=n:=by
 cases o with
 |none=>exact hd
 |some v=>
  show (if v<0 then (v+(n:Int)).toNat else min v.toNat n)<=n;by_cases hv:v<0
  .rw[aq hv];lia
  .rw[au hv];exact Nat.min_le_right _ _
theorem zc(v:Int)(n d:Nat):(if v<0 then max (v+(n:Int)) 0 else min v (n:Int))=((d_ n d (some v):Nat):Int):=by
 show (if v<0 then max (v+(n:Int)) 0 else min v (n:Int))=(((if v<0 then (v+(n:Int)).toNat else min v.toNat n):Nat):Int);by_cases hv:v<0
 .simp only[aq hv];lia
 .simp only[au hv];lia
theorem xL(lo hi:Option Int)(n:Nat):Builtin.Slice.sliceAdjust lo hi 1 (n:Int)=(((d_ n 0 lo:Nat):Int),((d_ n n hi:Nat):Int)):=by
 have h1:¬ ((1:Int)<0):=by lia
 unfold Builtin.Slice.sliceAdjust;simp only[h1,eZ];refine ig ?_ ?_
 .cases lo with
  |none=>rfl
  |some v=>exact zc v n 0
 .cases hi with
  |none=>rfl
  |some v=>exact zc v n n
theorem xM(i j:Nat):Builtin.Slice.slicePlaces (i:Int) (j:Int) 1=j-i:=by
 unfold Builtin.Slice.slicePlaces;have h1:(1:Int) > 0:=by lia
 simp only[h1,iW,Int.ediv_one];split <;> lia
theorem pB(p:IsPart v o)(h:Q o s):wpAny (model prog w) A (Builtin.Slice.slicePartIndex v) Q E s:=by
 cases p with
 |none=>exact slicePart_none h
 |int i t=>exact slicePart_int h
theorem gY{sl:Addr}{vl vu:Value}{lo hi:Option Int}{n:Nat}{Q:Int×Int×Nat->Shared->Prop}(hs:s.heap.IsSliceOf sl vl vu .none)(pl:IsPart vl lo)(pu:IsPart vu hi)(h:Q (((d_ n 0 lo:Nat):Int),1,d_ n n hi-d_ n 0 lo) s):wpAny (model prog w) A (Builtin.Slice.sliceApplied (.ref sl) (pure (n:Int))) Q E s:=by
 obtain⟨os,E8,Qq,M3⟩:=id hs;unfold Builtin.Slice.sliceApplied Builtin.Slice.sliceFields;refine ap (ap (cY E8 M3 (x:=vl) rfl (ap (cY E8 M3 (x:=vu) rfl (ap (cY E8 M3 (x:=.none) rfl (wpAny_pure ?_)))))));refine ap (slicePart_none ?_);show wpAny _ _ (if ((1:Int)==0)=true then _ else _) _ _ s;rw[au (by decide)];refine ap (pB pl (ap (pB pu (ap (wpAny_pure ?_)))));show wpAny _ _ (match Builtin.Slice.sliceAdjust lo hi 1 (n:Int) with|(lo,hi)=>pure (lo,(1:Int),Builtin.Slice.slicePlaces lo hi 1)) _ _ s;rw[xL lo hi n];show wpAny _ _ (pure (((d_ n 0 lo:Nat):Int),(1:Int),Builtin.Slice.slicePlaces ((d_ n 0 lo:Nat):Int) ((d_ n n hi:Nat):Int) 1)) _ _ s;rw[xM];exact wpAny_pure h
theorem Cy(xs:Array Value)(i k:Nat):((List.range k).filterMap fun (m:Nat)=>xs[((i:Int)+(m:Int)*1).toNat]?).toArray=((xs.toList.drop i).take k).toArray:=by
 have e:(fun (m:Nat)=>xs[((i:Int)+(m:Int)*1).toNat]?)=fun m=>xs[i+m]?:=by
  funext m;have:((i:Int)+(m:Int)*1).toNat=i+m:=by lia
  rw[this]
 rw[e];have:=pick_run xs i k;rw[List.filterMap_map] at this;have e2:((fun x=>xs[x]?) ∘ fun x=>i+x)=fun m=>xs[i+m]?:=rfl;rw[e2] at this;rw[this]
theorem ll{t sl:Addr}{aL:Array Value}{vl vu:Value}{lo hi:Option Int}{Q:Value->Shared->Prop}(ht:IsTup s.heap t aL)(hs:s.heap.IsSliceOf sl vl vu .none)(pl:IsPart vl lo)(pu:IsPart vu hi)(hw:¬ (d_ aL.size 0 lo=0/\d_ aL.size aL.size hi=aL.size))(h:Q (.ref s.heap.objs.size) { s with heap:=s.heap.push { cls:=.type "tuple",data:=.seq ((aL.toList.drop (d_ aL.size 0 lo)).take (d_ aL.size aL.size hi-d_ aL.size 0 lo)).toArray } })(kK:aL.size<=sizeLine):wpAny (model prog w) A (getItem (.ref t) (.ref sl)) Q E s:=by
 have zd:sizeOk (.seq ((aL.toList.drop (d_ aL.size 0 lo)).take (d_ aL.size aL.size hi-d_ aL.size 0 lo)).toArray):=by
  show ((aL.toList.drop (d_ aL.size 0 lo)).take (d_ aL.size aL.size hi-d_ aL.size 0 lo)).toArray.size<=sizeLine;rw[cs,fA,lY,f8];lia
 have hj:d_ aL.size aL.size hi<=aL.size:=Jx _ _ (a9 _) hi;obtain⟨os,E8,Qq,M3⟩:=id hs;have RW:s.TypeIs (.ref sl) "slice":=⟨os,E8,Qq⟩
 unfold getItem;try with_reducible refine fK ?_
 first|refine ap (wpAny_pure ?_)|skip
 refine ap (wpAny_sequenceKey ht.typeIs (by decide) ?_);refine ap (oq (name:=Str.ofString "__getitem__") ht.typeIs qO
  (iS qO ht.typeIs entry_tuple_getitem ?_ (args_tuple_getitem _ _)))
 show wpAny _ _ (Builtin.Tuple.tupleItemsOf (.ref t) >>= _) _ _ s;refine ap (tupleItemsOf_ ht ?_);refine ap (wpAny_typeOf RW ?_);rw[aq (by decide)];refine ap (gY hs pl pu ?_);have Cz:¬ ((((d_ aL.size 0 lo:Nat):Int)==0&&(1:Int)==1&&(d_ aL.size aL.size hi-d_ aL.size 0 lo)==aL.size)=true):=by
  intro q;rw[gT,gT] at q;have q1:((d_ aL.size 0 lo:Nat):Int)=0:=eq_of_beq q.1.1;have q2:d_ aL.size aL.size hi-d_ aL.size 0 lo=aL.size:=eq_of_beq q.2;exact hw ⟨by lia,by lia⟩
 show wpAny _ _ (if (((d_ aL.size 0 lo:Nat):Int)==0&&(1:Int)==1&&(d_ aL.size aL.size hi-d_ aL.size 0 lo)==aL.size)=true then _ else _) _ _ s;rw[au Cz,Cy];first
  |exact ap (m:=Builtin.Tuple.tupleExact _) (jP (wpAny_pure ⟨_,rfl,wpAny_pure h⟩) zd)
  |exact ap (m:=Builtin.Tuple.tupleExact _) (jP (ap (wpAny_pure (wpAny_pure ⟨_,rfl,wpAny_pure h⟩))) zd)
  |exact ap (ap (m:=Builtin.Tuple.tupleExact _) (jP (wpAny_pure (wpAny_pure ⟨_,rfl,wpAny_pure h⟩)) zd))
  |exact ap (ap (m:=Builtin.Tuple.tupleExact _) (jP (wpAny_pure ⟨_,rfl,wpAny_pure h⟩) zd))
end
end HT
namespace L2
open PySem PySem.Spec PyProof.Rows
abbrev TO:=St->Hp->(Option Int->Hp->Prop)->Prop
def PO(X:Cx)(e:Option Expr)(t:TO):Prop:=
 ∀ (ae:List (Addr×Obj)) (s:Shared) (σ:St) (H:Hp) (Q:Option Int->Hp->Prop),aF X ae σ H s->t σ H Q->
  wpAny (model X.prog X.w) X.A (evalPart e X.env) (fun u s'=>∃o H',aF X ae σ H' s'/\IsPart u o/\Q o H') X.xe s
def nV:TO:=fun _ H Q=>Q none H
def M4(t:TE):TO:=fun σ H Q=>t σ H fun x H1=>∃i,x=.int i/\Q (some i) H1
theorem pC{ns:List Int}:∀ {us:List Value},aP (ns.map V.int) us->IntsAre us ns:=by
 induction ns with
 |nil=>intro us r;rw[List.map_nil] at r;cases r;exact .nil
 |cons n ns ih=>
  intro us r;rw[fJ] at r;cases r with
  |cons r1 r2=>
   obtain⟨t,e⟩:=r1;subst e;exact .cons n t (ih r2)
section
variable {X:Cx} {e:Expr} {te:TE} {lo hi:Option Expr} {tl th:TO} {pos p2:Pos}
theorem js:PO X none nV:=by
 intro ae s σ H Q I h;rw[evalPart_none];exact wpAny_pure ⟨none,H,I,.none,h⟩
theorem jt(h:PE X e te):PO X (some e) (M4 te):=by
 intro ae s σ H Q I hw;rw[evalPart_some];refine cE (h ae s σ H _ I hw) fun u s1 ⟨x,H1,I1,r1,q1⟩=>?_;obtain⟨i,rfl,q⟩:=q1;obtain⟨t,rfl⟩:=r1;exact⟨some i,H1,I1,.int i t,q⟩
def RX(X:Cx)(r:V->Option Int->Option Int->Hp->VK->Prop):Prop:=
 ∀ (ae:List (Addr×Obj)) (s:Shared) (σ:St) (H:Hp) (x:V) (v vl vu:Value) (lo hi:Option Int) (sl:Addr) (Q:VK),aF X ae σ H s->bA x v->s.heap.IsSliceOf sl vl vu .none->IsPart vl lo->IsPart vu hi->r x lo hi H Q->
  ∃T id,typeLookup (.type T) "__getitem__"=pure (some (.builtin id))/\s.TypeIs v T/\wpAny (model X.prog X.w) X.A (getItem v (.ref sl)) (EP X ae σ Q) X.xe s
def XI(r:V->Option Int->Option Int->Hp->VK->Prop)(te:TE)(tl th:TO):TE:=fun σ H Q=>te σ H fun x H1=>tl σ H1 fun l H2=>th σ H2 fun u H3=>r x l u H3 Q
theorem gZ(hr:RX X r)(he:PE X e te)(hl:PO X lo tl)(hu:PO X hi th):PE X (.Subscript e (.Slice lo hi none p2) pos) (XI r te tl th):=by
 intro ae s σ H Q I h;refine Subscript_ (cE (he ae s σ H _ I h) fun v s1 ⟨x,H1,I1,r1,q1⟩=>?_);refine wpAny_Slice (cE (hl ae s1 σ H1 _ I1 q1) fun vl s2 ⟨l,H2,I2,pl,q2⟩=>cE (hu ae s2 σ H2 _ I2 q2) fun vu s3 ⟨u,H3,I3,pu,q3⟩=>?_);rw[evalPart_none];refine wpAny_pure ?_;have I4:aF X ae σ H3 { s3 with heap:=s3.heap.push { cls:=.type "slice",data:=.fields #[vl,vu,.none] } }:=I3.kept (t':=s3.toks) fun b ob q=>bC _ q;obtain⟨T,id,hT,ht,hg⟩:=hr ae { s3 with heap:=s3.heap.push { cls:=.type "slice",data:=.fields #[vl,vu,.none] } } σ H3 x v vl vu l u s3.heap.objs.size Q I4 r1 (Heap.IsSliceOf.new ..) pl pu q3;show wpAny (model X.prog X.w) X.A (subscriptTail e (.Slice lo hi none p2) v (.ref s3.heap.objs.size)) (EP X ae σ Q) X.xe { s3 with heap:=s3.heap.push { cls:=.type "slice",data:=.fields #[vl,vu,.none] } };exact tail_any (ops:=[.ref s3.heap.objs.size,v]) ht hT hg (by with_unfolding_all rfl)
def lm(xs:List V)(lo hi:Option Int):List V:=(xs.drop (HT.d_ xs.length 0 lo)).take (HT.d_ xs.length xs.length hi-HT.d_ xs.length 0 lo)
theorem vg(xs:List V)(lo hi:Option Int):(lm xs lo hi).length<=xs.length:=by
 unfold lm;rw[fA,lY];lia
def RY(K:PySem.W.Frag):V->Option Int->Option Int->Hp->VK->Prop:=fun x lo hi H Q=>∃a xs,x=.ref a/\cI K H a xs/\
 ¬ (HT.d_ xs.length 0 lo=0/\HT.d_ xs.length xs.length hi=xs.length)/\∀p,H p=none->Q (.ref p) (upd H p (.tup (lm xs lo hi)))
theorem Jy:RX X (RY X.K):=by
 intro ae s σ H x v vl vu lo hi sl Q I rx hs pl pu h;obtain⟨a,xs,rfl,hx,hw,q⟩:=h;cases rx;obtain⟨its,r,ht,hz⟩:=I.tuple hx;have eD:its.toArray.size=xs.length:=by rw[cs];exact r.length.symm
 refine⟨"tuple",_,qO.lookup,ht.typeIs,?_⟩;refine HT.ll ht hs pl pu (by rw[eD];exact hw) ?_ (by rw[eD];exact hz);rw[eD];refine⟨.ref s.heap.objs.size,_,I.laid (t':=s.toks) (o:=.tup (lm xs lo hi)) (fun b ob q=>bC _ q) (a9 _) ?_,rfl,q _ (I.bq.fresh (a9 _))⟩;exact⟨aY (vg xs lo hi) hz,_,(r.drop (HT.d_ xs.length 0 lo)).take (HT.d_ xs.length xs.length hi-HT.d_ xs.length 0 lo),iX.new _ _⟩
theorem aP.nW(r:aP xs us):us=[]↔xs=[]:=by
 cases r with
 |nil=>simp
 |cons _ _=>simp
end
def CA(n:Nat)(i:Int):Option Nat:=if 0<=i then (if i<n then some i.toNat else none) else if -(n:Int)<=i then some (i+n).toNat else none
def CC{α:Type}(xs:List α)(i:Int):Option α:=(CA xs.length i).bind fun j=>xs[j]?
theorem ze(h:CA n i=some j):seqIndex? i n=some j/\j<n/\-(n:Int)<=i/\i<n:=by
 unfold CA at h;by_cases h0:0<=i
 .rw[aq h0] at h;by_cases h1:i<n
  .rw[aq h1] at h;have e:i.toNat=j:=bt h;exact⟨by rw[seqIndex_of h0 h1,e],by lia,by lia,h1⟩
  .rw[au h1] at h;cases h
 .rw[au h0] at h;by_cases h1:-(n:Int)<=i
  .rw[aq h1] at h;have e:(i+n).toNat=j:=bt h;exact⟨by rw[seqIndex_neg (by lia) h1,e],by lia,h1,by lia⟩
  .rw[au h1] at h;cases h
theorem zf(h:CC xs i=some v):∃j,seqIndex? i xs.length=some j/\xs[j]?=some v/\j<xs.length/\-(xs.length:Int)<=i/\i<xs.length:=by
 unfold CC at h;cases e:CA xs.length i with
 |none=>rw[e] at h;cases h
 |some j=>
  rw[e] at h;obtain⟨h1,h2,h3,h4⟩:=ze e;exact⟨j,h1,h,h2,h3,h4⟩
theorem bf{α:Type}{xs:List α}{j:Nat}{v:α}(h:xs[j]?=some v):CC xs (j:Int)=some v:=by
 have hj:j<xs.length:=(cL.mp h).1;have e:CA xs.length (j:Int)=some j:=by
  unfold CA;rw[aq (by lia),aq (by lia)];simp
 unfold CC;rw[e];exact h
theorem CD(xs:List α)(v:α):CC (xs++[v]) (-1)=some v:=by
 have hl:(xs++[v]).length=xs.length+1:=by simp
 have e:CA (xs++[v]).length (-1)=some xs.length:=by
  unfold CA;rw[hl,au (by decide),aq (by lia)];congr 1;lia
 unfold CC;rw[e];show (xs++[v])[xs.length]?=some v;simp
def FE(b:Expr):Prop:=∀o i,subscripted b false o i=operate [o,i] (getItem o i)
def RZ(X:Cx)(r:R2):Prop:=
 ∀ (value slice:Expr) (ae:List (Addr×Obj)) (s:Shared) (σ:St) (H:Hp) (x y:V) (v u:Value) (Q:VK),aF X ae σ H s->bA x v->bA y u->r x y H Q->
  subscripted slice false v u=operate [v,u] (getItem v u)->wpAny (model X.prog X.w) X.A (subscriptTail value slice v u) (EP X ae σ Q) X.xe s
def XJ(X:Cx)(id:String)(r:V->List V->Hp->VK->Prop):Prop:=
 ∀ (ae:List (Addr×Obj)) (s:Shared) (σ:St) (H:Hp) (x:V) (xs:List V) (v:Value) (us:List Value) (Q:VK),aF X ae σ H s->bA x v->aP xs us->r x xs H Q->
  wpAny (model X.prog X.w) X.A (call (.builtin id) (v::us)) (EP X ae σ Q) X.xe s
section
variable {X:Cx} {a b:Expr} {ta tb:TE} {pos:Pos}
theorem cy(hr:RZ X r)(ha:PE X a ta)(hb:PE X b tb)(hs:FE b):PE X (.Subscript a b pos) (qE r ta tb):=by
 intro ae s σ H Q I h;exact Subscript_ (Jo ha hb I h fun v u s2 x y H2 I2 rx ry q=>hr a b ae s2 σ H2 x y v u Q I2 rx ry q (hs _ _))
def FF(K:PySem.W.Frag):R2:=fun x y H Q=>∃p xs i v,x=.ref p/\y=.int i/\a_ K H p xs/\CC xs i=some v/\Q v H
def R0(K:PySem.W.Frag):R2:=fun x y H Q=>∃p xs i v,x=.ref p/\y=.int i/\cI K H p xs/\CC xs i=some v/\Q v H
theorem bj:RZ X (FF X.K):=by
 intro value slice ae s σ H x y v u Q I rx ry h hs;obtain⟨p,xs,i,z,rfl,rfl,hq,he,q⟩:=h;cases rx;obtain⟨t,rfl⟩:=ry;obtain⟨its,r,pl,hz⟩:=I.list hq;obtain⟨j,h1,h2,h3,h4,h5⟩:=zf he;obtain⟨w,ew,R1⟩:=r.get h2;have hl:=r.length;have hn:=tu;have fin:EP X ae σ Q w s:=⟨z,H,I,R1,q⟩
 by_cases h0:0<=i
 .have hj:i.toNat=j:=by
   rw[seqIndex_of h0 h5] at h1;exact bt h1
  exact item_listR pl.isList h0 (by lia) (by rw[hj];simpa using ew) fin hs
 .have hj:(i+(its.toArray.size:Int)).toNat=j:=by
   rw[seqIndex_neg (by lia) h4] at h1;rw[cs,<-hl];exact bt h1
  exact subscriptTail_builtinR (x:=w) pl.isList.typeIs slot_list_getitem.lookup
   (wpAny_getItem_list_neg (Q:=fun r s'=>r=w/\EP X ae σ Q r s') pl.isList (by lia) (by rw[cs] <;> lia) (by lia) (by rw[hj];simpa using ew) ⟨rfl,fin⟩) hs
theorem tE:RZ X (R0 X.K):=by
 intro value slice ae s σ H x y v u Q I rx ry h hs;obtain⟨p,xs,i,z,rfl,rfl,hq,he,q⟩:=h;cases rx;obtain⟨t,rfl⟩:=ry;obtain⟨its,r,pl,hz⟩:=I.tuple hq;obtain⟨j,h1,h2,h3,h4,h5⟩:=zf he;obtain⟨w,ew,R1⟩:=r.get h2;have hl:=r.length;have hn:=tu;have fin:EP X ae σ Q w s:=⟨z,H,I,R1,q⟩
 exact subscriptTail_builtinR (x:=w) pl.typeIs slot_tuple_getitem.lookup
  (getItem_tuple (j:=j) (Q:=fun r s'=>r=w/\EP X ae σ Q r s') pl (by lia) (by lia) (by rw[cs,<-hl];exact h1) (by simpa using ew) ⟨rfl,fin⟩) hs
theorem xN(its:List Value)(n j:Nat)(u:Value):Obj.mapSeq (·.setIfInBounds j u) { cls:=.type "list",data:=.seq its.toArray n }={ cls:=.type "list",data:=.seq (its.set j u).toArray n }:=by
 simp[Obj.mapSeq]
theorem aF.lst(I:aF X ae σ H s)(h:H p=some (.lst xs)):
  ∃ (its:List Value) (n:Nat),aP xs its/\s.heap.get? p=some { cls:=.type "list",data:=.seq its.toArray n }/\xs.length<=sizeLine:=by
 obtain⟨z,its,n,r,e⟩:=I.bq p _ h;exact⟨its,n,r,e,z⟩
theorem aF.Jz{ae:List (Addr×Obj)}{σ:St}{H:Hp}{s:Shared}{p:Addr}{xs ys:List V}{its its':List Value}{n n':Nat}{f:Obj->Obj}(I:aF X ae σ H s)(h:H p=some (.lst xs))(ho:s.heap.get? p=some { cls:=.type "list",data:=.seq its.toArray n })(hf:f { cls:=.type "list",data:=.seq its.toArray n }={ cls:=.type "list",data:=.seq its'.toArray n' })(r:aP ys its')(hz:ys.length<=sizeLine)(t:Nat):
  aF X ae σ (upd H p (.lst ys)) { s with heap:=s.heap.update p f,toks:=t }:=by
 have e:(s.heap.update p f).get? p=some { cls:=.type "list",data:=.seq its'.toArray n' }:=by
  rw[oH f ho (by rw[hf] <;> rfl),hf]
 refine I.write (x:=p) (e:=p) (by rw[h];trivial) (.inl rfl) (fun b u hb q=>(oE _ _ (dq hb)).trans q) ⟨_,e⟩ ?_;exact⟨hz,its',n',r,e⟩
def M5:V->V->V->Hp->(Hp->Prop)->Prop:=fun o i v H Q=>∃p xs k j,o=.ref p/\i=.int k/\H p=some (.lst xs)/\CA xs.length k=some j/\Q (upd H p (.lst (xs.set j v)))
theorem ln:MQ X M5:=by
 intro ae s σ H o i v ov iv u Q I ro ri rv h;obtain⟨p,xs,k,j,rfl,rfl,hp,hj,q⟩:=h;cases ro;obtain⟨t,rfl⟩:=ri;obtain⟨its,n,r,ho,hz⟩:=I.lst hp;obtain⟨h1,h2,h3,h4⟩:=ze hj;have hl:=r.length;have hn:=tu;have I':aF X ae σ (upd H p (.lst (xs.set j v))) { s with heap:=s.heap.update p (Obj.mapSeq (·.setIfInBounds j u)) }:=
  I.Jz hp ho (xN its n j u) (r.set rv j) (by rw[sw];exact hz) s.toks
 by_cases h0:0<=k
 .have hk:k.toNat=j:=by
   rw[seqIndex_of h0 h4] at h1;exact bt h1
  exact PySem.W.ki_setAt ho h0 (by lia) (by rw[cs,<-hl];exact h4) (by rw[hk];exact⟨_,I',q⟩)
 .have hk:(k+(its.toArray.size:Int)).toNat=j:=by
   rw[seqIndex_neg (by lia) h3] at h1;rw[cs,<-hl];exact bt h1
  exact PySem.W.ki_setBack ho (by lia) (by rw[cs,<-hl];exact h3) (by lia) (by rw[hk];exact⟨_,I',q⟩)
def lq:V->Bool
 |.bV=>true
 |.bl _=>true
 |.int _=>true
 |.str _=>true
 |_=>false
def E9:V->V->Bool
 |.bV,.bV=>true
 |.bl a,.bl b=>a==b
 |.bl a,.int b=>(if a then 1 else 0)==b
 |.int a,.bl b=>a==(if b then 1 else 0)
 |.int a,.int b=>a==b
 |.str a,.str b=>a==b
 |_,_=>false
theorem xO(ry:bA y u)(rx:bA x v)(fy:lq y=true)(fx:lq x=true):SeqAt.EqAt A s u v (E9 y x):=by
 cases y with
 |bV=>
  cases ry;cases x with
  |bV=>cases rx;exact SeqAt.EqAt.same _
  |bl b=>cases rx;exact SeqAt.EqAt.none_bool b
  |int b=>obtain⟨t,rfl⟩:=rx;exact SeqAt.EqAt.none_int b t
  |str b=>obtain⟨t,rfl⟩:=rx;exact SeqAt.EqAt.none_str b t
  |_=>exact absurd (show false=true from fx) cq
 |bl a=>
  cases ry;cases x with
  |bV=>cases rx;exact SeqAt.EqAt.bool_none a
  |bl b=>cases rx;exact SeqAt.EqAt.bool_bool a b
  |int b=>obtain⟨t,rfl⟩:=rx;exact SeqAt.EqAt.bool_int a b t
  |str b=>obtain⟨t,rfl⟩:=rx;exact SeqAt.EqAt.bool_str a b t
  |_=>exact absurd (show false=true from fx) cq
 |int a=>
  obtain⟨t',rfl⟩:=ry;cases x with
  |bV=>cases rx;exact SeqAt.EqAt.int_none a t'
  |bl b=>cases rx;exact SeqAt.EqAt.int_bool a t' b
  |int b=>obtain⟨t,rfl⟩:=rx;exact SeqAt.EqAt.int_int a t' b t
  |str b=>obtain⟨t,rfl⟩:=rx;exact SeqAt.EqAt.int_str a t' b t
  |_=>exact absurd (show false=true from fx) cq
 |str a=>
  obtain⟨t',rfl⟩:=ry;cases x with
  |bV=>cases rx;exact SeqAt.EqAt.str_none a t'
  |bl b=>cases rx;exact SeqAt.EqAt.str_bool a t' b
  |int b=>obtain⟨t,rfl⟩:=rx;exact SeqAt.EqAt.str_int a t' b t
  |str b=>obtain⟨t,rfl⟩:=rx;exact SeqAt.EqAt.str_str a t' b t
  |_=>exact absurd (show false=true from fx) cq
 |_=>exact absurd (show false=true from fy) cq
def FG(x:V)(u:Value):Bool:=match u with
 |.none=>E9 .bV x
 |.bool b=>E9 (.bl b) x
 |.int i _=>E9 (.int i) x
 |.str z _=>E9 (.str z) x
 |_=>false
theorem CF(r:bA y u)(f:lq y=true):FG x u=E9 y x:=by
 cases y with
 |bV=>cases r;rfl
 |bl b=>cases r;rfl
 |int i=>obtain⟨t,rfl⟩:=r;rfl
 |str z=>obtain⟨t,rfl⟩:=r;rfl
 |_=>exact absurd (show false=true from f) cq
theorem tG:∀ {xs:List V} {us:List Value},aP xs us->xs.all lq=true->us.any (FG x)=xs.any fun y=>E9 y x
 |_,_,.nil,_=>rfl
 |y::xs,u::us,.cons r t,f=>by
  rw[xy,gT] at f;rw[sG,sG,CF r f.1,tG t f.2]
theorem pD(rx:bA x v)(fx:lq x=true):∀ {xs:List V} {us:List Value},aP xs us->xs.all lq=true->∀u∈us,SeqAt.EqAt A s u v (FG x u)
 |_,_,.nil,_=>fun u hu=>by cases hu
 |y::xs,u::us,.cons r t,f=>fun u' hu=>by
  rw[xy,gT] at f;rcases bg.mp hu with rfl|hu
  .rw[CF r f.1];exact xO r rx f.1 fx
  .exact pD rx fx t f.2 u' hu
def Qr(x:V)(xs:List V):Bool:=xs.any fun y=>E9 y x
def VL(K:PySem.W.Frag)(neg:Bool):R2:=fun x y H Q=>∃p xs,y=.ref p/\(a_ K H p xs\/cI K H p xs)/\lq x=true/\xs.all lq=true/\Q (.bl (if neg then !Qr x xs else Qr x xs)) H
theorem Aw:lR X (compareOp .In) (VL X.K false):=by
 intro ae s σ H x y v u Q I rx ry h;obtain⟨p,xs,rfl,hq,fx,fs,q⟩:=h;cases ry;rcases hq with hq|hq
 .obtain⟨its,r,pl,hz⟩:=I.list hq;refine SeqAt.in_listAt (FG x) pl.isList (fun w hw=>pD rx fx r fs w (by simpa using hw)) ⟨.bl _,H,I,rfl,?_⟩;rw[show its.toArray.any (FG x)=its.any (FG x) by simp,tG r fs];exact q
 .obtain⟨its,r,pl,hz⟩:=I.tuple hq;refine SeqAt.in_tupleAt (FG x) pl (fun w hw=>pD rx fx r fs w (by simpa using hw)) ⟨.bl _,H,I,rfl,?_⟩;rw[show its.toArray.any (FG x)=its.any (FG x) by simp,tG r fs];exact q
theorem aS:eR X (.builtin "len") (fun xs H Q=>∃p ys,xs=[.ref p]/\(a_ X.K H p ys\/cI X.K H p ys)/\Q (.int ys.length) H):=by
 intro ae s σ H xs us Q I r h;obtain⟨p,ys,rfl,hq,q⟩:=h;obtain⟨u,rfl,rx⟩:=y9 r;cases rx;have hn:=tu;rcases hq with hq|hq
 .obtain⟨its,r',pl,hz⟩:=I.list hq;have eD:=r'.length;exact Calls.call_len_list pl.isList (by simp only[cs] <;> lia) ⟨.int ys.length,H,I.tok _,⟨s.toks+1,by rw[cs,eD]⟩,q⟩
 .obtain⟨its,r',pl,hz⟩:=I.tuple hq;have eD:=r'.length;exact len_tuple pl (by simp only[cs] <;> lia) ⟨.int ys.length,H,I.tok _,⟨s.toks+1,by rw[cs,eD]⟩,q⟩
theorem ik:eR X (.type "list") (fun xs H Q=>∃p ys,xs=[.ref p]/\(a_ X.K H p ys\/cI X.K H p ys)/\∀l,H l=none->Q (.ref l) (upd H l (.lst ys))):=by
 intro ae s σ H xs us Q I r h;obtain⟨p,ys,rfl,hq,q⟩:=h;obtain⟨u,rfl,rx⟩:=y9 r;cases rx;have fin:∀ (its:List Value),aP ys its->ys.length<=sizeLine->∀ (h':Heap) (c':Nat),(∀b o',s.heap.get? b=some o'->h'.get? b=some o')->
   h'.get? s.heap.objs.size=some { cls:=.type "list",dict:=none,data:=.seq its.toArray c',slots:=#[] }->EP X ae σ Q (.ref s.heap.objs.size) { s with heap:=h' }:=fun its r' hz h' c' kp e=>
  ⟨.ref s.heap.objs.size,_,I.laid (t':=s.toks) kp (a9 _) (show cw X.prog X.w _ h' _ (.lst ys) from ⟨hz,its,c',r',e⟩),rfl,q _ (I.bq.fresh (a9 _))⟩
 rcases hq with hq|hq
 .obtain⟨its,r',pl,hz⟩:=I.list hq;have eD:=r'.length;obtain⟨o,ho,hc,n,hd⟩:=pl.isList;exact call_list_seq p (.inl rfl) ho hc hd (fun h' c' kp e=>fin its r' hz h' c' kp e) (by simp only[cs] <;> lia)
 .obtain⟨its,r',pl,hz⟩:=I.tuple hq;have eD:=r'.length;obtain⟨o,ho,hc,n,hd⟩:=pl;exact call_list_seq p (.inr rfl) ho hc hd (fun h' c' kp e=>fin its r' hz h' c' kp e) (by simp only[cs] <;> lia)
theorem dw:eR X (.type "tuple") (fun xs H Q=>∃p ys,xs=[.ref p]/\((a_ X.K H p ys/\∀l,H l=none->Q (.ref l) (upd H l (.tup ys)))\/(cI X.K H p ys/\Q (.ref p) H))):=by
 intro ae s σ H xs us Q I r h;obtain⟨p,ys,rfl,h⟩:=h;obtain⟨u,rfl,rx⟩:=y9 r;cases rx;rcases h with ⟨hq,q⟩|⟨hq,q⟩
 .obtain⟨its,r',pl,hz⟩:=I.list hq;have eD:=r'.length;refine call_tuple_list pl.isList (fun h' kp=>?_) (by simp only[cs] <;> lia);have I1:aF X ae σ H { s with heap:=h' }:=I.kept (t':=s.toks) kp;have I2:aF X ae σ (upd H h'.objs.size (.tup ys)) { s with heap:=h'.push { cls:=.type "tuple",data:=.seq its.toArray } }:=
   I1.laid (t':=s.toks) (fun b o e=>bC _ e) (a9 _) (show cw X.prog X.w _ _ _ (.tup ys) from ⟨hz,its,r',iX.new _ _⟩)
  exact⟨.ref h'.objs.size,_,I2,rfl,q _ (I1.bq.fresh (a9 _))⟩
 .obtain⟨its,r',pl,hz⟩:=I.tuple hq;exact call_tuple_same pl ⟨.ref p,H,I,rfl,q⟩
def VM(K:PySem.W.Frag)(T:String)(x:V)(H:Hp):Prop:=match x with
 |.str _=>T="str"
 |.int _=>T="int"
 |.ref p=>(T="list"/\∃xs,a_ K H p xs)\/(T="tuple"/\∃o,K.lookup p=some o/\o.cls=.type "tuple"/\o.dict=none)\/
   (T="dict"/\((∃kZ,H p=some (.dK kZ))\/∃kZ,H p=some (.dT kZ)))\/(T="set"/\∃S n,H p=some (.set S n))
 |_=>False
theorem JA(I:aF X ae σ H s)(r:bA x v)(ty:VM X.K T x H):
  s.TypeIs v T/\∀a,v=.ref a->∃ob,s.heap.get? a=some ob/\ob.dict=none:=by
 cases x with
 |str z=>
  obtain⟨t,rfl⟩:=r;cases (show T="str" from ty);exact⟨typeIs_str s z t,fun _ e=>nomatch e⟩
 |int i=>
  obtain⟨t,rfl⟩:=r;cases (show T="int" from ty);exact⟨typeIs_int s i t,fun _ e=>nomatch e⟩
 |ref p=>
  cases r;rcases ty with ⟨rfl,xs,hq⟩|⟨rfl,o,hk,hc,hd⟩|⟨rfl,hk⟩|⟨rfl,S,n,hk⟩
  .obtain⟨its,_,pl,_⟩:=I.list hq;refine⟨pl.isList.typeIs,fun a e=>?_⟩;cases e;obtain⟨o,n,e,c,hd,_⟩:=pl;exact⟨o,e,hd⟩
  .refine⟨⟨o,I.jm p o hk,hc⟩,fun a e=>?_⟩;cases e;exact⟨o,I.jm _ o hk,hd⟩
  .have z:∃o,s.heap.get? p=some o/\o.ExactDict:=by
    rcases hk with ⟨kZ,hk⟩|⟨kZ,hk⟩
    .obtain⟨_,_,_,_,o,_,_,e,ex,_⟩:=I.bq p _ hk;exact⟨o,e,ex⟩
    .obtain⟨_,_,_,_,o,_,_,e,ex,_⟩:=I.bq p _ hk;exact⟨o,e,ex⟩
   obtain⟨o,e,ex⟩:=z;refine⟨⟨o,e,ex.1⟩,fun a e2=>?_⟩;cases e2;exact⟨o,e,ex.2.1⟩
  .obtain⟨o,_,_,_,e,ex,_⟩:=I.bq p _ hk;refine⟨⟨o,e,ex.1⟩,fun a e2=>?_⟩;cases e2;exact⟨o,e,ex.2.1⟩
 |_=>exact False.elim ty
def XM(K:PySem.W.Frag)(T:String)(r:V->List V->Hp->VK->Prop)(to:TE)(t:TA):TE:=fun σ H Q=>to σ H fun x H1=>VM K T x H1/\t σ H1 fun xs H2=>r x xs H2 Q
variable {o e:Expr} {es:List Expr} {to:TE} {t:TA} {name:Str} {jK ny:Pos} {T id:String} {r:V->List V->Hp->VK->Prop}
theorem lr(pa:PlainAttrs T)(slot:Slot T name id)(XN:typeOf (.builtin id)=pure (.type "method_descriptor"))(hm:XJ X id r)(ho:PE X o to)(ha:PA X (e::es) t)(M6:attributeBase o name X.env (eval o X.env)=eval o X.env:=by rfl)(R3:((backTo ny (starEach (e::es) X.env)).all (fun x=>!x.1)&&(backToKw ny (keywordEach [] X.env)).all (fun x=>x.1.isSome)
   && decide ((e::es).length+([]:List Keyword).length+(if ([]:List Keyword).isEmpty then 0 else 1)<30))=true:=by rfl)(M7:(jK.endLine==ny.line)=true:=by rfl)(hs:starEach (e::es) X.env=(false,eval e X.env)::starEach es X.env:=by rfl)(xP:(backTo ny (starEach es X.env)).any (·.1)=false:=by rfl):
  PE X (.Call (.Attribute o name jK) (e::es) [] ny) (XM X.K T r to t):=by
 intro ae s σ H Q I h;refine wpAny_Call_method_late M6 R3 M7 rfl (cE (ho ae s σ H _ I h) fun v s1 ⟨x,H1,I1,r1,ty,q1⟩=>?_);obtain⟨h1,h2⟩:=JA I1 r1 ty;refine⟨T,id,pa,slot,XN,h1,h2,?_⟩;have hA:=ha ny ae s1 σ H1 _ I1 q1;rw[hs] at hA |-;refine Calls.callWith_builtin (by show (false||(backTo ny (starEach es X.env)).any (·.1))=false;rw[xP] <;> rfl) (Calls.evalArgs_plain ?_);exact cE hA fun us s2 ⟨vs,H2,I2,r2,q2⟩=>hm ae s2 σ H2 x vs v us Q I2 r1 r2 q2
end
def XO(X:Cx)(id:String)(r:V->List V->Hp->VK->Prop):Prop:=
 ∀ (ae:List (Addr×Obj)) (s:Shared) (σ:St) (H:Hp) (x:V) (xs:List V) (v:Value) (us:List Value) (Q:VK),aF X ae σ H s->bA x v->aP xs us->r x xs H Q->
  wpAny (model X.prog X.w) X.A (call (.builtin id) (v::us)) (EP X ae σ Q) X.xe s
theorem aP.one{x:V}{us:List Value}(h:aP [x] us):∃u,us=[u]/\bA x u:=by
 cases h with
 |cons r h=>cases h;exact⟨_,rfl,r⟩
theorem aP.two{x y:V}{us:List Value}(h:aP [x,y] us):∃u v,us=[u,v]/\bA x u/\bA y v:=by
 cases h with
 |cons r h=>
  cases h with
  |cons q h=>cases h;exact⟨_,_,rfl,r,q⟩
section
variable {X:Cx} {ae:List (Addr×Obj)} {σ:St} {H:Hp} {s:Shared} {l b:Addr} {xs ys zs:List V}
theorem aF.R4{its its':List Value}{n:Nat}{f:Array Value->Array Value}{t':Nat}(I:aF X ae σ H s)(hH:H l=some (.lst xs))(e:s.heap.get? l=some { cls:=.type "list",data:=.seq its.toArray n })(hf:f its.toArray=its'.toArray)(hv:aP ys its')(hz:ys.length<=sizeLine):
  aF X ae σ (upd H l (.lst ys)) { s with heap:=s.heap.update l (Obj.mapSeq f),toks:=t' }:=by
 have q:=PySem.IsL.update e f;rw[hf] at q;refine I.write (x:=l) (e:=l) (by rw[hH];exact trivial) (.inl rfl) (fun b' u hb hu=>(oE s.heap (Obj.mapSeq f) (dq hb)).trans hu) ⟨_,q⟩ ?_;exact⟨hz,its',_,hv,q⟩
theorem aF.M8(I:aF X ae σ H s)(hv:aP ys its)(hz:ys.length<=sizeLine):
  aF X ae σ (upd H s.heap.objs.size (.lst ys)) { s with heap:=s.heap.push { cls:=.type "list",data:=.seq its.toArray },toks:=t' }:=
 I.laid (fun _ _ q=>bC _ q) (a9 _) ⟨hz,its,0,hv,cC _ rfl⟩
theorem aF.fresh(I:aF X ae σ H s):H s.heap.objs.size=none:=I.bq.fresh (a9 _)
theorem aF.FH(I:aF X ae σ H s)(hH:H l=some (.lst xs)):xs.length<=sizeLine/\∃ (its:List Value) (n:Nat),aP xs its/\xs.length=its.length/\s.heap.get? l=some { cls:=.type "list",data:=.seq its.toArray n }:=by
 obtain⟨z,its,n,r,e⟩:=I.bq l _ hH;exact⟨z,its,n,r,r.length,e⟩
end
section
variable {X:Cx}
def FJ:V->List V->Hp->VK->Prop:=fun x vs H Q=>∃l xs y,x=.ref l/\vs=[y]/\H l=some (.lst xs)/\xs.length<sizeLine/\Q .bV (upd H l (.lst (xs++[y])))
theorem cQ:XO X "list.append" FJ:=by
 intro ae s σ H x vs v us Q I rx rv h;obtain⟨l,xs,y,rfl,rfl,hH,hz,q⟩:=h;cases rx;obtain⟨u,rfl,ru⟩:=rv.one;obtain⟨z,its,n,r,hl,e⟩:=I.FH hH;refine call_meets F.slot_list_append ⟨_,e,rfl⟩ F.entry_list_append (F.args_list_append_2 _ _) (PySem.list_append l its.toArray n u (by rw[cs];lia)) ⟨e,?_⟩;refine⟨.bV,_,I.R4 (its':=its++[u]) hH e (by simp) (r.append (.cons ru .nil)) ?_,rfl,q⟩;rw[cD,oC];lia
def JB:R2:=fun x y H Q=>∃l b xs zs,x=.ref l/\y=.ref b/\H l=some (.lst xs)/\H b=some (.lst zs)/\xs.length+zs.length<=sizeLine/\∀p,H p=none->Q (.ref p) (upd H p (.lst (xs++zs)))
theorem pE:lR X (binaryOp .Add) JB:=by
 intro ae s σ H x y v u Q I rx ry h;obtain⟨l,b,xs,zs,rfl,rfl,hH,hB,hz,q⟩:=h;cases rx;cases ry;obtain⟨z,its,n,r,hl,e⟩:=I.FH hH;obtain⟨z2,pF,n2,r2,JC,e2⟩:=I.FH hB;refine PySem.P.add_list e e2 ?_ (by rw[cs,cs];lia);have ea:its.toArray++pF.toArray=(its++pF).toArray:=by simp
 rw[ea];exact⟨.ref _,_,I.M8 (t':=s.toks) (r.append r2) (by rw[cD];lia),rfl,q _ I.fresh⟩
end
section
variable {prog:Program} {w:World} {A:Around} {E:Value->Shared->Prop} {s:Shared}
end
section
variable {X:Cx}
end
end L2
namespace VN
open PySem PySem.W PySem.Calls PyProof.Rows
theorem nA:∀ (ns:List Int) (vs:List Value),WellAll P h vs (ns.map WData.int)->IntsAre vs ns:=by
 intro ns;induction ns with
 |nil=>
  intro vs w;rw[List.map_nil] at w;cases w;exact .nil
 |cons n ns ih=>
  intro vs w;rw[fJ] at w;cases w with
  |cons a b=>
   cases a;exact .cons _ _ (ih _ b)
theorem Ax{l:OpenLaw}{n:Nat}(hn:l.most=some n){P:Params}{h:Heap}{args:List WData}{CG:List Value}(FK:l.row.toRowW.claim.pre args=true)(R5:WellAll P h CG args):
  ∃a vs ns,CG=[Value.ref a]/\args=[WData.list (ns.map WData.int)]/\h.get? a=some { cls:=.type "list",data:=.seq vs.toArray }/\IntsAre vs ns/\ns.length<=n:=by
 have XQ:WShape.hasAll [] args [.list .int]=true:=(pre_splitW FK).1;have hc:l.pre.holds [] { args:=args }=true:=(pre_splitW FK).2;obtain⟨d,r,rfl,h1,h2⟩:=hasAllW_cons XQ;obtain rfl:=hasAllW_nil h2;obtain⟨xs,rfl,h3⟩:=hasW_list h1;obtain⟨ns,rfl⟩:=items_int h3;have eD:ns.length<=n:=by
  unfold OpenLaw.pre at hc;have h4:(WTm.not (.lt (.lit (.int (n:Int))) (.len (.arg 0)))).holds [] { args:=[.list (ns.map .int)] }=true:=by
   have h4:=(holds_andW hc).1;rw[hn] at h4;exact h4
  have h5:=condW_of h4 (w_not (w_lt w_lit (w_len_list (w_arg rfl))));rw[aZ] at h5;refine Nat.le_of_not_lt fun q=>?_;have q':(n:Int)<((ns.length:Nat):Int):=by lia
  first
   |(rw[bJ q'] at h5;exact absurd h5 (by decide))
   |(simp at h5;lia)
 cases R5 with
 |cons w1 w2=>
  cases w2;cases w1 with
  |list ho vh=>exact⟨_,_,ns,rfl,rfl,ho,nA ns _ vh,eD⟩
theorem Ay(l:OpenLaw)(args:List WData):l.row.toRowW.claim.post args (.bool true) args=true:=
 postW_of (r:=l.row.toRowW) (X:=(true==true))
  (show WShape.has [] (.bool true) .bool=true by first|rfl|decide|simp[WShape.has,WShape.arms,WShape.armsAll])
  (show (WTm.eq .res (.lit (.bool true))).value [] { args:=args,res:=some (.bool true),after:=args }=some (.bool (true==true)) from w_eq_bool (w_res rfl) w_lit) rfl
theorem vi{l:OpenLaw}{n:Nat}{q:Program}{qZ:List Str}{XP:(Str->Option Value)->Heap->Prop}{YP:World->Heap->Prop}{d:DefRec}(hn:l.most=some n)(M9:d.params.defaults=[])(call:∀ (w:World) (s₀ s₁:Shared) (mg mb:Str->Option Value) (fa:Addr) (o:Obj) (pm cd jr:Value) (a:Addr) (vs:List Value) (ns:List Int),
   Ground q qZ [] XP w s₀ mg mb s₁.heap->YP w s₁.heap->
   s₁.heap.get? fa=some o->o.data=.func (docDef d.name d.params d.body d.scope pm cd jr)->s₁.heap.CodeRec cd d.name->mg d.name=some (.ref fa)->
   s₁.heap.get? a=some { cls:=.type "list",data:=.seq vs.toArray }->IntsAre vs ns->ns.length<=n->s₁.gens=#[]->
   codeAny (model l.prog w) callerA (.call (.ref fa) ⟨[.ref a],[]⟩) (fun r s'=>r=.ok (.ret (.bool true))/\OldK s₁.heap s'.heap/\s'.os=s₁.os/\AllBare s'.gens) s₁):
  WalkO q qZ XP YP l.row.toRowW d [] (fun f vs=>PySem.call f vs):=by
 intro w s₀ s₁ mg mb G Y fa o pm cd jr dV kV ho hd mY hD M_ hg args CG as FK XR hrd R5 vj;obtain rfl:dV=.none:=Dflts.none hD M9;obtain rfl:kV=.none:=Dflts.noKw hD;obtain⟨a,vs,ns,rfl,rfl,JD,CH,eD⟩:=Ax hn FK R5;refine enter_call (h_ (call w s₀ s₁ mg mb fa o pm cd jr a vs ns G Y ho (fd_plain hd) mY M_ JD CH eD hg) fun r s' hq=>?_);obtain⟨rfl,h2,h3,h4⟩:=hq;exact⟨.inl ⟨.bool true,.bool true,[],rfl,fun _=>rfl,.bool true,Ay l _,fun _=>⟨List.Pairwise.nil,fun _ hm=>(nomatch hm)⟩⟩,h2,h3,h4⟩
section
variable {prog:Program} {w:World} {A:Around} {E:Value->Shared->Prop} {s:Shared} {K:Frag}
end
end VN
namespace L2
open PySem PySem.Spec PyProof.Rows
theorem mv:∀ {vs:List Value} {ns:List Int},IntsAre vs ns->aP (ns.map V.int) vs
 |_,_,.nil=>.nil
 |_,_,.cons n t h=>.cons ⟨t,rfl⟩ (mv h)
def dB(s:Stmt)(j:Nat):Stmt:=match s with
 |.ClassDef _ _ _ body _ _ _ _ _ _ _=>body.getD j (.Pass ⟨0,0,0,0⟩)
 |_=>.Pass ⟨0,0,0,0⟩
def cz(s:Stmt):Arguments:=match s with
 |.FunctionDef _ a _ _ _ _ _ _ _ _=>a
 |_=>{ posonlyargs:=[],args:=[],vararg:=none,kwonlyargs:=[],kw_defaults:=[],kwarg:=none,defaults:=[] }
def bh(s:Stmt):List Stmt:=match s with
 |.FunctionDef _ _ b _ _ _ _ _ _ _=>b
 |_=>[]
def aj(s:Stmt):Scope:=match s with
 |.FunctionDef _ _ _ _ _ _ sc _ _ _=>sc
 |_=>{ kind:=.function,names:=[],isGenerator:=false,isCoroutine:=false }
abbrev br:nu:=fun _ _ _ _ _ _=>False
abbrev E0:XK:=fun _ _ _=>False
theorem aO:ff br X E0:=fun _ _ _ _ _ _ _ h=>h.elim
structure eJ(K:PySem.W.Frag)(x qual:Str)(st:Stmt)(f:Addr)(fd:FuncData):Prop where
 ex:∃ (oc:Value) (od:Option Addr) (kV jr pm:Value) (an:Option Addr) (cm ct:Value) (qY:Array (Option Value)),
  fd=PySem.W.fnOf x qual (cz st) (bh st) (aj st) .none kV jr pm an cm ct/\K.lookup f=some ⟨oc,od,.func fd,qY⟩/\PySem.W.codeIn K cm qual=true
 kp:PySem.W.keepIn K (.ref f)=true
section
variable {P:Program} {w:World} {K:PySem.W.Frag} {mg:Str->Option Value} {base:Heap}
theorem eJ.ok{x qual:Str}{st:Stmt}{f:Addr}{fd:FuncData}{N ps:List Str}{k:Nat}{sp:Sp}(F:eJ K x qual st f fd)(S:aE N ps (aj st))(len:∀vs H Q E,sp vs H Q E->vs.length=ps.length)(i8:∀ (cm:Value) (A:Around) (outer:List Env) (s:Shared) (H:Hp) (vs:List V) (Q:VK) (E:XK),bK k (A.deeper (envOfC qual (aj st) s.heap.objs.size f cm))->sp vs H Q E->
   ∃t,qq (gX br P w K mg base N qual (aj st) f cm A outer s H E).E4 (bh st) t/\t { nx:=fun _ H'=>Q .bV H',rt:=Q } (start N vs) H):be P w K mg base br (k+1) f fd ps sp:=by
 obtain⟨oc,od,kV,jr,pm,an,cm,ct,qY,rfl,lk,mY⟩:=F.ex;refine Cu lk mY S len fun A outer s H vs Q E hr vf=>?_;obtain⟨t,h,q⟩:=i8 cm A outer s H vs Q E hr vf;exact⟨t,h.E4,q⟩
theorem eJ.binds{x qual:Str}{st:Stmt}{f:Addr}{fd:FuncData}{ps:List Str}(F:eJ K x qual st f fd)(h:∀ (kV jr pm:Value) (an:Option Addr) (cm ct:Value) (us:List Value),us.length=ps.length->bindArgs (PySem.W.fnOf x qual (cz st) (bh st) (aj st) .none kV jr pm an cm ct) ⟨us,[]⟩=pure (ps.zip us)):dJ K fd ps []:=by
 obtain⟨oc,od,kV,jr,pm,an,cm,ct,qY,rfl,lk,mY⟩:=F.ex;exact .all (h kV jr pm an cm ct)
theorem mw{x qual:Str}{st:Stmt}{f:Addr}{oc:Value}{od an:Option Addr}{qY:Array (Option Value)}{kV jr pm cm ct:Value}(l:K.lookup f=some ⟨oc,od,.func (PySem.W.fnOf x qual (cz st) (bh st) (aj st) .none kV jr pm an cm ct),qY⟩)(c:PySem.W.codeIn K cm qual=true)(k:PySem.W.keepIn K (.ref f)=true):eJ K x qual st f (PySem.W.fnOf x qual (cz st) (bh st) (aj st) .none kV jr pm an cm ct):=⟨⟨oc,od,kV,jr,pm,an,cm,ct,qY,rfl,l,c⟩,k⟩
end
section
variable {X:Cx}
theorem pv(i:Nat)(hN:X.N[i]?=some x:=by rfl)(hv:Mt X.env.scope x:=by first|exact Or.inl rfl|exact Or.inr (Or.inl rfl)|exact Or.inr (Or.inr rfl))(hd:(x==("__debug__":Str))=false:=by decide)(mY:(x==("__classdict__":Str))=false:=by decide):PE X (.Name x pos) (bU i):=Jj hN hv hd mY
end
theorem ku{A B:Prop}(h:B):if false=true then A else B:=by
 rw[au cq];exact h
theorem Az{A B:Prop}(h:A):if true=true then A else B:=by
 rw[aq rfl];exact h
theorem mx{c A B:Prop}[Decidable c](h1:c->A)(h2:¬ c->B):if c then A else B:=by
 by_cases h:c
 .rw[aq h];exact h1 h
 .rw[au h];exact h2 h
def aV(H H':Hp):Prop:=∀b o,H b=some o->H' b=some o
theorem aV.refl(H:Hp):aV H H:=fun _ _ h=>h
theorem aV.trans(a:aV H H1)(b:aV H1 H2):aV H H2:=fun c o h=>b c o (a c o h)
theorem aV.free(e:aV H H')(h:H' l=Option.none):H l=Option.none:=by
 cases q:H l with
 |none=>rfl
 |some o=>
  rw[e l o q] at h;cases h
def FL(src:List (Option Nat))(σ:St):St:=src.map fun o=>match o with|some j=>σ.getD j none|none=>none
theorem FM{src:List (Option Nat)}{σ:St}{i:Nat}{v:V}(h:(FL src σ)[i]?=some (some v)):∃j,src[i]?=some (some j)/\σ[j]?=some (some v):=by
 unfold FL at h;rw[bi] at h;cases e:src[i]? with
 |none=>rw[e] at h;cases h
 |some o=>
  rw[e] at h;cases o with
  |none=>cases h
  |some j=>
   refine⟨j,rfl,?_⟩;have h':σ.getD j none=some v:=bt h;rw[dY] at h';cases e2:σ[j]? with
   |none=>rw[e2] at h';cases h'
   |some o=>rw[e2] at h';rw[show o=some v from h']
structure eS(NB:List Str)(src:List (Option Nat))(scope:Scope)(X:Cx):Prop where
 kind:scope.kind=.function
 nd:NB.Nodup
 len:src.length=NB.length
 cells:∀y∈scope.names,y.2=.cell->scope.names.lookup y.1=some .cell
 names:∀y∈scope.names,y.2=.local->scope.names.lookup y.1=some .local
 free:∀y∈scope.names,y.2=.free->X.env.scope.names.lookup y.1=some .cell\/X.env.scope.names.lookup y.1=some .free
 src:∀ (i:Nat) (x:Str) (j:Nat),NB[i]?=some x->src[i]?=some (some j)->X.N[j]?=some x/\scope.names.lookup x=some .free
def tI(scope:Scope)(x:Str):Bool:=match scope.names.lookup x with
 |some .cell=>true
 |_=>false
theorem vk:tI scope x=true↔scope.names.lookup x=some .cell:=by
 unfold tI;split
 .rename_i h;exact⟨fun _=>h,fun _=>rfl⟩
 .rename_i h;exact⟨fun z=>(by cases z),fun z=>absurd z h⟩
def vm(X:Cx)(NB:List Str)(scope:Scope)(cl:List (Str×Addr))(C:Addr)(s₃:Shared)(H₃:Hp)(fp:List Addr):Cx:=
 { X with N:=NB,s₀:=s₃,H₀:=H₃,env:=compEnvC scope cl C X.env,outer:=X.stack,stack:=X.stack,ex:=fp,fn:=tI scope,pn:=[],xe:=fun _ _=>False }
theorem ky:∀ (names:List (Str×NameKind)) (dz:List (Str×Addr)),(∀y∈names,y.2=NameKind.free->∃c,env.cells.lookup y.1=some c)->(∀x c,dz.lookup x=some c->env.cells.lookup x=some c)->
  ∃cl,(forIn names dz fun x r=>(if (x.2==NameKind.free)=true then (do let a <- cellOf env x.1;pure (ForInStep.yield ((x.1,a)::r))) else pure (ForInStep.yield r):Sem (ForInStep (List (Str×Addr)))))=(pure cl:Sem (List (Str×Addr)))/\
   (∀x c,cl.lookup x=some c->env.cells.lookup x=some c)/\(∀x c,dz.lookup x=some c->∃c',cl.lookup x=some c')/\∀x,(x,NameKind.free)∈names->∃c,cl.lookup x=some c
 |[],dz,_,ha=>⟨dz,by rw[sE],ha,fun x c h=>⟨c,h⟩,fun x h=>nomatch h⟩
 |(n,k)::r,dz,hf,ha=>by
  by_cases hk:k=NameKind.free
  .subst hk;obtain⟨c,hc⟩:=hf (n,NameKind.free) ci rfl;have FN:∀x c',((n,c)::dz).lookup x=some c'->env.cells.lookup x=some c':=fun x c' h=>by
    rw[fj] at h;cases hx:x==n with
    |true=>
     rw[hx] at h;cases h;have:x=n:=by simpa using hx
     rw[this];exact hc
    |false=>rw[hx] at h;exact ha x c' h
   obtain⟨cl,e1,e2,e3,e4⟩:=ky r ((n,c)::dz) (fun y hy=>hf y (b8 _ hy)) FN;refine⟨cl,?_,e2,fun x c' h=>?_,fun x h=>?_⟩
   .rw[sA];have ec:cellOf env n=pure c:=by unfold cellOf;rw[hc]
    have e0:(if ((n,NameKind.free).2==NameKind.free)=true then (do let a <- cellOf env (n,NameKind.free).1;pure (ForInStep.yield (((n,NameKind.free).1,a)::dz))) else pure (ForInStep.yield dz):Sem (ForInStep (List (Str×Addr))))=pure (ForInStep.yield ((n,c)::dz)):=by
     rw[aq (show (NameKind.free==NameKind.free)=true by decide)];show cellOf env n >>= _=_;rw[ec];rfl
    rw[e0];exact e1
   .cases hx:x==n with
    |true=>exact e3 x c (by rw[fj,hx])
    |false=>exact e3 x c' (by rw[fj,hx];exact h)
   .rcases bg.mp h with h|h
    .cases h;exact e3 n c (by rw[fj];simp)
    .exact e4 x h
  .obtain⟨cl,e1,e2,e3,e4⟩:=ky r dz (fun y hy=>hf y (b8 _ hy)) ha;refine⟨cl,?_,e2,e3,fun x h=>?_⟩
   .rw[sA];have hb:(k==NameKind.free)=false:=by simpa using hk
    have e0:(if ((n,k).2==NameKind.free)=true then (do let a <- cellOf env (n,k).1;pure (ForInStep.yield (((n,k).1,a)::dz))) else pure (ForInStep.yield dz):Sem (ForInStep (List (Str×Addr))))=pure (ForInStep.yield dz):=by
     rw[au (by show ¬ (k==NameKind.free)=true;rw[hb];decide)]
    rw[e0];exact e1
   .rcases bg.mp h with h|h
    .cases h;exact absurd rfl hk
    .exact e4 x h
theorem il(ok:X.Ok)(S:eS NB src scope X):
  ∃cl,closureFor scope X.env=pure cl/\(∀x c,cl.lookup x=some c->X.env.cells.lookup x=some c)/\∀x,(x,NameKind.free)∈scope.names->∃c,cl.lookup x=some c:=by
 obtain⟨cl,e1,e2,_,e4⟩:=ky (env:=X.env) scope.names [] (fun y hy hk=>ok.has y.1 (S.free y hy hk)) (fun x c h=>nomatch h);refine⟨cl,?_,e2,e4⟩;unfold closureFor;simp only[bind_pure];exact e1
theorem tJ(h:scope.names.lookup x=some .free):(relabel scope env).names.lookup x=some .cell\/(relabel scope env).names.lookup x=some .free:=by
 have go:∀names:List (Str×NameKind),names.lookup x=some .free->
   (names.map fun (n,k)=>if (k==NameKind.free&&env.scope.kind==.function&&env.kindOf n==some .cell) then (n,NameKind.cell) else (n,k)).lookup x=some .cell\/
   (names.map fun (n,k)=>if (k==NameKind.free&&env.scope.kind==.function&&env.kindOf n==some .cell) then (n,NameKind.cell) else (n,k)).lookup x=some .free:=by
  intro names;induction names with
  |nil=>intro h;simp at h
  |cons y r ih=>
   intro h;obtain⟨n,k⟩:=y;rw[fj] at h;rw[fJ];cases hx:x==n with
   |true=>
    rw[hx] at h;cases h;by_cases hc:(NameKind.free==NameKind.free&&env.scope.kind==.function&&env.kindOf n==some .cell)=true
    .left;show List.lookup x ((if _ then _ else _)::_)=_;rw[aq hc,fj,hx]
    .right;show List.lookup x ((if _ then _ else _)::_)=_;rw[au hc,fj,hx]
   |false=>
    rw[hx] at h;by_cases hc:(k==NameKind.free&&env.scope.kind==.function&&env.kindOf n==some .cell)=true
    .show List.lookup x ((if _ then _ else _)::_)=_\/List.lookup x ((if _ then _ else _)::_)=_;rw[aq hc,fj,hx];exact ih h
    .show List.lookup x ((if _ then _ else _)::_)=_\/List.lookup x ((if _ then _ else _)::_)=_;rw[au hc,fj,hx];exact ih h
 exact go scope.names h
theorem ls(h:(relabel scope env).names.lookup x=some k)(hk:k=.cell\/k=.free):(x,NameKind.free)∈scope.names\/(x,NameKind.cell)∈scope.names:=by
 have m:=gQ h;obtain⟨⟨n,k'⟩,hm,e⟩:=bu.mp m;by_cases q:(k'==NameKind.free&&env.scope.kind==.function&&env.kindOf n==some .cell)=true
 .have e':(n,NameKind.cell)=(x,k):=by simpa [q] using e
  have k1:k'=NameKind.free:=by
   simp only[gT,fm] at q;exact q.1.1
  cases e';left;rw[<-k1];exact hm
 .have e':(n,k')=(x,k):=by simpa [q] using e
  cases e';rcases hk with z|z
  .subst z;exact .inr hm
  .subst z;exact .inl hm
theorem my:∀ (names:List (Str×NameKind)) (h:Heap) (dz:List (Str×Addr)) (x:Str) (c:Addr),(cellsFrom h.objs.size names dz).lookup x=some c->dz.lookup x=some c\/(h.objs.size<=c/\(pushCells h names).IsCell c none)
 |[],_,_,_,_,e=>.inl e
 |(name,kind)::r,h,dz,x,c,e=>by
  unfold cellsFrom at e;unfold pushCells;split at e
  .rename_i hk;rw[aq hk];have kK:(h.push { cls:=.type "cell",data:=.cell none }).objs.size=h.objs.size+1:=iR ..;rw[<-kK] at e;rcases my r _ _ x c e with z|⟨z1,z2⟩
   .rw[fj] at z;cases hx:x==name with
    |true=>
     rw[hx] at z;cases z;exact .inr ⟨a9 _,_,pushCells_keeps r _ _ _ (cC _ rfl),rfl⟩
    |false=>rw[hx] at z;exact .inl z
   .exact .inr ⟨by lia,z2⟩
  .rename_i hk;rw[au hk];exact my r h dz x c e
theorem q0:∀ (names:List (Str×NameKind)) (n:Nat) (dz:List (Str×Addr)) (x:Str),(x,NameKind.cell)∈names->∃c,n<=c/\(cellsFrom n names dz).lookup x=some c:=by
 have up:∀ (names:List (Str×NameKind)) (n m:Nat) (dz:List (Str×Addr)) (x:Str) (c:Addr),dz.lookup x=some c->m<=c->m<=n->∃c',m<=c'/\(cellsFrom n names dz).lookup x=some c':=by
  intro names;induction names with
  |nil=>intro n m dz x c e h _;exact⟨c,h,e⟩
  |cons y r ih=>
   intro n m dz x c e h hm;obtain⟨name,kind⟩:=y;unfold cellsFrom;split
   .cases hx:x==name with
    |true=>exact ih (n+1) m _ x n (by rw[fj,hx]) hm (by lia)
    |false=>exact ih (n+1) m _ x c (by rw[fj,hx];exact e) h (by lia)
   .exact ih n m dz x c e h hm
 intro names;induction names with
 |nil=>intro n dz x h;cases h
 |cons y r ih=>
  intro n dz x h;obtain⟨name,kind⟩:=y;unfold cellsFrom;rcases bg.mp h with z|z
  .cases z;rw[aq (by decide)];exact up r (n+1) n _ x n (by rw[fj];simp) (a9 _) (by lia)
  .split
   .obtain⟨c,h1,h2⟩:=ih (n+1) ((name,n)::dz) x z;exact⟨c,by lia,h2⟩
   .exact ih n dz x z
theorem ju:∀ (names:List (Str×NameKind)) (n:Nat) (dz:List (Str×Addr)) (x:Str) (c:Addr),dz.lookup x=some c->(x,NameKind.cell)∉names->(cellsFrom n names dz).lookup x=some c
 |[],_,_,_,_,e,_=>e
 |(name,kind)::r,n,dz,x,c,e,h=>by
  have hr:(x,NameKind.cell)∉r:=fun z=>h (b8 _ z);unfold cellsFrom;split
  .rename_i hk;have tK:(x==name)=false:=by
    cases hx:x==name with
    |false=>rfl
    |true=>
     have e1:x=name:=by simpa using hx
     have e2:kind=.cell:=by simpa using hk
     exact absurd (by rw[e1,e2];exact ci) h
   exact ju r (n+1) _ x c (by rw[fj,tK];exact e) hr
  .exact ju r n dz x c e hr
theorem mz:∀ (names:List (Str×NameKind)) (n:Nat) (dz:List (Str×Addr)),(∀x y c,dz.lookup x=some c->dz.lookup y=some c->x=y)->(∀x c,dz.lookup x=some c->c<n)->∀x y c,(cellsFrom n names dz).lookup x=some c->(cellsFrom n names dz).lookup y=some c->x=y
 |[],_,_,hi,_=>hi
 |(name,kind)::r,n,dz,hi,hl=>by
  unfold cellsFrom;split
  .refine mz r (n+1) _ (fun x y c h1 h2=>?_) (fun x c h=>?_)
   .rw[fj] at h1 h2;cases hx:x==name <;> cases hy:y==name <;> rw[hx] at h1 <;> rw[hy] at h2
    .exact hi x y c h1 h2
    .cases h2;exact absurd (hl x _ h1) (f_ _)
    .cases h1;exact absurd (hl y _ h2) (f_ _)
    .have e1:x=name:=by simpa using hx
     have e2:y=name:=by simpa using hy
     rw[e1,e2]
   .rw[fj] at h;cases hx:x==name <;> rw[hx] at h
    .exact cr (hl x c h)
    .cases h;exact gR _
  .exact mz r n dz hi hl
section
variable {X:Cx} {ae:List (Addr×Obj)} {σ:St} {H:Hp} {s:Shared} {NB:List Str} {src:List (Option Nat)} {scope:Scope} {cl:List (Str×Addr)} {fp:List Addr} {h₁:Heap} {t₁:Nat}
theorem FO(I:aF X ae σ H s)(S:eS NB src scope X)(c1:∀x c,cl.lookup x=some c->X.env.cells.lookup x=some c)(c2:∀x,(x,NameKind.free)∈scope.names->∃c,cl.lookup x=some c)(hf:∀b∈fp,gW X ae H b)(Na:∀b∈fp,b<s.heap.objs.size){m:Str->Option Value}(hn:h₁.Ns s.heap.objs.size m)(hk:∀b o,s.heap.get? b=some o->h₁.get? b=some o)(AA:∀x c,(cellsFrom (s.heap.objs.size+1) scope.names cl).lookup x=some c->cl.lookup x=some c\/(s.heap.objs.size<c/\h₁.IsCell c none)):
  aF (vm X NB scope (cellsFrom (s.heap.objs.size+1) scope.names cl) s.heap.objs.size s H fp) [] (FL src σ) H { s with heap:=h₁,toks:=t₁ }:=by
 have BC:∀b∈jR X.stack,b∈X.env.locals::X.fs:=I.sV;have CI:∀x c,cl.lookup x=some c->∃v,s.heap.IsCell c v:=fun x c e=>I.cell x c (c1 x c e);have R6:∀x c,cl.lookup x=some c->c<s.heap.objs.size:=fun x c e=>by obtain⟨v,o,ho,_⟩:=CI x c e;exact aQ ho
 refine⟨⟨I.ok.mod,S.kind,I.ok.glob,I.ok.blt,a9 _,mz _ _ _ (fun x y c e1 e2=>I.ok.inj x y c (c1 x c e1) (c1 y c e2)) (fun x c e=>cr (R6 x c e)),fun x hx=>?_,fun x c z e=>?_,I.ok.hd,I.ok.frames,.inl rfl,fun b hb=>⟨?_,fun x c e=>?_⟩,I.bs,aY I.ok.Ai I.sz,fun b o e hb=>?_,fun b hb=>?_,I.stack,I.sW⟩,
  rfl,I.bare,Un.kept hk,⟨m,hn,fun i x v e1 e2 e3=>?_⟩,fun x c e=>?_,I.bq.fresh (a9 _),fun x c e=>?_,fun p hp=>absurd (show p∈([]:List (Addr×Obj)) from hp) (by simp),I.bq.kept hk,?_⟩
 .have FP:(x,NameKind.free)∈scope.names\/(x,NameKind.cell)∈scope.names:=by
   rcases hx with hx|hx
   .exact ls hx (.inl rfl)
   .exact ls hx (.inr rfl)
  by_cases hc:(x,NameKind.cell)∈scope.names
  .obtain⟨c,_,e⟩:=q0 scope.names (s.heap.objs.size+1) cl x hc;exact⟨c,e⟩
  .rcases FP with z|z
   .obtain⟨c,e⟩:=c2 x z;exact⟨c,ju _ _ _ _ _ e hc⟩
   .exact absurd z hc
 .have hm:=gQ (vk.mp z);obtain⟨c',h1,h2⟩:=q0 scope.names (s.heap.objs.size+1) cl x hm;have e':(cellsFrom (s.heap.objs.size+1) scope.names cl).lookup x=some c:=e;rw[h2] at e';cases e';exact Nat.le_of_succ_le h1
 .exact aT (Na b hb)
 .rcases AA x c e with z|⟨z,_⟩
  .exact(hf b hb).2.2.2.2.1 x c (c1 x c z)
  .exact gu (Nat.lt_trans (Na b hb) z)
 .rcases(hf b hb).2.2.2.1 with z|z
  .exact I.ok.me b o e z
  .exact absurd (bz (aQ e) (aY I.ok.Ai z)) (f_ _)
 .intro z;rcases bg.mp (BC b z) with e|e
  .exact(hf b hb).2.1 e
  .exact(hf b hb).2.2.1 e
 .obtain⟨j,hj,hv⟩:=FM e2;obtain⟨hN,hF⟩:=S.src i x j e1 hj;obtain⟨m0,E_,Nb⟩:=I.loc;have FQ:=gQ hF;have kx:=S.free _ FQ rfl;have RG:Mt X.env.scope x:=by
   rcases kx with z|z
   .exact .inr (.inl z)
   .exact .inr (.inr z)
  obtain⟨u,r,l⟩:=Nb j x v hN hv RG;refine⟨u,r,.inr ⟨tJ hF,?_⟩⟩;obtain⟨c,hc⟩:=c2 x FQ;have XS:(x,NameKind.cell)∉scope.names:=fun z=>by
   have:=S.cells _ z rfl;rw[hF] at this;cases this
  refine⟨c,ju _ _ _ _ _ hc XS,?_⟩;rcases l with ⟨JE,_⟩|⟨_,c',e,z⟩
  .have Nc:X.env.scope.names.lookup x=some .local:=JE;rcases kx with z|z <;> (rw[z] at Nc;cases Nc)
  .rw[c1 x c hc] at e;cases e;obtain⟨o,ho,hd⟩:=z;exact⟨o,hk _ _ ho,hd⟩
 .rcases AA x c e with z|⟨_,z⟩
  .obtain⟨v,o,ho,hd⟩:=CI x c z;exact⟨v,o,hk _ _ ho,hd⟩
  .exact⟨none,z⟩
 .rcases AA x c e with z|⟨z,_⟩
  .exact I.fR x c (c1 x c z)
  .exact I.bq.fresh (iE z)
 .show (FL src σ).length=NB.length;unfold FL;rw[aZ];exact S.len
theorem aF.Nd(I:aF X ae σ H s)(J:aF (vm X NB scope cl C s H fp) [] σB H' s')(hf:∀b∈fp,gW X ae H b):aF X ae σ H' s':=by
 refine I.HX (ch:=fp) J.os J.base J.bq J.bare fun b hb=>?_;obtain⟨_,f1,_,f3,f4,f5⟩:=hf b hb;exact⟨f3,f1,f4,f5⟩
end
def JF(X:Cx)(wx:List Expr)(t:TT):Prop:=
 ∀ (ae:List (Addr×Obj)) (s:Shared) (σ:St) (H:Hp) (Q:Bool->Hp->Prop),aF X ae σ H s->t σ H Q->
  wpAny (model X.prog X.w) X.A (forIn wx true fun c r=>if r=true then do let ok <- isTrue c X.env (eval c X.env);pure (ForInStep.yield ok) else pure (ForInStep.yield r)) (TP X ae σ Q) X.xe s
def CJ:TT:=fun _ H Q=>Q true H
theorem dR:JF X [] CJ:=fun _ _ _ H _ I h=>wpAny_tests_nil ⟨H,I,h⟩
theorem jv(h:PT X c t):JF X [c] t:=fun ae s σ H Q I q=>wpAny_tests_one (h ae s σ H Q I q)
def jS(J:It)(g:TG)(tt:TT)(te:TE)(D:Addr)(fin:Hp->Prop)(σB:St)(H1:Hp):Prop:=
 ∃W:Nat->Nat->St->Hp->Prop,(∃m,W 0 m σB H1)/\∀i m σ H,W i m σ H->(J.stop i H/\fin H)\/(J.go i H/\∀x H',J.Fn i H x H'->g x σ H' fun σ2 H2=>tt σ2 H2 fun b H3=>
  if b=true then te σ2 H3 fun v H4=>∃ys,H4 D=some (.lst ys)/\ys.length<sizeLine/\∃m',m'<m/\W (i+1) m' σ2 (upd H4 D (.lst (ys++[v]))) else ∃m',m'<m/\W (i+1) m' σ2 H3)
def pG(G:Hp->Prop)(J:It)(g:TG)(tt:TT)(te:TE)(D:Addr)(fin:Hp->Prop)(σB:St)(H1:Hp):Prop:=
 ∃W:Nat->Nat->St->Hp->Prop,(∃m,W 0 m σB H1)/\∀i m σ H,W i m σ H->G H/\((J.stop i H/\fin H)\/(J.go i H/\∀x H',J.Fn i H x H'->g x σ H' fun σ2 H2=>tt σ2 H2 fun b H3=>
  if b=true then te σ2 H3 fun v H4=>∃ys,H4 D=some (.lst ys)/\ys.length<sizeLine/\∃m',m'<m/\W (i+1) m' σ2 (upd H4 D (.lst (ys++[v]))) else ∃m',m'<m/\W (i+1) m' σ2 H3))
theorem jS.g{J:It}{g:TG}{tt:TT}{te:TE}{D:Addr}{fin:Hp->Prop}{σB:St}{H1:Hp}(h:jS J g tt te D fin σB H1):pG (fun _=>True) J g tt te D fin σB H1:=let ⟨W,a,b⟩:=h;⟨W,a,fun i m σ H w=>⟨trivial,b i m σ H w⟩⟩
theorem AB(hx:B.xe=fun _ _=>False)(hc:∀H,G H->B.calm=true\/J.Fo B.A H)(T:vc B.prog B.w B.K tg J fp it tn)(hg:PG B tg g)(ht:JF B wx tt)(he:PE B zg te)(I:aF B [] σB H1 s)(st:tn 0 s.heap)(hf:∀b∈fp,gW B [] H1 b)(hw:pG G J g tt te D fin σB H1)(hR:∀σ' H' s',aF B [] σ' H' s'->fin H'->R (.ok .next) s'):
  codeAny (model B.prog B.w) B.A (.compLoop (.ListComp zg [⟨tg,gy,wx,0⟩] scope pos) 0 (.ref it) (.ref D) B.env) R s:=by
 obtain⟨W,⟨m0,w0⟩,B8⟩:=hw;have xE:∀ {H':Hp},(∀b∈fp,H' b=none)->∀b∈fp,gW B [] H' b:=fun hn b hb=>⟨hn b hb,(hf b hb).2⟩
 refine codeAny_loop rfl (fun n s'=>∃i σ' H',aF B [] σ' H' s'/\tn i s'.heap/\(∀b∈fp,H' b=none)/\W i n σ' H') ?_ m0 ⟨0,σB,H1,I,st,fun b hb=>(hf b hb).1,w0⟩;rintro n s3 ⟨i,σ3,H3,I3,s_,Jn,w3⟩;show wpAny _ B.A ((compTurn (.ListComp zg [⟨tg,gy,wx,0⟩] scope pos) 0 (.ref it) (.ref D) B.env).onRaise (fun x=>do noteFrame x B.env;theTreesLotGoes x)) _ _ s3;refine wpAny_noted ?_;rw[compTurn_list];have nx:∀ {α:Type} {t:Sem α} {Q:α->Shared->Prop} {E':Value->Shared->Prop} {s:Shared},wpAny (model B.prog B.w) B.A t Q B.xe s->wpAny (model B.prog B.w) B.A t Q E' s:=fun h=>
  gw h (fun _ _ q=>q) fun _ _ z=>by rw[hx] at z;exact z.elim
 obtain⟨hG,Nf⟩:=B8 i n σ3 H3 w3;rcases Nf with ⟨stop,qn⟩|⟨go,step⟩
 .refine ap (o0 (ap (cE (T.done B rfl rfl rfl i [] s3 σ3 H3 _ (hc _ hG) I3 (xE Jn) s_ stop) fun r s4 ⟨hr,I4⟩=>?_)));subst hr;exact wpAny_pure (hR σ3 H3 s4 I4 qn)
 .refine ap (o0 (ap (cE (T.item B rfl rfl rfl i [] s3 σ3 H3 _ (hc _ hG) I3 (xE Jn) s_ go) fun r s4 ⟨u,hr,h4⟩=>?_)));subst hr;refine ap (cE h4 fun _ s5 ⟨x,H5,I5,r5,y5,yW,RJ⟩=>?_);have RK:=I5.pinned (xE RJ) (T.obj _ _ yW);refine ap (nx (cE (hg _ s5 σ3 H5 x u _ RK r5 (step x H5 y5)) fun _ s6 ⟨σ6,H6,I6,q6⟩=>?_));have back:∀ {σ7:St} {H7:Hp} {s7:Shared} {m':Nat},aF B ([]++ph fp s5.heap) σ7 H7 s7->m'<n->W (i+1) m' σ7 H7->∃m,m<n/\∃i σ' H',aF B [] σ' H' s7/\tn i s7.heap/\(∀b∈fp,H' b=none)/\W i m σ' H':=fun {σ7 H7 s7 m'} I7 hm w7=>by
   refine⟨m',hm,i+1,σ7,H7,I7.lc,T.keep _ _ _ yW fun b hb o e=>(I7.pin (b,o) (iA _ (iA _ (ij hb e)))).1,fun b hb=>?_,w7⟩;obtain⟨o,e,d⟩:=T.obj _ _ yW b hb;exact(I7.pin (b,o) (iA _ (iA _ (ij hb e)))).2.1
  refine ap (nx (cE (ht _ s6 σ6 H6 _ I6 q6) fun ok s7 ⟨H7,I7,q7⟩=>?_));cases ok with
  |false=>
   rw[au cq] at q7;obtain⟨m',hm,w7⟩:=q7;exact wpAny_pure ⟨rfl,back I7 hm w7⟩
  |true=>
   rw[aq rfl] at q7;refine ap (ap (nx (cE (he _ s7 σ6 H7 _ I7 q7) fun v s8 ⟨y,H8,I8,r8,ys,hD,hl,m',hm,w8⟩=>?_)));refine ap (nx (cE (cQ _ s8 σ6 H8 (.ref D) [y] (.ref D) [v] (fun _ H9=>H9=upd H8 D (.lst (ys++[y]))) I8 rfl (.cons r8 .nil) ⟨D,ys,y,rfl,rfl,hD,hl,rfl⟩) fun _ s9 ⟨_,H9,I9,_,e9⟩=>?_));subst e9;exact wpAny_pure (wpAny_pure ⟨rfl,back I9 hm w8⟩)
theorem tO(hQ:Q { scope:=scope,locals:=s.heap.objs.size,globals:=globals,cells:=cellsFrom (s.heap.objs.size+1) scope.names cl,qual:=qual,func:=none,code:=outer.code,frame:=outer.frame,builtins:=outer.builtins }
   { s with heap:=pushCells (s.heap.push { cls:=.type "dict",data:=.dict #[] }) scope.names }):
  wpAny M A (newFunctionEnv scope globals cl [] qual none .none (some outer)) Q E s:=by
 simp only[newFunctionEnv,Option.isSome_some,iW];refine ap (wpAny_alloc ?_);refine ap (wpAny_layCells _ (fun name kind cells=>by cases XT:kind==NameKind.cell <;> simp[XT]) _ _ _ _ ?_);rw[show ({ s with heap:=s.heap.push { cls:=.type "dict",data:=.dict #[] } }:Shared).heap.objs.size=s.heap.objs.size+1 from iR ..];refine ap ?_;rw[sE];exact wpAny_pure (wpAny_pure hQ)
section
variable {X:Cx} {zg tg gy:Expr} {wx:List Expr} {scope:Scope} {pos:Pos} {wi:TI} {g:TG} {tt:TT} {te:TE} {NB:List Str} {src:List (Option Nat)}
def Ic(src:List (Option Nat))(wi:TI)(g:TG)(tt:TT)(te:TE):TE:=fun σ H Q=>wi σ H fun J H1=>∀D,H1 D=none->jS J g tt te D (fun H'=>Q (.ref D) H') (FL src σ) (upd H1 D (.lst []))
theorem kB{ae:List (Addr×Obj)}{σ:St}{H2:Hp}{s2:Shared}{J:It}{fp:List Addr}{it:Addr}{tn:Nat->Heap->Prop}{cl:List (Str×Addr)}{fin:Addr->Hp->Prop}{E':Value->Shared->Prop}{RR:Value->Addr->Result->Shared->Prop}{G:Hp->Prop}(S:eS NB src scope X)(hc:∀H,G H->X.calm=true\/J.Fo X.A H)(c1:∀x c,cl.lookup x=some c->X.env.cells.lookup x=some c)(c2:∀x,(x,NameKind.free)∈scope.names->∃c,cl.lookup x=some c)(hg:∀cl C s₃ H₃ fp,PG (vm X NB scope cl C s₃ H₃ fp) tg g)(ht:∀cl C s₃ H₃ fp,JF (vm X NB scope cl C s₃ H₃ fp) wx tt)(he:∀cl C s₃ H₃ fp,PE (vm X NB scope cl C s₃ H₃ fp) zg te)(I2:aF X ae σ H2 s2)(T:vc X.prog X.w X.K tg J fp it tn)(fU:tn 0 s2.heap)(f2:∀b∈fp,gW X ae H2 b)(hw:∀D,H2 D=none->pG G J g tt te D (fin D) (FL src σ) (upd H2 D (.lst [])))(hR:∀D C H' s',gW X ae H' C->aF X ae σ H' s'->(∃m,s'.heap.Ns C m)->fin D H'->RR (.ref D) C (.ok .next) s'):
  wpAny (model X.prog X.w) X.A (newList []) (fun dz s₃=>wpAny (model X.prog X.w) X.A (newFunctionEnv scope X.env.globals cl [] X.env.qual none .none (some X.env)) (fun Ng s₄=>
   codeAny (model X.prog X.w) X.A (.compStart (.ListComp zg [⟨tg,gy,wx,0⟩] scope pos) 0 (.ref it) dz { Ng with scope:=relabel scope X.env }) (RR dz Ng.locals) s₄) E' s₃) E' s2:=by
 refine jP (tO ?_);have I3:=I2.M8 (ys:=[]) (its:=[]) (t':=s2.toks) .nil (cN _);have hD:H2 s2.heap.objs.size=none:=I2.fresh;have fo:∀b∈fp,b<s2.heap.objs.size:=fun b hb=>by obtain⟨o,e,_⟩:=T.obj _ _ fU b hb;exact aQ e
 have up:∀ {b:Addr},b∈fp->upd H2 s2.heap.objs.size (.lst []) b=H2 b:=fun {b} hb=>ao (aT (fo b hb));have f3:∀b∈fp,gW X ae (upd H2 s2.heap.objs.size (.lst [])) b:=fun b hb=>⟨by rw[up hb];exact(f2 b hb).1,(f2 b hb).2⟩
 have kK:(s2.heap.push { cls:=.type "list",data:=.seq ([]:List Value).toArray }).objs.size=s2.heap.objs.size+1:=by rw[iR]
 generalize XU:({ s2 with heap:=s2.heap.push { cls:=.type "list",data:=.seq ([]:List Value).toArray } }:Shared)=s3 at I3 |-;have VO:s3.heap=s2.heap.push { cls:=.type "list",data:=.seq ([]:List Value).toArray }:=by rw[<-XU]
 have VP:∀b∈fp,b<s3.heap.objs.size:=fun b hb=>by rw[VO,kK];exact cr (fo b hb)
 have Nh:(s3.heap.push { cls:=.type "dict",data:=.dict #[] }).objs.size=s3.heap.objs.size+1:=iR ..;have AA:∀x c,(cellsFrom (s3.heap.objs.size+1) scope.names cl).lookup x=some c->cl.lookup x=some c\/(s3.heap.objs.size<c/\(pushCells (s3.heap.push { cls:=.type "dict",data:=.dict #[] }) scope.names).IsCell c none):=fun x c e=>by
  rw[<-Nh] at e;rcases my _ _ _ _ _ e with z|⟨z1,z2⟩
  .exact .inl z
  .exact .inr ⟨by rw[Nh] at z1;exact z1,z2⟩
 have Ni:=(Heap.Ns.new s3.heap (.type "dict")).keeps (pushCells_keeps scope.names _);have keep:∀b o,s3.heap.get? b=some o->(pushCells (s3.heap.push { cls:=.type "dict",data:=.dict #[] }) scope.names).get? b=some o:=fun b o e=>pushCells_keeps _ _ b o (bC _ e);generalize hh1:pushCells (s3.heap.push { cls:=.type "dict",data:=.dict #[] }) scope.names=h₁ at AA Ni keep |-;have IB:aF (vm X NB scope (cellsFrom (s3.heap.objs.size+1) scope.names cl) s3.heap.objs.size s3 (upd H2 s2.heap.objs.size (.lst [])) fp) [] (FL src σ) (upd H2 s2.heap.objs.size (.lst [])) { s3 with heap:=h₁,toks:=s3.toks }:=
  FO I3 S c1 c2 f3 VP Ni keep AA
 have VQ:tn 0 h₁:=T.keep 0 s2.heap h₁ fU fun b hb o e=>keep b o (by rw[VO];exact bC _ e);have fB:∀b∈fp,gW (vm X NB scope (cellsFrom (s3.heap.objs.size+1) scope.names cl) s3.heap.objs.size s3 (upd H2 s2.heap.objs.size (.lst [])) fp) [] (upd H2 s2.heap.objs.size (.lst [])) b:=fun b hb=>by
  refine⟨(f3 b hb).1,aT (VP b hb),fun z=>?_,.inl hb,fun x c e=>(IB.ok.Mv b hb).2 x c e,fun p hp=>absurd (show p∈([]:List (Addr×Obj)) from hp) (by simp)⟩;rcases bg.mp (I3.sV b z) with e|e
  .exact(f3 b hb).2.1 e
  .exact(f3 b hb).2.2.1 e
 have loop:codeAny (model X.prog X.w) X.A (.compLoop (.ListComp zg [⟨tg,gy,wx,0⟩] scope pos) 0 (.ref it) (.ref s2.heap.objs.size) (compEnvC scope (cellsFrom (s3.heap.objs.size+1) scope.names cl) s3.heap.objs.size X.env)) (RR (.ref s2.heap.objs.size) s3.heap.objs.size)
   { s3 with heap:=h₁,toks:=s3.toks }:=by
  refine AB (B:=vm X NB scope (cellsFrom (s3.heap.objs.size+1) scope.names cl) s3.heap.objs.size s3 (upd H2 s2.heap.objs.size (.lst [])) fp) rfl hc T (hg _ _ _ _ _) (ht _ _ _ _ _) (he _ _ _ _ _) IB VQ fB (hw _ hD) fun σ' H' s' J' q=>?_;obtain⟨m,hm,_⟩:=J'.loc;exact hR _ _ H' s' (I3.An (a9 _) J'.free) (I3.Nd J' f3) ⟨m,hm⟩ q
 exact codeAny_compStart_list loop (T.self _ 0 _ _ _ VQ loop)
theorem dC(S:eS NB src scope X)(hc:X.calm=true)(hi:PI X tg gy wi)(hg:∀cl C s₃ H₃ fp,PG (vm X NB scope cl C s₃ H₃ fp) tg g)(ht:∀cl C s₃ H₃ fp,JF (vm X NB scope cl C s₃ H₃ fp) wx tt)(he:∀cl C s₃ H₃ fp,PE (vm X NB scope cl C s₃ H₃ fp) zg te)(hs:∀x,foldedSetIterable gy X.env x=pure x:=by intro _;rfl):PE X (.ListComp zg [⟨tg,gy,wx,0⟩] scope pos) (Ic src wi g tt te):=by
 intro ae s σ H Q I h;obtain⟨cl,Ie,c1,c2⟩:=il I.ok S;rw[eval_ListComp];refine wT (use:=none) (cl:=cl) rfl hs Ie S.kind S.names (cE (hi ae s σ H _ I h) fun v s1 h1=>cE h1 fun MR s2 h2=>?_);obtain⟨it,fp,tn,J,H2,e,I2,T,fU,f2,hw⟩:=h2;subst e;refine kB (RR:=fun dz C=>compPost (model X.prog X.w) X.A X.xe none (EP X ae σ Q) dz C) S (G:=fun _=>True) (fun _ _=>.inl hc) c1 c2 hg ht he I2 T fU f2 (fun D hD=>(hw D hD).g) fun D C H' s' fC I' hm q=>?_;obtain⟨m,hm⟩:=hm;refine⟨m,hm,fun h' sb=>⟨.ref D,H',?_,rfl,q⟩⟩;obtain⟨g0,g1,_,g3,g4,g5⟩:=fC;exact I'.turned (t':=s'.toks) (fun b o hb e=>(sb.2 b hb).trans e) g0 g1 g3 g4 g5
def JG(A:Around)(src:List (Option Nat))(wi:TI)(g:TG)(tt:TT)(te:TE):TE:=fun σ H Q=>wi σ H fun J H1=>∀D,H1 D=none->pG (J.Fo A) J g tt te D (fun H'=>Q (.ref D) H') (FL src σ) (upd H1 D (.lst []))
theorem CK(S:eS NB src scope X)(hi:PI X tg gy wi)(hg:∀cl C s₃ H₃ fp,PG (vm X NB scope cl C s₃ H₃ fp) tg g)(ht:∀cl C s₃ H₃ fp,JF (vm X NB scope cl C s₃ H₃ fp) wx tt)(he:∀cl C s₃ H₃ fp,PE (vm X NB scope cl C s₃ H₃ fp) zg te)(hs:∀x,foldedSetIterable gy X.env x=pure x:=by intro _;rfl):PE X (.ListComp zg [⟨tg,gy,wx,0⟩] scope pos) (JG X.A src wi g tt te):=by
 intro ae s σ H Q I h;obtain⟨cl,Ie,c1,c2⟩:=il I.ok S;rw[eval_ListComp];refine wT (use:=none) (cl:=cl) rfl hs Ie S.kind S.names (cE (hi ae s σ H _ I h) fun v s1 h1=>cE h1 fun MR s2 h2=>?_);obtain⟨it,fp,tn,J,H2,e,I2,T,fU,f2,hw⟩:=h2;subst e;refine kB (RR:=fun dz C=>compPost (model X.prog X.w) X.A X.xe none (EP X ae σ Q) dz C) S (G:=J.Fo X.A) (fun _ z=>.inr z) c1 c2 hg ht he I2 T fU f2 hw fun D C H' s' fC I' hm q=>?_;obtain⟨m,hm⟩:=hm;refine⟨m,hm,fun h' sb=>⟨.ref D,H',?_,rfl,q⟩⟩;obtain⟨g0,g1,_,g3,g4,g5⟩:=fC;exact I'.turned (t':=s'.toks) (fun b o hb e=>(sb.2 b hb).trans e) g0 g1 g3 g4 g5
theorem im{i:Nat}{y:Str}{py Nj:Pos}(S:eS NB src scope X)(hc:X.calm=true)(hi:PI X tg gy wi)(hg:∀cl C s₃ H₃ fp,PG (vm X NB scope cl C s₃ H₃ fp) tg g)(ht:∀cl C s₃ H₃ fp,JF (vm X NB scope cl C s₃ H₃ fp) wx tt)(he:∀cl C s₃ H₃ fp,PE (vm X NB scope cl C s₃ H₃ fp) zg te)(hN:X.N.Nodup)(XV:X.N[i]?=some y)(hy:X.env.scope.names.lookup y=some .local)(XW:swapsWith (.ListComp zg [⟨tg,gy,wx,0⟩] scope pos) (some (.Name y py)) Nj.line X.env=pure true)(hs:∀x,foldedSetIterable gy X.env x=pure x:=by intro _;rfl):
  PS X (.Assign [.Name y py] (.ListComp zg [⟨tg,gy,wx,0⟩] scope pos) Nj) (Al (Ic src wi g tt te) (bp i)):=by
 intro ae s σ H D0 I h;obtain⟨cl,Ie,c1,c2⟩:=il I.ok S;rw[exec_Assign_Name_used _ _ _ _ XW];refine ap (o0 (ap ?_));show wpAny _ X.A (do let _ <- comprehension (.ListComp zg [⟨tg,gy,wx,0⟩] scope pos) scope X.env _ (newList []) false (eval gy X.env) (some (assign (.Name y py) X.env))) _ _ s;refine ap (gw (wT (use:=some (assign (.Name y py) X.env)) (Q:=fun _ s'=>SP X ae D0 .next s') (cl:=cl) rfl hs Ie S.kind S.names
  (cE (hi ae s σ H _ I h) fun v s1 h1=>cE h1 fun MR s2 h2=>?_)) (fun _ s' hq=>wpAny_pure (wpAny_pure hq)) fun _ _ e=>e)
 obtain⟨it,fp,tn,J,H2,e,I2,T,fU,f2,hw⟩:=h2;subst e;refine kB (RR:=fun dz C=>compPost (model X.prog X.w) X.A X.xe (some (assign (.Name y py) X.env)) (fun _ s'=>SP X ae D0 .next s') dz C) S (G:=fun _=>True) (fun _ _=>.inl hc) c1 c2 hg ht he I2 T fU f2 (fun D hD=>(hw D hD).g) fun D C H' s' fC I' hm q=>?_;obtain⟨m,hm⟩:=hm;obtain⟨g0,g1,_,g3,g4,g5⟩:=fC;show wpAny _ X.A (assign (.Name y py) X.env (.ref D)) _ _ _;refine wpAny_assign_Name (jn I' hN XV (.inl hy) (v:=.ref D) rfl (fun FA XX sb=>?_) (.inr hy));obtain⟨a,sb,ha⟩:=sb;have tK:C≠a:=by
  rcases ha with z|z
  .rw[z];exact g1
  .exact fun z'=>g4 y a z z'.symm
 refine⟨m,hm.sameBut sb tK,fun h' XY=>⟨_,H',XX.turned (t':=FA.toks) (fun b o hb e=>(XY.2 b hb).trans e) g0 g1 g3 g4 g5,q⟩⟩
end
structure CL(P:Program)(w:World)(outer:List Env)(H:Hp)(s:Shared)(B:Heap)(p:Addr)(C a0:Value)(H':Hp)(s':Shared):Prop where
 os:s'.os=s.os
 bare:AllBare s'.gens
 bq:kl P w H' B
 keep:∀b o,s.heap.get? b=some o->H b=none->b∉jR outer->B.get? b=some o/\H' b=none
 frame:∀b o,s.heap.get? b=some o->H b=none->b∈jR outer->(∃sl,s'.heap.get? b=some { o with slots:=sl })/\H' b=none
 there:∀b o,s.heap.get? b=some o->H b≠none->∃o',B.get? b=some o'
 ii:∀b xs,H b=some (.tup xs)->H' b=some (.tup xs)
 iY:∀b o u,H b=some (.qR o u)->H' b=some (.qR o u)
 jJ:∀b ps,H b=some (.nQ ps)->∃more,H' b=some (.nQ (ps++more))
 fl:u3 B outer p C s'.heap
def dZ(P:Program)(w:World):nu:=fun outer H s E e s'=>∃p C a0 B H',e=.ref p/\CL P w outer H s B p C a0 H' s'/\E C none H'
section
variable {P:Program} {w:World} {K:PySem.W.Frag} {mg:Str->Option Value} {base:Heap} {N:List Str} {qual:Str} {scope:Scope} {f:Addr} {cd:Value} {A:Around} {outer:List Env} {s:Shared} {H:Hp} {E:XK}
abbrev R7(h:Heap)(l:List Env):Heap:=PySem.W.hideAll h (jR l)
theorem FR{l:List Env}{H1:Hp}{h:Heap}(ok:kl P w H1 h)(nf:∀b∈jR l,H1 b=none):kl P w H1 (R7 h l):=fun a o e=>by
 refine(ok a o e).km (fun b u hb q=>rS _ q fun z=>?_) (fun _ q=>q) fun _ _ q=>q;have n:=nf b z;rcases hb with rfl|hb
 .rw[n] at e;cases e
 .rw[n] at hb;cases hb
theorem g7{ae:List (Addr×Obj)}{σ:St}{H1:Hp}{s1:Shared}{h':Heap}{e:Addr}{C:Value}{vs:List Value}(I:aF (gX (dZ P w) P w K mg base N qual scope f cd A outer s H E) ae σ H1 s1)(hx:Heap.MadeExcOf s1.heap h' e C vs)(q:E C none H1):
  (gX (dZ P w) P w K mg base N qual scope f cd A outer s H E).xe (.ref e) { s1 with heap:=h' }:=by
 have BC:jR (envOfC qual scope s.heap.objs.size f cd::outer)=s.heap.objs.size::jR outer:=rfl;have R8:=I.stack;refine xz (B:=R7 s1.heap (envOfC qual scope s.heap.objs.size f cd::outer)) (h:=s1.heap) (L:=s.heap.objs.size) I.ok.frames rfl (fun b o z=>PySem.W.of_hideAll _ z)
  (PySem.W.funFrames_hide R8 fun env he b hb=>j7.mpr ⟨env,he,hb⟩) hx fun h2 x1 x4=>?_
 have XZ:∀b o,s1.heap.get? b=some o->b∉jR outer->b<s.heap.objs.size->(R7 s1.heap (envOfC qual scope s.heap.objs.size f cd::outer)).get? b=some o:=fun b o z hb dX=>
  rS _ z fun m=>by
   rw[BC] at m;rcases bg.mp m with z'|z'
   .exact absurd dX (by rw[z'];exact f_ _)
   .exact hb z'
 refine⟨e,C,.none,_,H1,rfl,⟨I.os,I.bare,FR I.bq I.sW,fun b o z n hb=>⟨XZ b o (I.base.keep b o z n hb (by intro m;exact absurd (show b∈([]:List Addr) from m) (by simp))) hb (aQ z),I.base.free b o z n (by intro m;exact absurd (show b∈([]:List Addr) from m) (by simp))⟩,
  fun b o z n hb=>⟨?_,I.base.free b o z n (by intro m;exact absurd (show b∈([]:List Addr) from m) (by simp))⟩,fun b o z n=>?_,I.base.ii,I.base.iY,I.base.jJ,x1⟩,q⟩
 .obtain⟨sl,z1⟩:=I.base.slot b o z n hb (by intro m;exact absurd (show b∈([]:List Addr) from m) (by simp));obtain⟨_,o',uU,nd⟩:=I.ok.iZ.mem hb;have e':o'=o:=bt (uU.symm.trans z);subst e';obtain⟨Ig,z2⟩:=x4 b _ (hx.keeps _ _ z1) nd;exact⟨Ig,z2⟩
 .have R9:b∉jR (envOfC qual scope s.heap.objs.size f cd::outer):=fun m=>by
   rw[BC] at m;rcases bg.mp m with z'|z'
   .exact absurd (aQ z) (by rw[z'];exact f_ _)
   .exact n (I.ok.BE b z')
  obtain⟨o',z1⟩:=I.base.there b o z (by intro m;exact absurd (show b∈([]:List Addr) from m) (by simp));exact⟨o',rS _ z1 R9⟩
theorem pI{E':XK}(hE:∀C d H',E' C d H'->E C d H'):ff (dZ P w) (gX (dZ P w) P w K mg base N qual scope f cd A outer s H E) E':=by
 intro ae σ H1 s1 e s' I h;obtain⟨p,C,a0,B,H',rfl,F,q⟩:=h;have BC:jR (envOfC qual scope s.heap.objs.size f cd::outer)=s.heap.objs.size::jR outer:=rfl;have me:∀b:Addr,b∉(gX (dZ P w) P w K mg base N qual scope f cd A outer s H E).ex:=fun b m=>absurd (show b∈([]:List Addr) from m) (by simp);have VR:∀b o,s.heap.get? b=some o->b∉jR outer->b∉jR (gX (dZ P w) P w K mg base N qual scope f cd A outer s H E).stack:=fun b o z hb m=>by
  have m':b∈s.heap.objs.size::jR outer:=m;rcases bg.mp m' with z'|z'
  .exact absurd (aQ z) (by rw[z'];exact f_ _)
  .exact hb z'
 show wpAny _ _ (leaving (envOfC qual scope s.heap.objs.size f cd) (.ref p)) _ _ s';refine BZ (outer:=outer) (L:=s.heap.objs.size) I.ok.frames rfl F.fl fun h2 x1 x2=>?_;refine⟨p,C,a0,B,H',rfl,⟨F.os.trans I.os,F.bare,F.bq,fun b o z n hb=>?_,fun b o z n hb=>?_,fun b o z n=>?_,fun b xs z=>F.ii b xs (I.base.ii b xs z),fun b o u z=>F.iY b o u (I.base.iY b o u z),fun b ps z=>?_,x1⟩,hE _ _ _ q⟩
 .exact F.keep b o (I.base.keep b o z n hb (me b)) (I.base.free b o z n (me b)) (VR b o z hb)
 .obtain⟨sl,z1⟩:=I.base.slot b o z n hb (me b);have qF:b∈jR (gX (dZ P w) P w K mg base N qual scope f cd A outer s H E).stack:=b8 _ hb;obtain⟨⟨Ig,z2⟩,n2⟩:=F.frame b _ z1 (I.base.free b o z n (me b)) qF;obtain⟨_,o',uU,nd⟩:=I.ok.iZ.mem hb;have e':o'=o:=bt (uU.symm.trans z);subst e';obtain⟨X0,z3⟩:=x2 b _ z2 nd;exact⟨⟨X0,z3⟩,n2⟩
 .obtain⟨o',z1⟩:=I.base.there b o z (me b);have Cz:b∉jR outer:=fun m=>n (I.ok.BE b m);cases n1:H1 b with
  |none=>exact⟨o',(F.keep b o' z1 n1 (VR b o z Cz)).1⟩
  |some u=>exact F.there b o' z1 (by rw[n1];intro z';cases z')
 .obtain⟨m1,z1⟩:=I.base.jJ b ps z;obtain⟨m2,z2⟩:=F.jJ b _ z1;exact⟨m1++m2,by rw[z2,Array.append_assoc]⟩
theorem JH:PassesOwn (model P w) (gX (dZ P w) P w K mg base N qual scope f cd A outer s H E).A (gX (dZ P w) P w K mg base N qual scope f cd A outer s H E).env (gX (dZ P w) P w K mg base N qual scope f cd A outer s H E).xe:=by
 intro e s' h;exact PassesOwn.leaving (M:=model P w) (A:=A.deeper (envOfC qual scope s.heap.objs.size f cd)) (env:=envOfC qual scope s.heap.objs.size f cd) (Q₁:=fun e FA=>dZ P w outer H s E e FA) (E₁:=fun e' FA=>dZ P w outer H s E e' FA) e s' h
end
theorem jT{P:Program}{w:World}{X:Cx}:ff (dZ P w) X E0:=fun _ _ _ _ _ _ _ h=>by
 obtain⟨_,_,_,_,_,_,_,q⟩:=h;exact q.elim
open PySem PySem.Spec PyProof.Rows PySem.W
abbrev X1:List Value:=[.type "ValueError",.type "Exception",.type "BaseException",.type "object"]
structure jL(K:PySem.W.Frag)(C:Addr):Prop where
 ex:PySem.W.excIn K C X1 "ValueError.__new__"=true
 kp:PySem.W.keepIn K (.ref C)=true
 ga:PySem.W.findIn K (.ref C) "__getattribute__"=some (some (.builtin "BaseException.__getattribute__"))
 gt:PySem.W.findIn K (.ref C) "__getattr__"=some none
 cl:PySem.W.findIn K (.ref C) "__class__"=some (some (.builtin "object.__class__"))
 mo:PySem.W.mroIn K C (.type "object")=some true
 mb:PySem.W.mroIn K C (.type "BaseException")=some true
 ty:(PySem.W.clsIn K C).isSome=true
theorem vn{K:PySem.W.Frag}{h:Heap}{C:Addr}{VS:List Value}{Ih:String}(X:K.In h)(q:PySem.W.excIn K C VS Ih=true):
  ∃bm N nm qn bs hdct sn sub ab col dd k0 k1 k2 k3 k5 mN,h.get? C=some (excClassObj nm qn C N bs bm hdct sn sub ab col dd k0 k1 k2 k3 k5 Ih)/\h.Ns N mN/\mN "__init__"=none/\OwnTail h VS bm:=by
 unfold PySem.W.excIn at q;split at q
 .rename_i dd cd sl ho;split at q
  .rename_i C' bm k0 k1 k2 k3 n k5 hm hs;simp only[gT,fm,Bool.not_eq_true'] at q;obtain⟨⟨⟨⟨⟨rfl,rfl⟩,Nk⟩,ht⟩,bq⟩,Nl⟩:=q;obtain⟨nm,bs,mro,ns,qn,hd,sn,sub,ab,col,del⟩:=cd;dsimp only at hm Nk bq Nl;subst hm Nk;have LZ:sl=#[k0,k1,k2,k3,some (.builtin n),k5]:=by
    obtain⟨l⟩:=sl;simp only at hs;rw[hs]
   subst LZ;exact⟨bm,ns,nm,qn,bs,hd,sn,sub,ab,col,dd,k0,k1,k2,k3,k5,_,X _ _ ho,.of_isNs (isNs_of_in X bq),nsMap_none_of_in X bq Nl,tail_of_in X ht⟩
  .cases q
 .cases q
def Fa(p:Addr)(C:Value)(h:Heap):Prop:=∃o,h.get? p=some o/\o.cls=C/\∃vs,o.data=.fields vs/\vs[2]?=some .none
theorem Fa.nc{p:Addr}{C:Value}{h:Heap}(x:Fa p C h):u7 p h:=let ⟨o,a,_,vs,b,c⟩:=x;⟨o,vs,a,b,c⟩
abbrev qG(p:Addr)(C:Value):HO:=.ext (Fa p C)
theorem Fa.ok{P:Program}{w:World}{H:Hp}{h:Heap}{p:Addr}{C:Value}(x:Fa p C h):cw P w H h p (qG p C):=
 ⟨x,(let ⟨o,e,_⟩:=x;⟨o,e⟩),fun h1 h2 ⟨o,e,r⟩ k=>⟨o,k o e,r⟩⟩
theorem cw.get(x:cw P w H h a o):∃u,h.get? a=some u:=by
 cases o with
 |lst xs=>obtain⟨_,_,_,_,e⟩:=x;exact⟨_,e⟩
 |tup xs=>obtain⟨_,_,_,ob,e,_⟩:=x;exact⟨_,e⟩
 |dK kZ=>obtain⟨_,_,_,_,o,_,_,e,_⟩:=x;exact⟨_,e⟩
 |dT kZ=>obtain⟨_,_,_,_,o,_,_,e,_⟩:=x;exact⟨_,e⟩
 |set S n=>obtain⟨o,_,_,_,e,_⟩:=x;exact⟨_,e⟩
 |ins C dx fs=>obtain⟨_,_,_,e,_⟩:=x;exact⟨_,e⟩
 |own y=>exact x
 |xd fs=>obtain⟨_,⟨_,_,_,e,_⟩,_⟩:=x;exact⟨_,e⟩
 |Qj lo hi=>obtain⟨_,_,_,e⟩:=x;exact⟨_,e⟩
 |qR ob u=>obtain⟨e,_⟩:=x;exact⟨_,e⟩
 |nQ ps=>exact⟨_,(show h.get? a=some _ from x)⟩
 |met f y=>exact⟨_,(show h.get? a=some _ from x)⟩
 |ext φ=>exact x.2.1
theorem kl.mB(x:kl P w H h)(e:h.get? a=none):H a=none:=by
 cases q:H a with
 |none=>rfl
 |some u=>obtain⟨o,z⟩:=(x a u q).get;rw[e] at z;cases z
theorem aF.CM(I:aF X ae σ H s)(k:∀b u,s.heap.get? b=some u->h'.get? b=some u)(hp:s.heap.get? a=none)(new:cw X.prog X.w (upd H a o) h' a o):
  aF X ae σ (upd H a o) { s with heap:=h',toks:=t' }:=by
 have hn:=I.bq.mB hp;have ne:∀b u,s.heap.get? b=some u->b≠a:=fun b u e z=>by rw[z,hp] at e;cases e
 refine I.un ⟨fun b u e _ _ _=>k b u e,fun b u e _ _ _=>⟨u.slots,k b u e⟩,fun b u e n _=>by rw[ao (ne b u e)];exact n,fun b u e _=>⟨u,k b u e⟩,fun b xs e=>by rw[ao (am e hn)];exact e,fun b u v e=>by rw[ao (am e hn)];exact e,fun b ps e=>⟨#[],by rw[ao (am e hn),e];simp⟩⟩ fun b u e=>?_;by_cases hb:b=a
 .subst hb;rw[ag] at e;cases e;exact new
 .rw[ao hb] at e;exact(I.bq b u e).km (fun c v _ q=>k c v q) (fun c q=>by rw[ao (am q hn)];exact q) fun c xs q=>by rw[ao (am q hn)];exact q
section
variable {prog:Program} {w:World} {A:Around} {E:Value->Shared->Prop} {s:Shared} {K:PySem.W.Frag} {x C:Addr} {ox:Obj}
theorem zh(hx:h.get? x=some ox)(hc:ox.cls=.ref C):PySem.W.Looks M h (typeOf (.ref x)) (.ref C):=hc ▸ (PySem.W.Looks.ld hx).andThen .now
open Builtin Builtin.ObjectAttr Builtin.Getset_descriptor in
theorem xQ(X:K.In s.heap)(hx:s.heap.get? x=some ox)(hc:ox.cls=.ref C)(hm:PySem.W.mroIn K C (.type "object")=some true)(h:R (.ok (.ret (.ref C))) s):codeAny (model prog w) A (.call (.builtin "getset_descriptor.__get__") ⟨[.builtin "object.__class__",.ref x,tp],[]⟩) R s:=by
 obtain⟨hh,g,dr,t,os⟩:=s;have L0:=zh (M:=model prog w) hx hc;have L1:=looks_mroIn (M:=model prog w) X hm;refine xc KF.slot_gs.plain KF.entry_gs (KF.slot_gs.check _ _ _ _ _ _ _ _ KF.type_class (KF.args_gs _ _ _) ?_);unfold Builtin.«getset_descriptor.__get__» descrGet;rw[dga_obj];refine ap (wpAny_pure ?_);unfold descrGetter descrCheckInstance descrNameAndClass isInstance;simp only[KF.owner_class];repeat lk
 refine⟨Code.quiet_builtin _ (by decide +kernel),oU KF.entry_class ?_⟩;unfold Builtin.«object.__class__» shownTypeOf;repeat lk
 exact h
theorem vo{M:Model}{D:Addr}{b:Bool}{Q:Bool->Shared->Prop}{h:Heap}{g d t os}(X:K.In h)(TD:jL K D)(hx:h.get? x=some ox)(hc:ox.cls=.ref C)(sub:PySem.W.subIn K (.ref C) (.ref D)=some b)(hq:Q b ⟨h,g,d,t,os⟩):
  wpAny M A (excMatches (.ref x) (.ref D)) Q E ⟨h,g,d,t,os⟩:=by
 obtain⟨bm,N,nm,qn,bs,hdct,sn,X2,ab,col,dd,k0,k1,k2,k3,k5,mN,hC,hN,Nl,TL⟩:=vn X TD.ex;have X3:(Value.ref D::bm).contains (.type "BaseException")=true:=by rw[List.contains_cons,TL.hasType wC.hasBase,Bool.or_true]
 have L1:=looks_subIn (M:=M) X sub;have f:=tc_notTuple;unfold excMatches;repeat (first|(with_reducible refine oO hx ?_;rw[hc])|with_reducible refine oO hC ?_|with_reducible refine L1.at ?_|(with_reducible refine wpAny_isSubtype_exc hC ?_;rw[X3])|wp_step)
 cases b
 .repeat (first|exact hq|wp_step)
 .repeat (first|exact hq|wp_step)
theorem AC{g d t os}(T:jL K C)(X:K.In h)(hx:h.get? x=some ox)(hc:ox.cls=.ref C)(hq:Q (.done (.ret (.ref C))) ⟨h,g,d,t,os⟩):
  wpAny (model prog w) A (Builtin.«object.__getattribute__» ⟨[.ref x,.str "__class__" tk],[]⟩) Q E ⟨h,g,d,t,os⟩:=by
 have f5:=F.typeOf_bexc_args;have hT5:(⟨h,g,d,t,os⟩:Shared).TypeIs (.builtin "object.__class__") "getset_descriptor":=BQ;have f5':=BQ;have f6:=F.slot_gs_get.lookup;have f7:=F.slot_gs_set.lookup;have L1:=looks_findIn (M:=model prog w) X T.cl;repeat (any_goals (first|assumption|(with_reducible refine oO hx ?_;rw[hc])|with_reducible refine L1.at ?_|wp_step))
 refine xQ (s:=⟨h,g,d,t,os⟩) X hx hc T.mo ?_;repeat (any_goals (first|assumption|wp_step))
theorem AD{g d t os}(T:jL K C)(X:K.In h)(hx:h.get? x=some ox)(hc:ox.cls=.ref C)(hq:Q () ⟨h,g,d,t,os⟩):
  wpAny M A (checkBuiltinCall "BaseException.__getattribute__" ⟨[.ref x,Nm],[]⟩) Q E ⟨h,g,d,t,os⟩:=by
 have hk:builtinKind "BaseException.__getattribute__"=some .slot:=by decide +kernel
 have JI:splitId "BaseException.__getattribute__"=some ("BaseException","__getattribute__"):=by decide +kernel
 have ha:=F.args_bexc_ga (.ref x) Nm;have L1:=looks_mroIn (M:=M) X T.mb;simp only[checkBuiltinCall,hk,JI];refine ap ?_
 .unfold isInstance;repeat (first|(with_reducible refine oO hx ?_;rw[hc])|with_reducible refine L1.at ?_|wp_step)
  exact hq
theorem JJ{tk:Tok}{fill Fs:Bool}{Q:Value->Shared->Prop}{h:Heap}{g d t os}(T:jL K C)(X:K.In h)(hx:h.get? x=some ox)(hc:ox.cls=.ref C)(hq:Q (.ref C) ⟨h,g,d,t,os⟩):
  wpAny (model prog w) A (getAttrBy (.ref x) (.str "__class__" tk) fill Fs) Q E ⟨h,g,d,t,os⟩:=by
 have f3:=F.attr_ValueError.ga.bind (.ref x);have hx0:(Fs&&onTheHeap (Value.builtin "BaseException.__getattribute__"))=false:=by cases Fs <;> rfl
 have X4:(Value.builtin "BaseException.__getattribute__"==Value.builtin "object.__getattribute__")=false:=by decide +kernel
 have hx1:(onTheHeap (Value.ref C)&&Value.builtin "BaseException.__getattribute__"==Value.builtin "object.__getattribute__")=false:=by rw[X4];rfl
 have L1:=looks_findIn (M:=model prog w) X T.ga;have L2:=looks_findIn (M:=model prog w) X T.gt;repeat (any_goals (first|assumption|(with_reducible refine oO hx ?_;rw[hc])|with_reducible refine L1.at ?_|with_reducible refine L2.at ?_|wp_step))
 refine xc F.attr_ValueError.ga.plain F.entry_bexc_ga (AD T X hx hc (AC T X hx hc ?_));repeat (any_goals (first|assumption|wp_step))
theorem CN{Q:Option Value->Shared->Prop}{h:Heap}{g d t os}(T:jL K C)(X:K.In h)(hx:h.get? x=some ox)(hc:ox.cls=.ref C)(hq:Q (some (.ref C)) ⟨h,g,d,t+1,os⟩):
  wpAny (model prog w) A (getAttr? (.ref x) "__class__") Q E ⟨h,g,d,t,os⟩:=by
 unfold getAttr?;repeat (any_goals (first|assumption|with_reducible apply JJ T X hx hc|wp_step))
theorem vp(T:jL K C):PySem.W.KitX K (.ref x) (.ref C) (Fa x (.ref C)) where
 ty:=fun _ _ _ ⟨o,e,c,_⟩=>zh e c
 it:=fun _ _ X _=>by
  obtain⟨X5,Fu⟩:=wK.mp T.ty;unfold clsIn at Fu;split at Fu
  .rename_i c' d' X6 Rv ho;intro A' Q' E' s' k q;unfold isType loadHead;exact ap (wpAny_loadPart (k _ _ (X _ _ ho)) (wpAny_pure q))
  .cases Fu
 ne:=fun h tp dd its n sl X R_=>by
  obtain⟨X5,Fu⟩:=wK.mp T.ty;refine xj.mpr fun q=>?_;have e:C=tp:=Value.ref.inj (fm.mp q);subst e;unfold clsIn at Fu;split at Fu
  .rename_i c' d' X6 Rv ho;have z:=(X _ _ ho).symm.trans R_;cases z
  .cases Fu
 ca:=fun {_ _ _ _ _ s} X ⟨o,e,c,_⟩ k=>by
  obtain⟨h,g,d,t,os⟩:=s;exact CN T X e c k
end
section
variable {X:Cx}
inductive JK (K:PySem.W.Frag) (H:Hp):V->Value->Prop where
 |of {v:V} {t:Value} (h:mn K H v t):JK K H v t
 |exc {p C:Addr} (T:jL K C) (e:H p=some (qG p (.ref C))):JK K H (.ref p) (.ref C)
def JL(K:PySem.W.Frag):List V->Hp->VK->Prop:=fun xs H Q=>∃x c cv t b,xs=[x,c]/\(c=.ty cv/\PySem.W.kitOne K t (.type cv)=some b)/\JK K H x t/\Q (.bl b) H
theorem eT:eR X (.builtin "isinstance") (JL X.K):=by
 intro ae s σ H xs us Q I r h;obtain⟨x,c,cv,t,b,rfl,⟨rfl,e⟩,ty,q⟩:=h;obtain⟨u1,u2,rfl,r1,r2⟩:=r.two;obtain rfl:u2=Value.type cv:=r2;cases ty with
 |of ty=>exact qV I r1 ty e fun tk=>⟨.bl b,H,I.tok tk,rfl,q⟩
 |@exc p C T ea=>
  obtain rfl:u1=Value.ref p:=r1;have p1:Fa p (.ref C) s.heap:=(I.bq p _ ea).1;exact gU (vp T) I.jm p1 e (fun z=>nomatch z) fun tk=>⟨.bl b,H,I.tok tk,rfl,q⟩
def Nn(K:PySem.W.Frag):List V->Hp->VK->Prop:=fun xs H Q=>∃x c t b,xs=[x,.ref c]/\PySem.W.kitOne K t (.ref c)=some b/\JK K H x t/\Q (.bl b) H
theorem cn:eR X (.builtin "isinstance") (Nn X.K):=by
 intro ae s σ H xs us Q I r h;obtain⟨x,c,t,b,rfl,e,ty,q⟩:=h;obtain⟨u1,u2,rfl,r1,r2⟩:=r.two;obtain rfl:u2=Value.ref c:=r2;cases ty with
 |of ty=>exact qV I r1 ty e fun tk=>⟨.bl b,H,I.tok tk,rfl,q⟩
 |@exc p C T ea=>
  obtain rfl:u1=Value.ref p:=r1;have p1:Fa p (.ref C) s.heap:=(I.bq p _ ea).1;exact gU (vp T) I.jm p1 e (fun z=>nomatch z) fun tk=>⟨.bl b,H,I.tok tk,rfl,q⟩
end
section
variable {X:Cx} {x:Str} {C:Addr} {np ny pos:Pos} {e:Expr} {es:List Expr} {t:TA}
def JM(q:Hp->Prop)(t:TA):TS:=fun _ σ H=>t σ H fun vs H1=>vs.length<=sizeLine/\q H1
theorem g9{q:Hp->Prop}(hc:X.calm=true)(T:jL X.K C)(hg:Gl X x)(hm:X.mg x=some (.ref C))(ha:PA X (e::es) t)(X7:∀ (ae:List (Addr×Obj)) (σ:St) (H1:Hp) (s1:Shared) (h':Heap) (p:Addr) (vs:List Value),aF X ae σ H1 s1->Heap.MadeExcOf s1.heap h' p (.ref C) vs->q H1->X.xe (.ref p) { s1 with heap:=h' })(pA:(x==("__debug__":Str))=false:=by decide)(he:starEach (e::es) X.env=(false,eval e X.env)::starEach es X.env:=by rfl)(lQ:(backTo ny (starEach (e::es) X.env)).any (·.1)=false:=by rfl):
  PS X (.Raise (some (.Call (.Name x np) (e::es) [] ny)) none pos) (JM q t):=by
 intro ae s σ H D I h;obtain⟨bm,N,nm,qn,bs,hdct,sn,sub,ab,col,dd,k0,k1,k2,k3,k5,mN,hC,hN,Nl,TL⟩:=vn I.ok.mod.B3 T.ex;refine wpAny_Raise_call_subT (C:=C) (nm:=nm) (q:=qn) (N:=N) (bs:=bs) (bm:=bm) (hdct:=hdct) (sn:=sn) (sub:=sub) (ab:=ab) (col:=col) (dd:=dd) (k0:=k0) (k1:=k1) (k2:=k2) (k3:=k3) (k5:=k5)
  wC (mN:=mN) (TL.hasType wC.hasBase) (I.ok.hd hc) lQ Nl (jo I hg hm ⟨rfl,?_⟩ pA)
 have h1:=ha ny ae s σ H _ I h;rw[he] at h1 |-;exact Calls.evalArgs_plain (gw h1 (fun us s2 ⟨vs,H2,I2,r,hl,z⟩=>⟨rfl,(by show us.length<=sizeLine;rw[<-r.length];exact hl),I2.bk _ _ hC,hN.keeps I2.bk,TL.keeps I2.bk,fun h' p m=>X7 ae σ H2 s2 h' p us I2 m z⟩) fun _ _ y=>y)
end
def jw(CX:nu)(X:Cx)(E:St->XK):Prop:=∀ (ae:List (Addr×Obj)) (σ:St) (H:Hp) (s:Shared) (e:Value) (s':Shared),aF X ae σ H s->CX X.stack H s (E σ) e s'->X.xe e s'
def xR(C:Addr)(m:Str)(sp:Sp)(fW:List V)(E:St->XK)(ta:TE)(t:TA):TE:=fun σ H Q=>ta σ H fun x H1=>∃a dx fs,x=.ref a/\H1 a=some (.ins C dx fs)/\fs.lookup m=none/\
 t σ H1 fun vs H2=>sp (x::(vs++fW)) H2 Q (E σ)
def CO(C:Addr)(sp:Sp)(fW:List V)(E:St->XK)(t:TA):TE:=fun σ H Q=>t σ H fun vs H1=>∀x dx,H1 x=none->H1 dx=none->dx≠x->
 sp (.ref x::(vs++fW)) (upd (upd H1 dx (.own x)) x (.ins C dx [])) (fun v H2=>v=.bV/\Q (.ref x) H2) (E σ)
section
variable {X:Cx} {CX:nu} {k:Nat} {f C:Addr} {fd:FuncData} {ps:List Str} {sp:Sp} {fW:List V} {ds:List Value} {E:St->XK} {x m:Str} {p pos jK:Pos} {e o:Expr} {es:List Expr} {ta:TE} {t:TA}
theorem FS{ae:List (Addr×Obj)}{σ:St}{H:Hp}{s:Shared}{Q:VK}{us:List Value}{vs:List V}(F:be X.prog X.w X.K X.mg X.base CX k f fd ps sp)(hr:bK k X.A)(hb:dJ X.K fd ps ds)(hd:aP fW ds)(hx:jw CX X E)(I:aF X ae σ H s)(r:aP vs us)(h:sp (vs++fW) H Q (E σ)):wpAny (model X.prog X.w) X.A (call (.ref f) us) (EP X ae σ Q) X.xe s:=by
 have r2:aP (vs++fW) (us++ds):=r.append hd;have hl:(us++ds).length=ps.length:=by rw[<-r2.length];exact F.len _ _ _ _ h
 refine kh (h_ (F.run X.A X.stack s H ⟨us,[]⟩ (us++ds) (vs++fW) Q (E σ) hr I.Cq (hb s us I.jm hl) r2 h) fun r s' hq=>?_);cases r with
 |error e=>exact hx ae σ H s e s' I hq
 |ok fl=>
  cases fl with
  |ret u=>exact I.after hq
  |next=>exact False.elim hq
  |brk=>exact False.elim hq
  |cont=>exact False.elim hq
end
structure jU(k:Nat)(A:Around):Prop where
 dp:A.depth+3*k+5<recursionLimit
 un:A.units+16*k+200<cLine
theorem jU.deeper{k:Nat}{A:Around}(r:jU (k+1) A)(env:Env):jU k (A.deeper env):=
 ⟨by have:=r.dp;show A.depth+1+3*k+5<_;lia,by have:=r.un;show A.units+3+16*k+200<_;lia⟩
theorem jU.depth{k:Nat}{A:Around}(r:jU k A):A.depth<recursionLimit:=by have:=r.dp;lia
def q9(CX:nu)(P:Program)(w:World)(K:PySem.W.Frag)(mg:Str->Option Value)(base:Heap)(N:List Str)(qual:Str)(scope:Scope)(f:Addr)(cd:Value)(A:Around)(outer:List Env)(s:Shared)(H:Hp)(E:XK):Cx:=
 { gX CX P w K mg base N qual scope f cd A outer s H E with calm:=false }
theorem xS{CX:nu}{P:Program}{w:World}{K:PySem.W.Frag}{mg:Str->Option Value}{base:Heap}{N ps:List Str}{qual:Str}{scope:Scope}{f:Addr}{cd:Value}{A:Around}{outer:List Env}{s s1:Shared}{H:Hp}{E:XK}{us:List Value}{vs:List V}(S:aE N ps scope)(e0:tD P w K mg base A outer s H)(hl:vs.length=ps.length)(r:aP vs us)(x:InCallC s s.heap.objs.size (bindL (envOfC qual scope s.heap.objs.size f cd).kindOf (ps.zip us) fun _=>none) (cellsFrom (s.heap.objs.size+1) scope.names []) (bindC (envOfC qual scope s.heap.objs.size f cd).kindOf (ps.zip us) fun _=>none) s1):
  aF (q9 CX P w K mg base N qual scope f cd A outer s H E) [] (start N vs) H s1:=by
 have lQ:ps.length<=N.length:=by have:=congrArg List.length S.pre;rw[fA] at this;lia
 obtain⟨h1,tk,rfl,hk⟩:=x.done;have E6:∀b:Addr,b∉(q9 CX P w K mg base N qual scope f cd A outer s H E).ex:=fun b z=>absurd (show b∈([]:List Addr) from z) (by simp);refine⟨⟨e0.mod,S.kind,rfl,rfl,a9 _,fun y z c h1 h2=>?_,fun y hy=>?_,fun y c _ h=>?_,fun z=>absurd (show false=true from z) (by decide),Around.frames_deeper e0.frames,.inr ⟨rfl,rfl⟩,fun b z=>absurd z (E6 b),e0.bs,e0.Ai,fun b _ _=>E6 b,fun b z=>absurd z (E6 b),e0.iZ,e0.BE⟩,
  rfl,e0.bare,Un.kept hk,⟨_,x.toInCall.ns,fun i y v h1 h2 h3=>?_⟩,fun y c h=>⟨_,x.cell y c h⟩,e0.bq.fresh (a9 _),fun y c h=>?_,fun p hp=>absurd (show p∈([]:List (Addr×Obj)) from hp) (by simp),e0.bq.kept hk,?_⟩
 .exact name_of_addr x.apart (gQ h1) (gQ h2)
 .have hy:scope.names.lookup y=some .cell\/scope.names.lookup y=some .free:=hy;rcases hy with hy|hy
  .exact lj hy
  .exact absurd rfl (S.Ct _ (gQ hy))
 .exact iE (x.above y c (gQ h))
 .have hi:i<vs.length:=by
   unfold start at h2;by_cases hi:i<vs.length
   .exact hi
   .rw[iM (by simpa using hi)] at h2;rw[wN] at h2;split at h2 <;> cases h2
  have ha:vs[i]?=some v:=by
   unfold start at h2;rw[gN (by simpa using hi),bi] at h2;cases e:vs[i]? with
   |none=>rw[e] at h2;cases h2
   |some a=>rw[e] at h2;cases h2;rfl
  obtain⟨u,hu,rv⟩:=r.get ha;have hp:ps[i]?=some y:=by
   rw[<-S.pre,BV (by lia)];exact h1
  have M2:ps.Nodup:=by rw[<-S.pre];exact S.nd.sublist (List.take_sublist _ _)
  refine⟨u,rv,?_⟩;rcases S.par y (cT hp) with k|k
  .exact .inl ⟨k,mq M2 hp hu k⟩
  .obtain⟨c,e⟩:=lj (n:=s.heap.objs.size+1) k;refine .inr ⟨.inl k,c,e,?_⟩;have q:=x.cell y c e;rw[mr M2 hp hu (by show scope.names.lookup y≠_;rw[k];decide)] at q;exact q
 .exact e0.bq.fresh (iE (x.above y c (gQ h)))
 .unfold start;show _=N.length;rw[cD,aZ,oz];lia
section
variable {X:Cx} {CX:nu} {k:Nat} {f:Addr} {fd:FuncData} {ps:List Str} {sp:Sp} {fW:List V} {ds:List Value} {E:XK} {x:Str} {p pos:Pos} {e:Expr} {es:List Expr} {t:TA}
end
section
variable {P:Program} {w:World} {K:PySem.W.Frag} {mg:Str->Option Value} {base:Heap}
theorem eJ.FT{x qual:Str}{st:Stmt}{f:Addr}{fd:FuncData}{N ps:List Str}{k:Nat}{sp:Sp}(F:eJ K x qual st f fd)(S:aE N ps (aj st))(len:∀vs H Q E,sp vs H Q E->vs.length=ps.length)(i8:∀ (cm:Value) (A:Around) (outer:List Env) (s:Shared) (H:Hp) (vs:List V) (Q:VK) (E:XK),bK k (A.deeper (envOfC qual (aj st) s.heap.objs.size f cm))->sp vs H Q E->
   ∃t,qq (gX (dZ P w) P w K mg base N qual (aj st) f cm A outer s H E) (bh st) t/\t { nx:=fun _ H'=>Q .bV H',rt:=Q } (start N vs) H):be P w K mg base (dZ P w) (k+1) f fd ps sp:=by
 obtain⟨oc,od,kV,jr,pm,an,cm,ct,qY,rfl,lk,mY⟩:=F.ex;exact Cu lk mY S len fun A outer s H vs Q E hr vf=>i8 cm A outer s H vs Q E hr vf
end
abbrev Cx.fg(X:Cx)(pn:List (Addr×Obj))(xe:Value->Shared->Prop):Cx:={ X with pn:=pn,xe:=xe }
abbrev Cx.dS(X:Cx)(pn:List (Addr×Obj))(p:Addr):Cx:={ X with pn:=pn,xe:=fun _ _=>False,calm:=false,A:=X.A.mark (some (.ref p)) }
theorem Cx.Ok.fg{X:Cx}(ok:X.Ok)(pn:List (Addr×Obj))(xe:Value->Shared->Prop):(X.fg pn xe).Ok:=
 ⟨ok.mod,ok.kind,ok.glob,ok.blt,ok.above,ok.inj,ok.has,ok.Jg,ok.hd,ok.frames,ok.BC,ok.Mv,ok.bs,ok.Ai,ok.me,ok.Aj,ok.iZ,ok.BE⟩
theorem Cx.Ok.dS{X:Cx}(ok:X.Ok)(pn:List (Addr×Obj))(p:Addr):(X.dS pn p).Ok:=
 ⟨ok.mod,ok.kind,ok.glob,ok.blt,ok.above,ok.inj,ok.has,ok.Jg,fun z=>absurd (show false=true from z) (by decide),ok.frames,ok.BC,ok.Mv,ok.bs,ok.Ai,ok.me,ok.Aj,ok.iZ,ok.BE⟩
section
variable {X:Cx} {ae:List (Addr×Obj)} {σ:St} {H:Hp} {s:Shared}
theorem aF.fg(I:aF X ae σ H s)(xe:Value->Shared->Prop):aF (X.fg (X.pn++ae) xe) [] σ H s:=
 ⟨I.ok.fg _ _,I.os,I.bare,I.base,I.loc,I.cell,I.free,I.fR,fun p hp=>I.pin p (by simpa using hp),I.bq,I.len⟩
theorem aF.lu{o8:List (Addr×Obj)}{xe:Value->Shared->Prop}(ok:X.Ok)(I:aF (X.fg (X.pn++ae) xe) o8 σ H s):aF X ae σ H s:=
 ⟨ok,I.os,I.bare,I.base,I.loc,I.cell,I.free,I.fR,fun p hp=>I.pin p (gO _ hp),I.bq,I.len⟩
theorem aF.xT{o8:List (Addr×Obj)}{p:Addr}(ok:X.Ok)(I:aF (X.dS (X.pn++ae) p) o8 σ H s):aF X ae σ H s:=
 ⟨ok,I.os,I.bare,I.base,I.loc,I.cell,I.free,I.fR,fun p hp=>I.pin p (gO _ hp),I.bq,I.len⟩
theorem tP{xe:Value->Shared->Prop}{o8:List (Addr×Obj)}{B h6:Heap}{p:Addr}{C a0:Value}{H':Hp}{s':Shared}(ok:X.Ok)(I:aF (X.fg (X.pn++ae) xe) o8 σ H s)(F:CL X.prog X.w X.stack H s B p C a0 H' s')(fl:u3 B X.stack p C h6)(sm:s'.heap.UpToSlots h6):
  H' p=none/\aF (X.dS (X.pn++ae) p) [] σ (upd H' p (qG p C)) { s' with heap:=h6 }:=by
 have hp:H' p=none:=F.bq.mB fl.new;have R9:∀b∈jR X.stack,b≠p:=fun b hb z=>by
  obtain⟨_,o,ho,nd⟩:=fl.frames.mem hb;obtain⟨oe,vs,he,_,hd,_⟩:=fl.there;rw[z] at ho;have e:o=oe:=bt (ho.symm.trans he);rw[e] at nd;exact nd vs hd
 have ne:∀b o,s.heap.get? b=some o->H b=none->b≠p:=fun b o e n z=>by
  by_cases hb:b∈jR X.stack
  .exact R9 b hb z
  .have q:=(F.keep b o e n hb).1;rw[z,fl.new] at q;cases q
 have neT:∀ {b:Addr} {u:HO},H' b=some u->b≠p:=fun {b u} e z=>by rw[z,hp] at e;cases e
 have U:Un (jR X.stack) [] H (upd H' p (qG p C)) s.heap h6:={
  keep:=fun b o e n hb _=>fl.stays _ _ (F.keep b o e n hb).1
  slot:=fun b o e n hb _=>by
   obtain⟨⟨sl,q⟩,_⟩:=F.frame b o e n hb;obtain⟨_,o',uU,nd⟩:=F.fl.frames.mem hb;have e':o'={ o with slots:=sl }:=bt (uU.symm.trans q);obtain⟨Ig,q2⟩:=sm b o' uU nd;rw[e'] at q2;exact⟨Ig,q2⟩
  free:=fun b o e n _=>by
   rw[ao (ne b o e n)];by_cases hb:b∈jR X.stack
   .exact(F.frame b o e n hb).2
   .exact(F.keep b o e n hb).2
  there:=fun b o e _=>by
   cases n:H b with
   |none=>
    by_cases hb:b∈jR X.stack
    .obtain⟨_,o',uU,nd⟩:=fl.frames.mem hb;exact⟨o',uU⟩
    .exact⟨o,fl.stays _ _ (F.keep b o e n hb).1⟩
   |some u=>
    obtain⟨o',q⟩:=F.there b o e (by rw[n];intro z;cases z);exact⟨o',fl.stays _ _ q⟩
  ii:=fun b xs e=>by rw[ao (neT (F.ii b xs e))];exact F.ii b xs e
  iY:=fun b o u e=>by rw[ao (neT (F.iY b o u e))];exact F.iY b o u e
  jJ:=fun b ps e=>by
   obtain⟨m,q⟩:=F.jJ b ps e;exact⟨m,by rw[ao (neT q)];exact q⟩ }
 have bq:kl X.prog X.w (upd H' p (qG p C)) h6:=fun b u e=>by
  by_cases hb:b=p
  .subst hb;rw[ag] at e;cases e;obtain⟨o,vs,q,c,d1,d2⟩:=fl.there;exact Fa.ok ⟨o,q,c,vs,d1,d2⟩
  .rw[ao hb] at e;exact(F.bq b u e).km (fun c v _ q=>fl.stays c v q) (fun c q=>by rw[ao (neT q)];exact q) fun c xs q=>by rw[ao (neT q)];exact q
 have J:=I.HX (s':={ s' with heap:=h6 }) (ch:=[]) F.os U bq F.bare fun b z=>absurd z (by simp);exact⟨hp,⟨ok.dS _ _,J.os,J.bare,J.base,J.loc,J.cell,J.free,J.fR,fun q hq=>J.pin q (gO _ (by simpa using hq)),J.bq,J.len⟩⟩
end
def No(K:PySem.W.Frag)(Dc:Addr)(i:Nat)(E:St->XK)(tb:TS)(th:Addr->TS):TS:=fun D σ H=>tb D σ H/\∀σ' C H',E σ' C none H'->PySem.W.subIn K C (.ref Dc)=some true/\(∃Cc,C=.ref Cc)/\
 ∀p,H' p=none->th p { nx:=fun σ2 H2=>D.nx (σ2.set i none) H2,rt:=D.rt,bk:=fun σ2 H2=>D.bk (σ2.set i none) H2,ct:=fun σ2 H2=>D.ct (σ2.set i none) H2 } (σ'.set i (some (.ref p))) (upd H' p (qG p C))
theorem JN{X:Cx}{body vq:List Stmt}{b₀:Stmt}{x n:Str}{np vt pos:Pos}{Dc:Addr}{i:Nat}{E:St->XK}{tb:TS}{th:Addr->TS}(TD:jL X.K Dc)(hg:Gl X x)(hm:X.mg x=some (.ref Dc))(jp:X.stack=X.env::X.outer)(BY:X.env.frame=some X.env.locals)(hN:X.N.Nodup)(hi:X.N[i]?=some n)(hn:X.env.scope.names.lookup n=some .local)(hb:∀pn xe,jw (dZ X.prog X.w) (X.fg pn xe) E->qq (X.fg pn xe) body tb)(hh:∀pn p,qq (X.dS pn p) (b₀::vq) (th p))(pA:(x==("__debug__":Str))=false:=by decide):
  PS X (.Try body [.ExceptHandler (some (.Name x np)) (some n) (b₀::vq) vt] [] [] pos) (No X.K Dc i E tb th):=by
 intro ae s σ H D I h;obtain⟨h1,h2⟩:=h;refine wpAny_Try_except ?_;have Jh:(X.env.scope.kind==.class||(X.env.scope.kind==.module&&X.env.locals != X.env.globals))=false:=by rw[I.ok.kind];rfl
 refine gw (hb (X.pn++ae) _ ?_ [] s σ H D (I.fg _) h1) (fun f s1 q=>?_) fun e s1 q=>q
 .-- an exception has X8
  intro VT σ1 H1 s1 e s' I1 X9;obtain⟨p,C,a0,B,H',rfl,F,q⟩:=X9;obtain⟨Np,⟨Cc,X_⟩,Ya⟩:=h2 σ1 C H' q;subst X_;have F':CL X.prog X.w X.stack H1 s1 B p (.ref Cc) a0 H' s':=F;have VU:=F'.fl;rw[jp] at VU;refine yP (by rw[I.ok.frames,jp]) BY VU fun h4 Nq AE=>?_;refine gc Nq fun h5 Sa Yb=>?_;have Ii:∀b o,X.base.get? b=some o->h5.get? b=some o:=fun b o e=>by
   obtain⟨e1,n1⟩:=I1.bs b o e;refine Sa.stays _ _ (F'.keep b o e1 n1 fun z=>?_).1;have:=(I1.stack.mem z).1;rw[e] at this;cases this
  have Sb:X.K.In h5:=I.ok.mod.B3.keeps Ii;obtain⟨oe,_,Nr,LW,_⟩:=Sa.there;refine wpAny_handleBy_cons (codeAny_handlers_test (wO I.ok.kind hg (Calls.loadGlobal_global (by rw[I.ok.glob];exact I.ok.mod.glob.keeps Ii) hm ?_) pA)) (by intro z;cases z);refine vo (K:=X.K) Sb TD Nr LW Np ?_;show codeAny _ _ _ _ _;refine codeAny_handlers_suite_as ?_;refine gc Sa fun h6 Yc CP=>?_;have Sc:u3 B X.stack p (.ref Cc) h6:=by rw[jp];exact Yc
  obtain⟨hp,IH⟩:=tP I.ok I1 F' Sc ((AE.trans Yb).trans CP);refine jn (X:=X.dS (X.pn++ae) p) IH hN hi (.inl hn) (v:=.ref p) rfl (fun s7 I7 _=>?_) (.inr hn);refine gw (hh _ p [] s7 _ _ _ I7 (Ya p hp)) (fun f s8 q8=>?_) fun _ _ z=>z.elim;have FU:∀ {σ2:St} {H2:Hp} {Q:Unit->Shared->Prop},aF (X.dS (X.pn++ae) p) [] σ2 H2 s8->(∀s9,aF X ae (σ2.set i none) H2 s9->Q () s9)->
    wpAny (model X.prog X.w) X.A (do bindName X.env n .none;unbindBehindTheSuite X.env n vt) Q X.xe s8:=fun {σ2 H2 Q} I8 k=>by
   have Yd:aF X ae σ2 H2 s8:=I8.xT I.ok;refine ap (wpAny_bindName (jn Yd hN hi (.inl hn) (v:=.bV) rfl (fun s9 I9 _=>?_) (.inr hn)));obtain⟨m,VV,VW⟩:=I9.loc;have hiσ:i<(σ2.set i (some V.bV)).length:=by rw[I9.len];exact(cL.mp hi).1
   have hiσ2:i<σ2.length:=by simpa using hiσ
   obtain⟨u,ru,lk⟩:=VW i n .bV hi (by rw[ot hiσ2]) (.inl hn);have Ye:m n=some u:=by
    rcases lk with ⟨_,z⟩|⟨hk,_⟩
    .exact z
    .have JE:X.env.scope.names.lookup n=some .cell\/X.env.scope.names.lookup n=some .free:=hk;rw[hn] at JE;rcases JE with z|z <;> cases z
   unfold unbindBehindTheSuite;refine sO (wpAny_unbindName_local hn VV Ye Jh fun h' uu HW sb=>k _ ?_);obtain⟨oL,_,_,Ak,_⟩:=id VV;have bq:kl X.prog X.w H2 h':=fun b ob e=>by
    refine(I9.bq b ob e).km (fun c w' hc q=>(sb.2 c ?_).trans q) (fun _ q=>q) fun _ _ q=>q;rintro rfl;rcases hc with rfl|hc
    .rw[I9.free] at e;cases e
    .rw[I9.free] at hc;cases hc
   have nL:∀b o,X.s₀.heap.get? b=some o->b≠X.env.locals:=fun b o e=>aT (bz (aQ e) I9.ok.above);refine⟨I9.ok,I9.os,I9.bare,⟨fun b o e n' hb hx=>(sb.2 b (nL b o e)).trans (I9.base.keep b o e n' hb hx),fun b o e n' hb hx=>?_,I9.base.free,fun b o e hx=>?_,I9.base.ii,I9.base.iY,I9.base.jJ⟩,⟨_,HW,fun j y v e1 e2 e3=>?_⟩,fun y c e=>?_,I9.free,I9.fR,fun q hq=>?_,bq,by simpa using I9.len⟩
   .obtain⟨sl,e1⟩:=I9.base.slot b o e n' hb hx;exact⟨sl,(sb.2 b (nL b o e)).trans e1⟩
   .obtain⟨o',e1⟩:=I9.base.there b o e hx;exact⟨o',(sb.2 b (nL b o e)).trans e1⟩
   .by_cases hj:j=i
    .subst hj;rw[ot hiσ2] at e2;cases e2
    .rw[lV (dq hj)] at e2;obtain⟨u',r',l'⟩:=VW j y v e1 (by rw[lV (dq hj)];exact e2) e3;refine⟨u',r',?_⟩;rcases l' with ⟨k1,z⟩|⟨k1,c,z1,z2⟩
     .have:y≠n:=fun e=>hj (o9 hN e1 (e ▸ hi));exact .inl ⟨k1,by simp[this,z]⟩
     .exact .inr ⟨k1,c,z1,z2.sameBut sb (I9.Fm y c z1)⟩
   .obtain⟨w',z⟩:=I9.cell y c e;exact⟨w',z.sameBut sb (I9.Fm y c e)⟩
   .obtain⟨e,n',ne,nf,d⟩:=I9.pin q hq;exact⟨(sb.2 q.1 ne).trans e,n',ne,nf,d⟩
  cases f with
  |next=>obtain⟨σ2,H2,I8,q8⟩:=q8;exact FU I8 fun s9 I9=>⟨_,H2,I9,q8⟩
  |brk=>obtain⟨σ2,H2,I8,q8⟩:=q8;exact FU I8 fun s9 I9=>⟨_,H2,I9,q8⟩
  |cont=>obtain⟨σ2,H2,I8,q8⟩:=q8;exact FU I8 fun s9 I9=>⟨_,H2,I9,q8⟩
  |ret u=>obtain⟨v,σ2,H2,I8,r8,q8⟩:=q8;exact FU I8 fun s9 I9=>⟨v,_,H2,I9,r8,q8⟩
 .cases f with
  |next=>obtain⟨σ2,H2,I8,q8⟩:=q;exact oR ⟨σ2,H2,I8.lu I.ok,q8⟩
  |brk=>obtain⟨σ2,H2,I8,q8⟩:=q;exact⟨σ2,H2,I8.lu I.ok,q8⟩
  |cont=>obtain⟨σ2,H2,I8,q8⟩:=q;exact⟨σ2,H2,I8.lu I.ok,q8⟩
  |ret u=>obtain⟨v,σ2,H2,I8,r8,q8⟩:=q;exact⟨v,σ2,H2,I8.lu I.ok,r8,q8⟩
def tQ(A:Around)(H:Hp):Prop:=A.handled=none\/∃p C,A.handled=some (.ref p)/\H p=some (qG p C)
theorem tQ.same{A:Around}{H H':Hp}(h:tQ A H)(s:∀b o,H b=some o->H' b=some o):tQ A H':=h.imp id fun ⟨p,C,a,b⟩=>⟨p,C,a,s _ _ b⟩
theorem tQ.Fo{A:Around}{H:Hp}{lo:Int}{n:Nat}(h:tQ A H):(E5 lo n).Fo A H:=h.imp id fun ⟨p,C,a,b⟩=>⟨p,_,a,b,fun _ x=>Fa.nc x⟩
structure q_(P:Program)(w:World)(K:PySem.W.Frag)(mg:Str->Option Value)(base:Heap)(CX:nu)(k:Nat)(f:Addr)(fd:FuncData)(ps:List Str)(sp:Sp):Prop where
 len:∀vs H Q E,sp vs H Q E->vs.length=ps.length
 run:∀ (A:Around) (outer:List Env) (s:Shared) (H:Hp) (args:Args) (us:List Value) (vs:List V) (Q:VK) (E:XK),jU k A->tQ A H->tD P w K mg base A outer s H->BindsTo s fd args (ps.zip us)->aP vs us->sp vs H Q E->
  codeAny (model P w) A (.call (.ref f) args) (CR CX outer P w H s Q E) s
theorem JO{CX:nu}{P:Program}{w:World}{K:PySem.W.Frag}{mg:Str->Option Value}{base:Heap}{k:Nat}{f:Addr}{name qual:Str}{params:Arguments}{body:List Stmt}{scope:Scope}{dV kV jr pm cm ct oc:Value}{an od:Option Addr}{qY:Array (Option Value)}{N ps:List Str}{sp:Sp}(lk:K.lookup f=some ⟨oc,od,.func (PySem.W.fnOf name qual params body scope dV kV jr pm an cm ct),qY⟩)(mY:PySem.W.codeIn K cm qual=true)(S:aE N ps scope)(len:∀vs H Q E,sp vs H Q E->vs.length=ps.length)(i8:∀ (A:Around) (outer:List Env) (s:Shared) (H:Hp) (vs:List V) (Q:VK) (E:XK),jU k (A.deeper (envOfC qual scope s.heap.objs.size f cm))->tQ (A.deeper (envOfC qual scope s.heap.objs.size f cm)) H->sp vs H Q E->
   ∃t,qq (q9 CX P w K mg base N qual scope f cm A outer s H E) body t/\t { nx:=fun _ H'=>Q .bV H',rt:=Q } (start N vs) H):
  q_ P w K mg base CX (k+1) f (PySem.W.fnOf name qual params body scope dV kV jr pm an cm ct) ps sp:=by
 refine⟨len,fun A outer s H args us vs Q E hr hd e0 hb r vf=>?_⟩;have hl:=len _ _ _ _ vf;have KX:K.In s.heap:=e0.mod.B3.keeps fun b o e=>(e0.bs b o e).1;have RV:s.heap.NoLimit:=e0.mod.nolimit.keeps fun b o e=>(e0.bs b o e).1;have Cv:∀y∈ps.zip us,scope.names.lookup y.1=some .local\/(scope.names.lookup y.1=some .cell/\((cellsFrom (s.heap.objs.size+1) scope.names []).lookup y.1).isSome=true):=fun ⟨n,v⟩ hy=>by
  rcases S.par n (l6 hy).1 with q|q
  .exact .inl q
  .exact .inr ⟨q,wP _ _ _ (.inl q)⟩
 refine codeAny_call_function hr.depth (KX _ _ lk) rfl S.co S.gen rfl (PySem.W.codeRec_of KX mY) (hb _ _ _ _ ?_);refine wpAny_newFunctionEnv_cells S.kind Cv fun env he s1 x=>?_;subst he;refine⟨RV.keeps x.toInCall.keep,codeAny_func ?_⟩;obtain⟨t,ht,hq⟩:=i8 A outer s H vs Q E (hr.deeper _) hd vf;have I:aF (q9 CX P w K mg base N qual scope f cm A outer s H E) [] (start N vs) H s1:=xS S e0 hl r x;refine gw (ht [] s1 (start N vs) H _ I hq) (fun fl s' hs=>?_) fun e s' hs=>hs;have fin:∀ {σ':St} {H':Hp} {v:V} {u:Value},aF (q9 CX P w K mg base N qual scope f cm A outer s H E) [] σ' H' s'->bA v u->Q v H'->CE outer P w H s Q u s':=
  fun {σ' H' v u} J rv q=>⟨v,H',J.os,J.bare,J.base,J.bq,rv,q⟩
 cases fl with
 |ret u=>
  obtain⟨v,σ',H',J,rv,q⟩:=hs;exact fin J rv q
 |next=>
  obtain⟨σ',H',J,q⟩:=hs;exact fin (v:=V.bV) (u:=Value.none) J rfl q
 |brk=>
  obtain⟨_,_,_,q⟩:=hs;exact False.elim q
 |cont=>
  obtain⟨_,_,_,q⟩:=hs;exact False.elim q
def tR(A:Around)(sp:Sp)(fW:List V)(E:XK)(t:TA):TE:=fun σ H Q=>t σ H fun vs H1=>tQ A H1/\sp (vs++fW) H1 Q E
section
variable {X:Cx} {CX:nu} {k:Nat} {f:Addr} {fd:FuncData} {ps:List Str} {sp:Sp} {fW:List V} {ds:List Value} {E:XK} {x:Str} {p pos:Pos} {e:Expr} {es:List Expr} {t:TA}
theorem CQ(F:q_ X.prog X.w X.K X.mg X.base CX k f fd ps sp)(hr:jU k X.A)(hg:Gl X x)(hm:X.mg x=some (.ref f))(hk:PySem.W.keepIn X.K (.ref f)=true)(hb:dJ X.K fd ps ds)(hd:aP fW ds)(hx:ff CX X E)(ha:PA X (e::es) t)(pA:(x==("__debug__":Str))=false:=by decide)(he:starEach (e::es) X.env=(false,eval e X.env)::starEach es X.env:=by rfl)(lQ:(backTo pos (starEach es X.env)).any (·.1)=false:=by rfl):
  PE X (.Call (.Name x p) (e::es) [] pos) (tR X.A sp fW E t):=by
 intro ae s σ H Q I h;refine j8 (jo I hg hm ?_ pA);refine lW (h₀:=X.base) I.ok.mod.B3 hk (cE (ha pos ae s σ H _ I h) fun us s1 ⟨vs,H1,I1,r,Yf,q⟩=>⟨I1.jm,?_⟩) he lQ;have r2:aP (vs++fW) (us++ds):=r.append hd;have hl:(us++ds).length=ps.length:=by rw[<-r2.length];exact F.len _ _ _ _ q
 refine kh (h_ (F.run X.A X.stack s1 H1 ⟨us,[]⟩ (us++ds) (vs++fW) Q E hr Yf I1.Cq (hb s1 us I1.jm hl) r2 q) fun r s' hq=>?_);cases r with
 |error e=>exact hx ae σ H1 s1 e s' I1 hq
 |ok fl=>
  cases fl with
  |ret u=>exact I1.after hq
  |next=>exact False.elim hq
  |brk=>exact False.elim hq
  |cont=>exact False.elim hq
end
section
variable {P:Program} {w:World} {K:PySem.W.Frag} {mg:Str->Option Value} {base:Heap}
theorem eJ.Yg{x qual:Str}{st:Stmt}{f:Addr}{fd:FuncData}{N ps:List Str}{k:Nat}{sp:Sp}(F:eJ K x qual st f fd)(S:aE N ps (aj st))(len:∀vs H Q E,sp vs H Q E->vs.length=ps.length)(i8:∀ (cm:Value) (A:Around) (outer:List Env) (s:Shared) (H:Hp) (vs:List V) (Q:VK) (E:XK),jU k (A.deeper (envOfC qual (aj st) s.heap.objs.size f cm))->tQ (A.deeper (envOfC qual (aj st) s.heap.objs.size f cm)) H->sp vs H Q E->
   ∃t,qq (q9 (dZ P w) P w K mg base N qual (aj st) f cm A outer s H E).E4 (bh st) t/\t { nx:=fun _ H'=>Q .bV H',rt:=Q } (start N vs) H):q_ P w K mg base (dZ P w) (k+1) f fd ps sp:=by
 obtain⟨oc,od,kV,jr,pm,an,cm,ct,qY,rfl,lk,mY⟩:=F.ex;refine JO lk mY S len fun A outer s H vs Q E hr hd vf=>?_;obtain⟨t,h,q⟩:=i8 cm A outer s H vs Q E hr hd vf;exact⟨t,h.E4,q⟩
end
structure CU(P:Program)(w:World)(K:PySem.W.Frag)(mg:Str->Option Value)(base:Heap)(k:Nat)(x:Str)(ps:List Str)(sp:Sp):Prop where
 ex:∃f fd,mg x=some (.ref f)/\PySem.W.keepIn K (.ref f)=true/\dJ K fd ps []/\q_ P w K mg base (dZ P w) k f fd ps sp
theorem zi{X:Cx}{k:Nat}{x:Str}{ps:List Str}{sp:Sp}{E:XK}{e:Expr}{es:List Expr}{t:TA}{p pos:Pos}(C:CU X.prog X.w X.K X.mg X.base k x ps sp)(hr:jU k X.A)(hx:ff (dZ X.prog X.w) X E)(ha:PA X (e::es) t)(hg:Gl X x:=by rfl)(pA:(x==("__debug__":Str))=false:=by decide)(he:starEach (e::es) X.env=(false,eval e X.env)::starEach es X.env:=by rfl)(lQ:(backTo pos (starEach es X.env)).any (·.1)=false:=by rfl):
  PE X (.Call (.Name x p) (e::es) [] pos) (tR X.A sp [] E t):=by
 obtain⟨f,fd,a,b,c,d⟩:=C.ex;exact CQ d hr hg a b c .nil hx ha pA he lQ
theorem zj{h:Heap}{a:Addr}{m m':Str->Option Value}(x:h.Ns a m)(y:h.Ns a m'):m=m':=by
 obtain⟨o,es,ep,e,d,_,q⟩:=x;obtain⟨o',ww,Qn,e',d',_,q'⟩:=y;rw[e] at e';cases e';rw[d] at d';cases d';funext z;rw[<-q z,q' z]
theorem aF.Nt{X:Cx}{ae:List (Addr×Obj)}{σ:St}{H:Hp}{s:Shared}{h':Heap}{m:Str->Option Value}{D:Addr}{o:HO}{t':Nat}(I:aF X ae σ H s)(F:Fr X.base X.env.locals s.heap m)(F':Fr X.base X.env.locals h' m)(N':News X.base X.env.locals h' (ge X.base s.heap X.env.locals))(hD:s.heap.get? D=none)(new:cw X.prog X.w (upd H D o) h' D o):aF X ae σ (upd H D o) { s with heap:=h',toks:=t' }:=by
 have hn:=I.bq.mB hD;have ne:∀b u,s.heap.get? b=some u->b≠D:=fun b u e z=>by rw[z,hD] at e;cases e
 have keep:∀b u,b≠X.env.locals->s.heap.get? b=some u->h'.get? b=some u:=fun b u hb e=>by
  cases q:X.base.get? b with
  |some v=>
   have:=I.bk b v q;rw[e] at this;cases this;exact F'.keep b _ q
  |none=>exact(N' (b,u) (gf hb q e)).1
 refine I.step (g':=s.gens) (d':=s.drawn) (ch:=[]) (fun _ z=>absurd z (by simp)) (fun b u hb _ _ e _=>keep b u hb e) (fun b u hb _ _ e _=>⟨u.slots,keep b u hb e⟩) (fun b u _ e n=>by rw[ao (ne b u e)];exact n) (fun b u _ e=>?_)
  (fun b xs e=>by rw[ao (am e hn)];exact e) (fun b u v e=>by rw[ao (am e hn)];exact e) (fun b ps e=>⟨#[],by rw[ao (am e hn),e];simp⟩) (fun m1 hm=>by rw[zj hm F.ns];exact F'.ns) (fun b u e=>?_) I.bare
 .by_cases hb:b=X.env.locals
  .obtain⟨o',_,_,q,_⟩:=F'.ns;exact⟨o',by rw[hb];exact q⟩
  .exact⟨u,keep b u hb e⟩
 .by_cases hb:b=D
  .subst hb;rw[ag] at e;cases e;exact new
  .rw[ao hb] at e;refine(I.bq b u e).km (fun c v hc q=>keep c v ?_ q) (fun c q=>by rw[ao (am q hn)];exact q) fun c xs q=>by rw[ao (am q hn)];exact q
   rintro rfl;rcases hc with z|hc
   .have f:=I.free;rw[z,e] at f;cases f
   .rw[I.free] at hc;cases hc
theorem qH(I:aF X ae σ H s)(N:News X.base X.env.locals h' ((D,o)::ge X.base s.heap X.env.locals))(dX:∀q∈ge X.base s.heap X.env.locals,q.1<D):s.heap.get? D=none:=by
 cases e:s.heap.get? D with
 |none=>rfl
 |some u=>
  obtain⟨_,n1,n2⟩:=N (D,o) ci;exact absurd (dX (D,u) (gf n1 n2 e)) (f_ _)
def CV(K:PySem.W.Frag)(H:Hp)(a:Addr)(y:Int×Int):Prop:=cI K H a [.int y.1,.int y.2]
section
variable {X:Cx}
theorem xU(I:aF X ae σ H s)(h:CV X.K H a y):∃o n t u,s.heap.get? a=some o/\o.cls=.type "tuple"/\o.data=.seq #[.int y.1 t,.int y.2 u] n:=by
 obtain⟨its,r,p,_⟩:=I.tuple h;obtain⟨u1,u2,rfl,r1,r2⟩:=r.two;obtain⟨t,rfl⟩:=r1;obtain⟨t',rfl⟩:=r2;obtain⟨o,e,c,n,d⟩:=p;exact⟨o,n,t,t',e,c,d⟩
end
def JP(hs:Array Int)(i:Nat):Int:=(hs[i]?).getD 0
def eK(hs:Array Int)(t:SetTable)(h:Int):Option (Array Int×SetTable):=
 if t.gaveWay then none else
 match t.probe (JP hs) h (t.probeStart h) with
 |some (.empty j none)=>
  let q:=t.put j
  let Ij:=SetTable.insertAt hs q.2 h
  if q.1.fits Ij.size&&decide (Ij.size<=4096) then
   if q.1.tooFull then
    (match q.1.relaid Ij (SetTable.grown (hs.size+1)) with
    |some (t2,iF)=>
     let tw:=iF.filterMap (Ij[·]?)
     if tw.size==Ij.size&&t2.fits tw.size&&decide (SetTable.sizeAbove (SetTable.grown (hs.size+1))<=4096) then some (tw,t2) else none
    |none=>none)
   else some (Ij,q.1)
  else none
 |_=>none
def tT(led:Bool):List Int->Option (Array Int×SetTable):=fun l=>l.foldlM (fun q h=>eK q.1 q.2 h) (#[],SetTable.fresh 0 0 led)
def i9(h:Heap)(S:Addr)(hs:Array Int)(t:SetTable):Prop:=∃o es ep,h.get? S=some o/\o.cls=.type "set"/\(o.dict=none/\o.slots=#[])/\o.data=.set es ep t/\es.map (·.1)=hs/\t.fits es.size=true
section
variable {prog:Program} {w:World} {A:Around} {E:Value->Shared->Prop} {s:Shared} {S:Addr}
theorem JQ(es:Array (Int×Value)):(fun i=>(es[i]?.map (·.1)).getD 0)=JP (es.map (·.1)):=by
 funext i;unfold JP;rw[Array.getElem?_map]
theorem lx(es:Array (Int×Value))(p:Nat)(x:Int×Value):(SetTable.insertAt es p x).map (·.1)=SetTable.insertAt (es.map (·.1)) p x.1:=by
 unfold SetTable.insertAt;simp
theorem mC(es:Array (Int×Value))(iF:Array Nat):(iF.filterMap (es[·]?)).map (·.1)=iF.filterMap ((es.map (·.1))[·]?):=by
 apply Array.ext';rw[oM,rO,rO,List.map_filterMap];congr 1;funext i;rw[Array.getElem?_map]
theorem xV(hS:i9 s.heap S hs t)(hg:t.gaveWay=false)(hp:t.probe (JP hs) h (t.probeStart h)=some (.empty j none))(q:Q (.free j false) s):
  wpAny (model prog w) A (setSearch S x h true) Q E s:=by
 obtain⟨o,es,ep,ho,hc,VX,hd,hm,hf⟩:=hS;unfold setSearch setSearchFrom;refine ap (sj ho hd hf ?_);dsimp only;rw[hg,au cq];have Ik:t.probe (fun i=>(es[i]?.map (·.1)).getD 0) h (t.probeStart h)=some (.empty j none):=by rw[JQ,hm];exact hp
 refine ap (wpAny_pure ?_);erw[Ik];exact wpAny_pure q
theorem AF(ho:s.heap.get? a=some o)(hc:o.cls=.type "tuple")(hd:o.data=.seq #[.int x t,.int y u] n)(q:Q true s):
  wpAny (model prog w) A (hashByValue 8 (.ref a)) Q E s:=by
 have hT:s.TypeIs (.ref a) "tuple":=⟨_,ho,hc⟩
 unfold hashByValue;refine ap (wpAny_specialOf hT PySem.F.slot_tuple_hash.lookup ?_);refine ap (iT ho hd ?_);refine ap ?_;show wpAny _ _ (forIn #[Value.int x t,Value.int y u] _ _) _ _ s;rw[<-Array.forIn_toList];refine wpAny_forIn_list _ (fun qA r s'=>r.1=none/\s'=s/\∀v∈qA,∃z k,v=Value.int z k) _ ?_ ?_ _ _ ⟨rfl,rfl,fun v hv=>?_⟩
 .rintro v qA r s' ⟨hr,rfl,vh⟩;obtain⟨z,k,rfl⟩:=vh v ci;refine ap (wpAny_pure ?_);exact wpAny_pure ⟨rfl,rfl,fun u' CW=>vh u' (b8 _ CW)⟩
 .rintro⟨r1,r2⟩ s' ⟨hr,rfl,_⟩;have BF:r1=none:=hr;subst BF;exact wpAny_pure q
 .rcases bg.mp hv with z|z
  .exact⟨_,_,z⟩
  .rcases bg.mp z with z|z
   .exact⟨_,_,z⟩
   .cases z
theorem zk(hS:i9 s.heap S hs t)(hf:t'.fits ww.size=true)(hz:ww.size<=4096)(q:∀h',Heap.SameBut S s.heap h'->i9 h' S (ww.map (·.1)) t'->Q () { s with heap:=h' }):wpAny (model prog w) A (storeSet S ww t') Q E s:=by
 obtain⟨o,es,ep,ho,hc,VX,hd,hm,_⟩:=hS;refine wpAny_storeSet_of ho hd (q _ (Heap.SameBut.update s.heap S (Obj.putSet ww t')) ?_) (aY hz (by decide));have g:=oH (Obj.putSet ww t') ho (by rw[putSet_of ww t' hd];rfl);rw[putSet_of ww t' hd] at g;exact⟨_,ww,ep+1,g,hc,VX,rfl,rfl,hf⟩
theorem FV(hu:A.units<cLine)(hS:i9 s.heap S hs t)(ho:s.heap.get? a=some o)(hc:o.cls=.type "tuple")(hd:o.data=.seq #[.int x tx,.int y ty] n)(tK:a≠S)(jp:eK hs t (tupleKeyHash (intKind prog w) [x,y])=some (hs',t'))(q:∀h' tk,Heap.SameBut S s.heap h'->i9 h' S hs' t'->Q true { s with heap:=h',toks:=tk }):wpAny (model prog w) A (setAdd S (.ref a)) Q E s:=by
 have hk:IsTupleKey (intKind prog w) s.heap [x,y] a:=⟨o,_,n,ho,hc,hd,.cons (intKind_is _ _ _ _) (.cons (intKind_is _ _ _ _) .nil)⟩
 unfold setAdd;refine fK (ap (wpAny_pyHash_tuple hu hk ?_));generalize RS:s.toks+([x,y].length+1)=tk;generalize hh:tupleKeyHash (intKind prog w) [x,y]=h at jp |-;have VY:=hS;obtain⟨ob,es,ep,hb,Se,VZ,E2,hm,hf⟩:=hS;unfold setAddHashed setAddHashedIn;refine fK (ap (sj (s:={ s with toks:=tk }) hb E2 hf ?_));dsimp only;have L3:byScan (.ref a) es=false:=by unfold byScan;rfl
 rw[L3,au cq];unfold eK at jp;cases hg:t.gaveWay with
 |true=>rw[hg,aq rfl] at jp;cases jp
 |false=>
  rw[hg,au cq] at jp;split at jp
  .rename_i j hp;dsimp only at jp;split at jp
   .rename_i Qs;rw[gT,oI] at Qs;refine ap (xV (s:={ s with toks:=tk }) VY hg hp ?_);dsimp only;refine ap (sj (s:={ s with toks:=tk }) hb E2 hf ?_);dsimp only;have Yh:∀ {kk:Bool->Sem Bool},wpAny (model prog w) A (kk true) Q E { s with toks:=tk }->wpAny (model prog w) A (if (t.put j).1.plain=true then hashByValue 8 (.ref a) >>= kk else pure true >>= kk) Q E { s with toks:=tk }:=fun {kk} hP=>by
     split
     .exact ap (AF (s:={ s with toks:=tk }) ho hc hd hP)
     .exact ap (wpAny_pure hP)
    refine Yh ?_;simp only[iW];have kK:(SetTable.insertAt es (t.put j).2 (h,Value.ref a)).size=(SetTable.insertAt hs (t.put j).2 h).size:=by
     rw[<-hm,<-lx es (t.put j).2 (h,Value.ref a),hZ]
    refine ap (zk (s:={ s with toks:=tk }) VY (by rw[kK];exact Qs.1) (by rw[kK];exact Qs.2) fun h1 ra S1=>?_);rw[lx,hm] at S1;split at jp
    .rename_i Sf;rw[show (!false&&(t.put j).1.tooFull)=true by rw[Sf];rfl,aq rfl];split at jp
     .rename_i t2 iF hr;split at jp
      .rename_i hq;rw[gT,gT,oI,fm] at hq;obtain⟨⟨Il,Qt⟩,V0⟩:=hq;cases jp;have Yi:es.size=hs.size:=by rw[<-hm,hZ]
       refine ap ?_;unfold setRelay;obtain⟨o1,FW,ep1,g1,g2,g3,g4,g5,g6⟩:=id S1;refine ap (sj (s:={ s with heap:=h1,toks:=tk }) g1 g4 g6 ?_);dsimp only;rw[Yi];rw[au (by (have h4:(4096:Nat)<=sizeLine:=by decide);lia)];refine ap ?_;rw[g5,hr];have xW:(iF.filterMap (FW[·]?)).size=FW.size:=by
        have e1:=congrArg Array.size (mC FW iF);rw[hZ,g5] at e1;rw[e1,Il,<-g5,hZ]
       refine wpAny_of_eq (show _=(pure (iF.filterMap (FW[·]?),t'):Sem (Array (Int×Value)×SetTable)) from ?_) ?_
       .show (do
         let ww:=iF.filterMap (FW[·]?)
         if ww.size != FW.size then unsupported "internal:set-table-lost-an-element"
         pure (ww,t'):Sem (Array (Int×Value)×SetTable))=_
        simp[xW]
       dsimp only;have Sg:FW.size<=4096:=by
        have e1:=congrArg Array.size g5;rw[hZ] at e1;rw[e1];exact Qs.2
       have Yj:(iF.filterMap (FW[·]?)).size=(iF.filterMap ((SetTable.insertAt hs (t.put j).2 h)[·]?)).size:=by
        have e1:=congrArg Array.size (mC FW iF);rw[hZ,g5] at e1;exact e1
       refine zk (s:={ s with heap:=h1,toks:=tk }) S1 (by rw[Yj];exact Qt) (by rw[xW];exact Sg) fun h2 qr S2=>?_;rw[mC,g5] at S2;exact wpAny_pure (q h2 tk (ra.trans qr) S2)
      .cases jp
     .cases jp
    .rename_i Sf;cases jp;have Sh:(t.put j).1.tooFull=false:=by simpa using Sf
     rw[show (!false&&(t.put j).1.tooFull)=false by rw[Sh];rfl,au cq];exact wpAny_pure (q h1 tk ra S1)
   .cases jp
  .cases jp
end
section
variable {prog:Program} {w:World} {A:Around} {E:Value->Shared->Prop} {s:Shared} {S Ia l:Addr} {R:Result->Shared->Prop}
def io(h:Heap)(vs:List Value)(ys:List (Int×Int)):Prop:=vs.length=ys.length/\∀i v,vs[i]?=some v->∃a o n t u,v=.ref a/\h.get? a=some o/\o.cls=.type "tuple"/\o.data=.seq #[.int (ys.getD i (0,0)).1 t,.int (ys.getD i (0,0)).2 u] n
theorem io.keeps(p:io h vs ys)(k:∀b o,(∃xs n,o.data=.seq xs n)->h.get? b=some o->h'.get? b=some o):io h' vs ys:=
 ⟨p.1,fun i v e=>let ⟨a,o,n,t,u,e1,e2,c,d⟩:=p.2 i v e;⟨a,o,n,t,u,e1,k a o ⟨_,_,d⟩ e2,c,d⟩⟩
def dU(prog:Program)(w:World)(y:Int×Int):Int:=tupleKeyHash (intKind prog w) [y.1,y.2]
theorem CY(hh:A.handled=none)(hu:A.units+1<cLine)(Yk:l≠S)(Yl:l≠Ia)(Si:S≠Ia):
  ∀ (k i:Nat) (s:Shared) (hs:Array Int) (t:SetTable),vs.length-i=k->i<=vs.length->s.heap.IsListIter Ia l i->s.heap.IsList l vs.toArray->io s.heap vs ys->i9 s.heap S hs t->
   ((ys.drop i).map (dU prog w)).foldlM (fun q h=>eK q.1 q.2 h) (hs,t)=some (hsN,tN)->
   (∀h' tk,(∀b o,b≠S->b≠Ia->s.heap.get? b=some o->h'.get? b=some o)->i9 h' S hsN tN->R (.ok (.ret .none)) { s with heap:=h',toks:=tk })->
   codeAny (model prog w) A (.builtin "set.update.loop" ⟨[.ref S,.ref Ia],[]⟩) R s:=by
 intro k;induction k with
 |zero=>
  intro i s hs t hk hi o6 hl hp hS hf hR;have e:i=vs.length:=by lia
  refine oU BL ?_;rw[xk wB _];show wpAny _ A.in1 (pyNext (.ref Ia) >>= _) _ _ s;refine ap (wpAny_pyNext_list_end (show A.in1.handled=none from hh) o6 hl (by simp;lia) fun h' eb=>?_);show wpAny _ A.in1 (ret Value.none) _ _ _;have hd:ys.drop i=[]:=by rw[List.drop_eq_nil_iff];have:=hp.1;lia
  rw[hd] at hf;cases hf;obtain⟨o,es,ep,q1,q2⟩:=hS;exact wpAny_pure (hR h' s.toks (fun b o hb Qu e=>eb b o Qu e) ⟨o,es,ep,eb S o Si q1,q2⟩)
 |succ k ih=>
  intro i s hs t hk hi o6 hl hp hS hf hR;have dX:i<vs.length:=by lia
  refine oU BL ?_;rw[xk wB _];show wpAny _ A.in1 (pyNext (.ref Ia) >>= _) _ _ s;have hv:vs[i]?=some vs[i]:=cV dX;refine ap (wpAny_pyNext_list_item o6 hl (x:=vs[i]) (by simpa using hv) fun h1 Sj ra=>?_);obtain⟨a,o,n,tx,ty,ea,eo,ec,ed⟩:=hp.2 i _ hv;rw[ea];have V1:∀b ob,(∃xs n,ob.data=.seq xs n)->s.heap.get? b=some ob->b≠Ia:=fun b ob ⟨xs,m,z⟩ e z'=>by
   obtain⟨oi,e1,_,d1⟩:=o6;rw[z',e1] at e;cases e;rw[d1] at z;cases z
  have Sk:io h1 vs ys:=hp.keeps fun b ob hb e=>(ra.2 b (V1 b ob hb e)).trans e;have V2:i9 h1 S hs t:=by
   obtain⟨oS,es,ep,q1,q2⟩:=hS;exact⟨oS,es,ep,(ra.2 S Si).trans q1,q2⟩
  have L4:h1.IsList l vs.toArray:=by
   obtain⟨ol,q1,q2⟩:=hl;exact⟨ol,(ra.2 l Yl).trans q1,q2⟩
  have V3:h1.get? a=some o:=(ra.2 a (V1 a o ⟨_,_,ed⟩ eo)).trans eo;have V4:∀b ob,(∃xs n,ob.data=.seq xs n)->h1.get? b=some ob->b≠S:=fun b ob ⟨xs,m,z⟩ e z'=>by
   obtain⟨oS,es,ep,q1,_,_,q4,_⟩:=V2;rw[z',q1] at e;cases e;rw[q4] at z;cases z
  have JR:i<ys.length:=by have:=hp.1;lia
  have Ym:ys.drop i=ys[i]::ys.drop (i+1):=wG JR;have Yn:ys.getD i (0,0)=ys[i]:=by rw[dY,cV JR];rfl
  rw[Ym,fJ,List.foldlM_cons] at hf;cases jp:eK hs t (dU prog w ys[i]) with
  |none=>rw[jp] at hf;cases hf
  |some q=>
   obtain⟨tw,t2⟩:=q;rw[jp] at hf;have V5:((ys.drop (i+1)).map (dU prog w)).foldlM (fun q h=>eK q.1 q.2 h) (tw,t2)=some (hsN,tN):=hf;show wpAny _ A.in1 (holding [Value.ref a] (setAdd S (.ref a)) >>= _) _ _ _;refine ap (fK (FV (s:={ s with heap:=h1 }) (by show A.units+1<cLine;exact hu) V2 V3 ec ed (V4 a o ⟨_,_,ed⟩ V3) (hs':=tw) (t':=t2) (by rw[Yn];exact jp) fun h2 tk qr S2=>?_));refine wpAny_pure ⟨plainId_quiet wB _,?_⟩;refine ih (i+1) { s with heap:=h2,toks:=tk } tw t2 (by lia) dX ?_ ?_ (Sk.keeps fun b ob hb e=>(qr.2 b (V4 b ob hb e)).trans e) S2 V5 fun h3 Yo k3 S3=>?_
   .obtain⟨oi,q1,q2⟩:=Sj;exact⟨oi,(qr.2 Ia (dq Si)).trans q1,q2⟩
   .obtain⟨ol,q1,q2⟩:=L4;exact⟨ol,(qr.2 l Yk).trans q1,q2⟩
   .exact hR h3 Yo (fun b ob hb Qu e=>k3 b ob hb Qu ((qr.2 b hb).trans ((ra.2 b Qu).trans e))) S3
theorem CZ{vs:List Value}{ys:List (Int×Int)}{hsN:Bool->Array Int}{tN:Bool->SetTable}{Q:Value->Shared->Prop}(hh:A.handled=none)(hu:A.units+8<cLine)(hl:s.heap.IsList l vs.toArray)(hp:io s.heap vs ys)(AG:∀led,tT led (ys.map (dU prog w))=some (hsN led,tN led))(h:∀ (led:Bool) (h':Heap) (tk:Nat),i9 h' s.heap.objs.size (hsN led) (tN led)->(∀b o,b<s.heap.objs.size->s.heap.get? b=some o->h'.get? b=some o)->Q (.ref s.heap.objs.size) { s with heap:=h',toks:=tk }):
  wpAny (model prog w) A (call (.type "set") [.ref l]) Q E s:=by
 obtain⟨c,tl,Yp⟩:=mX.mro;have c1:=mX.made;have c2:=mX.sub;refine kh (codeAny_of_tree ?_);show wpAny _ _ (callAny (.type "set") _) _ _ _;refine wpAny_pure ⟨Code.quiet_builtin _ (by decide +kernel),oU PySem.F.entry_type_call ?_⟩;rw[Around.under_plain (weight_type_call_type "set" [.ref l] []) rfl];have c3:=mX.notType;have c4:=mX.canCreate;have c5:=PySem.F.typeCall_set_1 (.ref l);repeat (any_goals (first|assumption|wp_step))
 refine h_ (code_set_new_1 (.ref l) (E:=E) (Q₁:=fun obj s₁=>∃led:Bool,obj=.ref s.heap.objs.size/\s₁={ s with heap:=s.heap.push { cls:=.type "set",dict:=none,data:=.set #[] 0 (.fresh 0 0 led) } }) fun led=>⟨led,rfl,rfl⟩) fun r s₁ hr=>?_;cases r with
 |error e=>exact hr
 |ok fl=>
  cases fl with
  |next=>exact hr.elim
  |brk=>exact hr.elim
  |cont=>exact hr.elim
  |ret obj=>
   obtain⟨led,rfl,rfl⟩:=hr;generalize Sm:s.heap.push { cls:=.type "set",dict:=none,data:=.set #[] 0 (.fresh 0 0 led) }=hS;have kK:hS.objs.size=s.heap.objs.size+1:=by rw[<-Sm,iR]
   have gS:hS.get? s.heap.objs.size=some { cls:=.type "set",dict:=none,data:=.set #[] 0 (.fresh 0 0 led) }:=by rw[<-Sm];exact cC _ rfl
   have up:∀b o,s.heap.get? b=some o->hS.get? b=some o:=fun b o e=>by rw[<-Sm];exact bC _ e
   have hT:Shared.TypeIs { s with heap:=hS } (.ref s.heap.objs.size) "set":=⟨_,gS,rfl⟩
   have c6:=mX.init.lookup;have c7:=mX.init.bind (.ref s.heap.objs.size);repeat (any_goals (first|assumption|wp_step))
   refine h_ (xc (R:=wants (fun r s₂=>r=.none/\∃h' tk,s₂={ s with heap:=h',toks:=tk }/\i9 h' s.heap.objs.size (hsN led) (tN led)/\
     (∀b o,b<s.heap.objs.size->s.heap.get? b=some o->h'.get? b=some o)) E) mX.init.plain PySem.F.entry_set_init (check_set_init_1 hT ?_)) fun r₂ s₂ Nu=>?_
   .obtain⟨ol,Im,Ie,nl,V6⟩:=hl;obtain⟨Yq,V7,V8,Sn⟩:=ol;simp only at Ie V6;subst Ie;subst V6;have Sq:=up _ _ Im;have c8:=PySem.F.sub_list_set;have c9:=PySem.F.sub_list_frozenset;have c10:(Value.type "list"==Value.type "dict")=false:=by decide
    have L4:hS.IsList l vs.toArray:=⟨_,Sq,rfl,nl,rfl⟩
    unfold Builtin.«set.__init__» noKeywords Builtin.Frozenset.updateFrom;generalize Yr:pyIter=PI
    wp_walk
    subst Yr;refine sk L4 ?_;refine ap (wpAny_runValue ?_);have dX:l<s.heap.objs.size:=aQ Im;refine CY (l:=l) (vs:=vs) (ys:=ys) (hsN:=hsN led) (tN:=tN led) (by simp[hh]) (by simp;lia) (aT dX) (by rw[kK];exact aT (cr dX)) (by rw[kK];exact aT (gR _))
     (vs.length-0) 0 _ #[] (.fresh 0 0 led) rfl (cN _) ⟨_,cC _ rfl,rfl,rfl⟩ (L4.push _) (hp.keeps fun b o _ e=>bC _ (up b o e)) ⟨_,#[],0,bC _ gS,rfl,⟨rfl,rfl⟩,rfl,by simp,rfl⟩ (AG led) fun h' tk k S'=>?_
    show wpAny _ _ _ _ _ _;refine wpAny_pure ?_;show wpAny _ _ (ret Value.none) _ _ _;refine wpAny_pure ⟨rfl,h',tk,rfl,S',fun b o hb e=>?_⟩;exact k b o (aT hb) (by rw[kK];exact aT (cr hb)) (bC _ (up b o e))
   .cases r₂ with
    |error e=>exact Nu
    |ok Ys=>
     cases Ys with
     |next=>exact Nu.elim
     |brk=>exact Nu.elim
     |cont=>exact Nu.elim
     |ret r=>
      obtain⟨rfl,h',tk,rfl,S',k⟩:=Nu;repeat (any_goals (first|assumption|wp_step))
      exact h led h' tk S' k
end
open PySem
def C0(l:List Nat):Nat:=l.foldl (fun a x=>a ||| (1 <<< x)) 0
theorem AH(l:List Nat)(a j:Nat):(l.foldl (fun a x=>a ||| (1 <<< x)) a).testBit j=(a.testBit j||l.contains j):=by
 induction l generalizing a with
 |nil=>simp
 |cons x xs ih=>
  rw[sB,ih,Nat.testBit_or,List.contains_cons];have:(1 <<< x).testBit j=(j==x):=by
   rw[Nat.one_shiftLeft,Nat.testBit_two_pow];by_cases h:x=j
   .simp[h]
   .have h':¬ j=x:=fun e=>h e.symm;simp[h,h']
  rw[this,Bool.or_assoc]
theorem mZ(h:C0 l=2 ^ n-1)(hj:j<n):j∈l:=by
 have e:=AH l 0 j;have h':l.foldl (fun a x=>a ||| (1 <<< x)) 0=2 ^ n-1:=h;rw[h',Nat.testBit_two_pow_sub_one] at e;simp[hj] at e;exact e
def C1(M:Nat):Nat->Nat->Nat
 |0,i=>i
 |n+1,i=>C1 M n ((i*5+1) % M)
theorem nX(M a:Nat):∀b i,C1 M (b+a) i=C1 M a (C1 M b i)
 |0,i=>by rw[oY];rfl
 |b+1,i=>by
  rw[show b+1+a=(b+a)+1 by lia];show C1 M (b+a) _=C1 M a (C1 M b _);exact nX M a b _
def JS(M:Nat):Nat->Nat->List Nat
 |0,_=>[]
 |n+1,i=>i::JS M n ((i*5+1) % M)
theorem pJ:∀ {n i},j∈JS M n i->∃k,k<n/\C1 M k i=j
 |0,_,h=>by cases h
 |n+1,i,h=>by
  rcases bg.mp h with z|z
  .exact⟨0,by lia,z.symm⟩
  .obtain⟨k,a,b⟩:=pJ z;exact⟨k+1,by lia,b⟩
structure AI(M:Nat):Prop where
 all:C0 (JS M M 0)=2 ^ M-1
 back:C1 M M 0=0
theorem Sr:AI 8:=⟨by decide +kernel,by decide +kernel⟩
theorem Io:AI 32:=⟨by decide +kernel,by decide +kernel⟩
theorem C2:AI 128:=⟨by decide +kernel,by decide +kernel⟩
theorem C3:AI 512:=⟨by decide +kernel,by decide +kernel⟩
theorem AI.cover(R:AI M)(hi:i<M)(hj:j<M):∃n,n<M/\C1 M n i=j:=by
 obtain⟨a,ha,ea⟩:=pJ (mZ R.all hi);obtain⟨b,hb,eb⟩:=pJ (mZ R.all hj);by_cases h:a<=b
 .refine⟨b-a,by lia,?_⟩;rw[<-ea,<-nX,show a+(b-a)=b by lia,eb]
 .refine⟨M+b-a,by lia,?_⟩;rw[<-ea,<-nX,show a+(M+b-a)=M+b by lia,nX,R.back,eb]
def fq(mask:Nat):Nat->Nat×Nat->Nat×Nat
 |0,q=>q
 |n+1,q=>fq mask n (SetTable.leap mask q.1 q.2)
theorem rb(m a:Nat):∀b q,fq m (b+a) q=fq m a (fq m b q)
 |0,q=>by rw[oY];rfl
 |b+1,q=>by
  rw[show b+1+a=(b+a)+1 by lia];exact rb m a b _
theorem vv:∀ {n:Nat} {q:Nat×Nat},q.1<m+1->(fq m n q).1<m+1
 |0,_,h=>h
 |n+1,q,h=>vv (n:=n) (ie _ (Nat.succ_pos _))
theorem zm:∀ {n:Nat} {q:Nat×Nat},(fq m n q).2=q.2 / 32 ^ n
 |0,_=>by simp[fq]
 |n+1,q=>by
  show (fq m n _).2=_;rw[zm];show q.2 / 32 / 32 ^ n=_;rw[lT,Nat.pow_succ,Nat.mul_comm]
theorem rd:∀ {n i:Nat},fq m n (i,0)=(C1 (m+1) n i,0)
 |0,_=>rfl
 |n+1,i=>by
  show fq m n (SetTable.leap m i 0)=_;unfold SetTable.leap;simp only[Nat.zero_div,kg];exact rd
theorem m6(R:AI (m+1))(hi:i<m+1)(hp:p<2 ^ 64)(hj:j<m+1):∃n,n<m+14/\(fq m n (i,p)).1=j:=by
 have h1:=vv (m:=m) (n:=13) (q:=(i,p)) hi;have h2:(fq m 13 (i,p)).2=0:=by
  rw[zm];exact xn (bz hp (by decide))
 obtain⟨n,hn,e⟩:=R.cover h1 hj;refine⟨13+n,by lia,?_⟩;rw[rb];have:fq m 13 (i,p)=((fq m 13 (i,p)).1,0):=ig rfl h2;rw[this,rd];exact e
theorem zn(h:Int):SetTable.bits h<2 ^ 64:=by
 unfold SetTable.bits;have a:=l7 h (show (2 ^ 64:Int)≠0 by decide);have b:=lX h (show (0:Int)<2 ^ 64 by decide);lia
theorem Nv{M:Nat}{l:List Nat}(h:l.length<M):∃j,j<M/\j∉l:=by
 have key:∀ (a b:List Nat),a.Nodup->(∀x∈a,x∈b)->a.length<=b.length:=by
  intro a;induction a with
  |nil=>intro b _ _;exact cN _
  |cons x xs ih=>
   intro b hn hs;obtain⟨h1,h2⟩:=iC.mp hn;have hx:x∈b:=hs x ci;have:=ih (b.erase x) h2 fun y hy=>(List.mem_erase_of_ne (fun (e:y=x)=>h1 (e ▸ hy))).mpr (hs y (b8 _ hy));rw[BU hx] at this;have:0<b.length:=List.length_pos_of_mem hx;rw[cM];lia
 apply rN;intro Cz;have:=key (List.range M) l si fun x hx=>rN fun AJ=>Cz ⟨x,dv.mp hx,AJ⟩;rw[kX] at this;lia
def xX(mask i p:Nat):SetTable.Probe:={ j:=i,more:=SetTable.runEnd mask i-i,i:=i,perturb:=p,dummy:=none }
theorem JT(mask i:Nat):SetTable.runEnd mask i-i<=9:=by unfold SetTable.runEnd;split <;> lia
theorem tU{t:SetTable}(hd:t.dummies=#[])(j:Nat):t.slot j=.empty\/∃i,t.slot j=.live i/\t.place[i]?=some j:=by
 unfold SetTable.slot;dsimp only;split
 .rename_i h;exact .inr ⟨_,rfl,by simpa using h⟩
 .left;rw[hd];rfl
theorem xY{t:SetTable}(hd:t.dummies=#[]){j:Nat}(h:j∉t.place.toList):t.slot j=.empty:=by
 rcases tU hd j with e|⟨i,_,e2⟩
 .exact e
 .exact absurd (by rw[<-jO] at e2;exact cT e2) h
section
variable {t:SetTable} {hashAt:Nat->Int} {h:Int}
theorem C4(hd:t.dummies=#[])(hh:∀i,i<t.place.size->hashAt i≠h)(i p:Nat):∀ (r:Nat) (j eU:Nat),
  (∃j',SetTable.probe.go t hashAt h (eU+r+1) { j:=j,more:=r,i:=i,perturb:=p,dummy:=none }=some (.empty j' none))\/
  SetTable.probe.go t hashAt h (eU+r+1) { j:=j,more:=r,i:=i,perturb:=p,dummy:=none }=SetTable.probe.go t hashAt h eU (xX t.mask (SetTable.leap t.mask i p).1 (SetTable.leap t.mask i p).2)
 |0,j,eU=>by
  rcases tU hd j with e|⟨k,e,e2⟩
  .exact .inl ⟨j,by unfold SetTable.probe.go;rw[e]⟩
  .right;have hk:k<t.place.size:=(oA.mp e2).1;conv=>lhs;unfold SetTable.probe.go
   rw[e];simp only[fm,hh k hk,eZ];rfl
 |r+1,j,eU=>by
  rcases tU hd j with e|⟨k,e,e2⟩
  .exact .inl ⟨j,by rw[show eU+(r+1)+1=(eU+r+1)+1 by lia];unfold SetTable.probe.go;rw[e]⟩
  .have hk:k<t.place.size:=(oA.mp e2).1;have st:SetTable.probe.go t hashAt h (eU+(r+1)+1) { j:=j,more:=r+1,i:=i,perturb:=p,dummy:=none }=SetTable.probe.go t hashAt h (eU+r+1) { j:=j+1,more:=r,i:=i,perturb:=p,dummy:=none }:=by
    rw[show eU+(r+1)+1=(eU+r+1)+1 by lia];conv=>lhs;unfold SetTable.probe.go
    rw[e];simp only[fm,hh k hk,eZ];rfl
   rw[st];exact C4 hd hh i p r (j+1) eU
theorem zo(hd:t.dummies=#[])(hh:∀i,i<t.place.size->hashAt i≠h):∀ (m:Nat) (i p eU:Nat),10*(m+1)<=eU->t.slot (fq t.mask m (i,p)).1=.empty->
  ∃j',SetTable.probe.go t hashAt h eU (xX t.mask i p)=some (.empty j' none)
 |0,i,p,eU,hf,e=>by
  obtain⟨f,rfl⟩:∃f,eU=f+1:=⟨eU-1,by lia⟩
  refine⟨i,?_⟩;have e':t.slot i=.empty:=e;unfold SetTable.probe.go xX;dsimp only;rw[e']
 |m+1,i,p,eU,hf,e=>by
  have hr:=JT t.mask i;obtain⟨f,FX⟩:∃f,eU=f+(SetTable.runEnd t.mask i-i)+1:=⟨eU-(SetTable.runEnd t.mask i-i)-1,by lia⟩
  rcases C4 (hashAt:=hashAt) (h:=h) hd hh i p (SetTable.runEnd t.mask i-i) i f with z|z
  .rw[FX];exact z
  .rw[FX];show ∃j',SetTable.probe.go t hashAt h _ { j:=i,more:=_,i:=i,perturb:=p,dummy:=none }=_;rw[z];exact zo hd hh m _ _ f (by lia) e
theorem xZ(R:AI (t.mask+1))(hd:t.dummies=#[])(hs:t.place.size<=t.mask)(hh:∀i,i<t.place.size->hashAt i≠h):∃j,t.probe hashAt h (t.probeStart h)=some (.empty j none):=by
 obtain⟨j,hj,hn⟩:=Nv (M:=t.mask+1) (l:=t.place.toList) (by simpa using Nat.lt_succ_of_le hs);obtain⟨m,hm,e⟩:=m6 R (ie (SetTable.bits h) (Nat.succ_pos t.mask)) (zn h) hj;refine zo hd hh m _ _ _ ?_ (by rw[e];exact xY hd hn);unfold SetTable.turns;lia
end
theorem C5{α β:Type}{f:α->Option β}:∀ {l:List α},(∀q∈l,(f q).isSome=true)->(l.filterMap f).length=l.length
 |[],_=>rfl
 |q::l,h=>by
  have hq:=h q ci;cases e:f q with
  |none=>rw[e] at hq;cases hq
  |some b=>rw[BW e,cM,cM,C5 fun x hx=>h x (b8 _ hx)]
theorem re:∀ (m eU i p:Nat),m<eU->owner.getD (fq mask m (i,p)).1 (some 0)=none->∃j,SetTable.layClean.free mask owner eU i p=some j/\owner.getD j (some 0)=none
 |m,0,_,_,h,_=>by lia
 |m,eU+1,i,p,h,e=>by
  unfold SetTable.layClean.free;cases hf:(List.range (SetTable.runEnd mask i+1-i)).find? fun k=>(owner.getD (i+k) (some 0)).isNone with
  |some k=>
   refine⟨i+k,rfl,?_⟩;have:=List.find?_some hf;simpa using this
  |none=>
   cases m with
   |zero=>
    have h0:(0:Nat)∈List.range (SetTable.runEnd mask i+1-i):=dv.mpr (by unfold SetTable.runEnd;split <;> lia);have:=List.find?_eq_none.mp hf 0 h0;have e':owner.getD i (some 0)=none:=e;rw[kg,e'] at this;exact absurd rfl this
   |succ m=>
    exact re m eU _ _ (by lia) e
structure vw(M:Nat)(owner:Array (Option Nat))(k:Nat):Prop where
 size:owner.size=M
 cnt:owner.toList.countP Option.isSome=k
 lt:∀x,some x∈owner.toList->x<k
theorem x0{l:List (Option Nat)}{j:Nat}{x:Nat}(hj:l[j]?=some none):(l.set j (some x)).countP Option.isSome=l.countP Option.isSome+1:=by
 induction l generalizing j with
 |nil=>cases hj
 |cons a l ih=>
  cases j with
  |zero=>
   obtain rfl:a=none:=by simpa using hj
   simp
  |succ j=>
   rw[List.set_cons_succ,xq,xq,ih (by simpa using hj)];lia
theorem vw.one{mask:Nat}{owner:Array (Option Nat)}{k:Nat}(L:vw (mask+1) owner k)(R:AI (mask+1))(hk:k<mask+1)(h:Int):
  ∃j,SetTable.layClean.free mask owner (SetTable.turns mask) (SetTable.bits h % (mask+1)) (SetTable.bits h)=some j/\vw (mask+1) (owner.setIfInBounds j (some k)) (k+1):=by
 have Cz:∃j,j<mask+1/\owner.toList[j]?=some none:=by
  apply rN;intro Cz;have vh:∀x∈owner.toList,x.isSome=true:=by
   intro x hx;obtain⟨j,hj,e⟩:=oG.mp hx;cases x with
   |some _=>rfl
   |none=>
    refine absurd ⟨j,?_,?_⟩ Cz
    .rw[<-L.size];simpa using hj
    .rw[cV hj,e]
  have:=List.countP_eq_length.mpr vh;rw[L.cnt,f8,L.size] at this;lia
 obtain⟨j0,Yt,e0⟩:=Cz;obtain⟨m,hm,em⟩:=m6 R (ie (SetTable.bits h) (Nat.succ_pos mask)) (zn h) Yt;obtain⟨j,ej,en⟩:=re (mask:=mask) (owner:=owner) m (SetTable.turns mask) (SetTable.bits h % (mask+1)) (SetTable.bits h) (by unfold SetTable.turns;lia)
  (by rw[em,rL,<-jO,e0];rfl)
 refine⟨j,ej,?_⟩;have Yu:owner.toList[j]?=some none:=by
  rw[rL,<-jO] at en;cases hq:owner.toList[j]? with
  |none=>rw[hq] at en;cases en
  |some v=>rw[hq] at en;rw[show v=none from en]
 have Nw:(owner.setIfInBounds j (some k)).toList=owner.toList.set j (some k):=by simp
 refine⟨by simp[L.size],by rw[Nw,x0 Yu,L.cnt],fun x hx=>?_⟩;rw[Nw] at hx;rcases List.mem_or_eq_of_mem_set hx with z|z
 .exact cr (L.lt x z)
 .cases z;exact gR _
theorem zq(R:AI (mask+1)):∀ (l:List Int) (owner:Array (Option Nat)) (k:Nat),vw (mask+1) owner k->k+l.length<=mask->
  ∃C6,l.foldl (fun dz h=>do
   let (owner,k) <- dz
   let j <- SetTable.layClean.free mask owner (SetTable.turns mask) (SetTable.bits h % (mask+1)) (SetTable.bits h)
   pure (owner.setIfInBounds j (some k),k+1)) (some (owner,k))=some (C6,k+l.length)/\vw (mask+1) C6 (k+l.length)
 |[],owner,k,L,_=>⟨owner,rfl,L⟩
 |h::l,owner,k,L,hl=>by
  rw[cM] at hl;obtain⟨j,ej,L'⟩:=L.one R (by lia) h;obtain⟨o',e,L2⟩:=zq R l _ _ L' (by lia);refine⟨o',?_,by rw[cM,show k+(l.length+1)=k+1+l.length by lia];exact L2⟩;rw[sB];have:(do
   let (owner,k) <- some (owner,k)
   let j <- SetTable.layClean.free mask owner (SetTable.turns mask) (SetTable.bits h % (mask+1)) (SetTable.bits h)
   pure (owner.setIfInBounds j (some k),k+1):Option (Array (Option Nat)×Nat))=some (owner.setIfInBounds j (some k),k+1):=by
   show (SetTable.layClean.free mask owner (SetTable.turns mask) (SetTable.bits h % (mask+1)) (SetTable.bits h)).bind _=_;rw[ej];rfl
  rw[this,e,cM,show k+(l.length+1)=k+1+l.length by lia]
theorem vx(R:AI (mask+1))(hs:Array Int)(h:hs.size<=mask):∃owner,SetTable.layClean mask hs=some owner/\vw (mask+1) owner hs.size:=by
 have L0:vw (mask+1) (Array.replicate (mask+1) none) 0:=⟨by simp,by simp[List.countP_replicate],fun x hx=>by simp at hx⟩
 obtain⟨o,e,L⟩:=zq R hs.toList _ 0 L0 (by simpa using h);refine⟨o,?_,by simpa using L⟩;unfold SetTable.layClean;rw[<-Array.foldl_toList];have e':=congrArg (Option.map (·.1)) e;exact e'
theorem x_(L:vw M owner n):
  ((List.range M).filterMap fun j=>(owner.getD j none).map (j,·)).length=n/\∀q∈(List.range M).filterMap (fun j=>(owner.getD j none).map (j,·)),q.2<n:=by
 constructor
 .rw[<-L.cnt];have e:owner.toList=(List.range M).map fun j=>owner.getD j none:=by
   apply List.ext_getElem
   .simp[L.size]
   .intro i h1 h2;simp only[List.getElem_map,List.getElem_range,wZ];rw[rL,wH (by simpa using h1)];rfl
  conv=>rhs;rw[e]
  rw[List.countP_map];generalize List.range M=l;induction l with
  |nil=>rfl
  |cons a l ih=>
   rw[xq,<-ih];cases hq:owner.getD a none with
   |none=>rw[List.filterMap_cons_none (by rw[hq];rfl),show (Option.isSome ∘ fun j=>owner.getD j none) a=false by show (owner.getD a none).isSome=false;rw[hq];rfl];simp
   |some x=>rw[BW (b:=(a,x)) (by rw[hq];rfl),show (Option.isSome ∘ fun j=>owner.getD j none) a=true by show (owner.getD a none).isSome=true;rw[hq];rfl];simp
 .intro q hq;obtain⟨j,_,e⟩:=j7.mp hq;cases hx:owner.getD j none with
  |none=>rw[hx] at e;cases e
  |some x=>
   rw[hx] at e;cases e;refine L.lt x ?_;rw[rL,<-jO] at hx;cases hy:owner.toList[j]? with
   |none=>rw[hy] at hx;cases hx
   |some v=>rw[hy] at hx;obtain rfl:v=some x:=hx;exact cT hy
structure vy(hs:Array Int)(t:SetTable):Prop where
 dm:t.dummies=#[]
 sz:t.place.size=hs.size
 ms:(t.mask=7/\hs.size<=4)\/(t.mask=31/\hs.size<=18)\/(t.mask=127/\hs.size<=76)\/(t.mask=511/\hs.size<=306)
theorem vy.Yv(T:vy hs t):AI (t.mask+1):=by
 rcases T.ms with ⟨e,_⟩|⟨e,_⟩|⟨e,_⟩|⟨e,_⟩ <;> rw[e]
 .exact Sr
 .exact Io
 .exact C2
 .exact C3
theorem jV(xs:Array α)(p:Nat)(x:α):(SetTable.insertAt xs p x).size=xs.size+1:=by
 unfold SetTable.insertAt;simp;lia
theorem lA(h:y∈(SetTable.insertAt xs p x).toList):y=x\/y∈xs.toList:=by
 unfold SetTable.insertAt at h;rw[mV,iB,wY,wY] at h;rcases cf.mp h with z|z
 .rcases cf.mp z with z|z
  .right;rw[List.extract_eq_drop_take] at z;exact rQ (oF z)
  .left;simpa using z
 .right;rw[List.extract_eq_drop_take] at z;exact rQ (oF z)
theorem ya{hs:Array Int}{t:SetTable}{h:Int}(T:vy hs t)(hn:h∉hs.toList)(hl:hs.size<300):∃hs' t',eK hs t h=some (hs',t')/\vy hs' t'/\hs'.size=hs.size+1/\∀x∈hs'.toList,x=h\/x∈hs.toList:=by
 have Sg:t.place.size<=t.mask:=by rw[T.sz];rcases T.ms with ⟨e,z⟩|⟨e,z⟩|⟨e,z⟩|⟨e,z⟩ <;> lia
 have hh:∀i,i<t.place.size->JP hs i≠h:=by
  intro i hi e;rw[T.sz] at hi;unfold JP at e;rw[wH hi] at e;exact hn (by rw[<-e];simp)
 obtain⟨j,hp⟩:=xZ (hashAt:=JP hs) (h:=h) T.Yv T.dm Sg hh;have hg:t.gaveWay=false:=by
  unfold SetTable.gaveWay;rcases T.ms with ⟨e,_⟩|⟨e,_⟩|⟨e,_⟩|⟨e,_⟩ <;> rw[e] <;> rfl
 have q1:(t.put j).1.place=SetTable.insertAt t.place (SetTable.below t.place j) j:=rfl;have q2:(t.put j).1.dummies=#[]:=by
  show (if SetTable.has t.dummies j=true then _ else t.dummies)=_;rw[T.dm];rfl
 have q3:(t.put j).1.mask=t.mask:=rfl;have s1:(SetTable.insertAt hs (t.put j).2 h).size=hs.size+1:=jV _ _ _;have s2:(t.put j).1.place.size=hs.size+1:=by rw[q1,jV,T.sz]
 have fl:(t.put j).1.fill=hs.size+1:=by unfold SetTable.fill;rw[s2,q2];rfl
 have Yw:(t.put j).1.fits (SetTable.insertAt hs (t.put j).2 h).size=true:=by
  unfold SetTable.fits;rw[s1,s2,fl,q3];simp;rcases T.ms with ⟨e,z⟩|⟨e,z⟩|⟨e,z⟩|⟨e,z⟩ <;> lia
 unfold eK;rw[hg,au cq,hp];dsimp only;rw[aq (by rw[Yw,s1];simp;lia)];by_cases hf:(t.put j).1.tooFull=true
 .rw[aq hf];have FX:=hf;unfold SetTable.tooFull at FX;rw[fl,q3] at FX;have V5:(hs.size+1)*5>=t.mask*3:=by simpa using FX
  have gr:SetTable.grown (hs.size+1)=(hs.size+1)*4:=by unfold SetTable.grown;rw[au (by lia)]
  obtain⟨m2,V9,Ss,R2⟩:∃m2,SetTable.sizeAbove (SetTable.grown (hs.size+1))=m2+1/\((m2=31/\hs.size+1<=18)\/(m2=127/\hs.size+1<=76)\/(m2=511/\hs.size+1<=306))/\AI (m2+1):=by
   rw[gr];rcases T.ms with ⟨e,z⟩|⟨e,z⟩|⟨e,z⟩|⟨e,z⟩
   .have:hs.size=4:=by lia
    exact⟨31,by rw[this];rfl,.inl ⟨rfl,by lia⟩,Io⟩
   .have:hs.size=18:=by lia
    exact⟨127,by rw[this];rfl,.inr (.inl ⟨rfl,by lia⟩),C2⟩
   .have:hs.size=76:=by lia
    exact⟨511,by rw[this];rfl,.inr (.inr ⟨rfl,by lia⟩),C3⟩
   .lia
  have V_:(SetTable.insertAt hs (t.put j).2 h).size<=m2:=by rw[s1];rcases Ss with ⟨e,z⟩|⟨e,z⟩|⟨e,z⟩ <;> lia
  obtain⟨owner,eo,L⟩:=vx R2 (SetTable.insertAt hs (t.put j).2 h) V_;obtain⟨Nx,Su⟩:=x_ L;rw[s1] at Nx Su;generalize Ny:(List.range (m2+1)).filterMap (fun j=>(owner.getD j none).map (j,·))=live at Nx Su;have er:(t.put j).1.relaid (SetTable.insertAt hs (t.put j).2 h) (SetTable.grown (hs.size+1))=some ({ mask:=m2,place:=(live.map (·.1)).toArray,dummies:=#[],finger:=(t.put j).1.finger,led:=(t.put j).1.led,moves:=(t.put j).1.movedTo m2,plain:=(t.put j).1.plain },(live.map (·.2)).toArray):=by
   unfold SetTable.relaid SetTable.laid;rw[V9];simp only[Nat.add_sub_cancel];rw[eo];show some _=some _;rw[<-Ny]
  rw[er];dsimp only;have xW:((live.map (·.2)).toArray.filterMap ((SetTable.insertAt hs (t.put j).2 h)[·]?)).size=hs.size+1:=by
   rw[<-f8,rO];show ((live.map (·.2)).filterMap _).length=_;rw[<-Nx,List.filterMap_map];refine C5 fun q hq=>?_;show ((SetTable.insertAt hs (t.put j).2 h)[q.2]?).isSome=true;rw[wH (by rw[s1];exact Su q hq)];rfl
  have Yx:∀x,({ mask:=m2,place:=(live.map (·.1)).toArray,dummies:=#[],finger:=(t.put j).1.finger,led:=(t.put j).1.led,moves:=(t.put j).1.movedTo m2,plain:=(t.put j).1.plain }:SetTable).fits x=(decide (hs.size+1=x)&&decide (hs.size+1<=m2)):=by
   intro x;unfold SetTable.fits SetTable.fill;simp[Nx];rw[l8];simp
  rw[aq (by
   rw[xW,s1,Yx,V9];have:hs.size+1<=m2:=by rw[<-s1];exact V_
   simp[this];rcases Ss with ⟨e,z⟩|⟨e,z⟩|⟨e,z⟩ <;> lia)]
  refine⟨_,_,rfl,⟨rfl,?_,?_⟩,xW,fun x hx=>?_⟩
  .rw[xW];simp[Nx]
  .rw[xW];exact .inr Ss
  .rw[rO] at hx;obtain⟨k,_,ek⟩:=j7.mp hx;refine lA (p:=(t.put j).2) ?_;rw[<-jO] at ek;exact cT ek
 .rw[au hf];refine⟨_,_,rfl,⟨q2,by rw[s2,s1],?_⟩,s1,fun x hx=>lA hx⟩;have FX:¬ (hs.size+1)*5>=t.mask*3:=by
   intro z;refine hf ?_;unfold SetTable.tooFull;rw[fl,q3];simpa using z
  rw[s1,q3];rcases T.ms with ⟨e,z⟩|⟨e,z⟩|⟨e,z⟩|⟨e,z⟩ <;> lia
theorem m9:∀ (l:List Int) (hs:Array Int) (t:SetTable),vy hs t->(∀x∈l,x∉hs.toList)->l.Nodup->hs.size+l.length<=300->∃hs' t',l.foldlM (fun q h=>eK q.1 q.2 h) (hs,t)=some (hs',t')/\hs'.size=hs.size+l.length
 |[],hs,t,_,_,_,_=>⟨hs,t,rfl,rfl⟩
 |h::l,hs,t,T,hn,nd,hl=>by
  rw[cM] at hl;obtain⟨n1,n2⟩:=iC.mp nd;obtain⟨Ij,t1,e1,T1,z1,m1⟩:=ya T (hn h ci) (by lia);obtain⟨tw,t2,e2,z2⟩:=m9 l Ij t1 T1 (fun x hx hy=>by
   rcases m1 x hy with e|e
   .exact n1 (e ▸ hx)
   .exact hn x (b8 _ hx) e) n2 (by lia)
  refine⟨tw,t2,?_,by rw[z2,z1,cM];lia⟩;rw[List.foldlM_cons];show (eK hs t h).bind _=_;rw[e1];exact e2
theorem AK(led:Bool)(nd:l.Nodup)(hl:l.length<=300):∃hs t,tT led l=some (hs,t)/\hs.size=l.length:=by
 obtain⟨hs,t,e,z⟩:=m9 l #[] (SetTable.fresh 0 0 led) ⟨rfl,rfl,.inl ⟨rfl,by decide⟩⟩ (fun x _ h=>by simp at h) nd (by simpa using hl);exact⟨hs,t,e,by simpa using z⟩
def zu:List Nat->Nat->Bool
 |[],_=>true
 |x::xs,dz=>bif Nat.testBit dz x then false else zu xs (dz ||| (1 <<< x))
theorem vz:∀ (l:List Nat) (dz:Nat),zu l dz=true->l.Nodup/\∀x∈l,dz.testBit x=false
 |[],_,_=>⟨xv,fun x h=>(nomatch h)⟩
 |x::xs,dz,h=>by
  unfold zu at h;cases hb:dz.testBit x with
  |true=>rw[hb] at h;cases h
  |false=>
   rw[hb] at h;obtain⟨nd,hx⟩:=vz xs _ h;have Wa:∀y∈xs,dz.testBit y=false/\y≠x:=by
    intro y hy;have:=hx y hy;rw[Nat.testBit_or,Nat.one_shiftLeft,Nat.testBit_two_pow] at this;rw[Bool.or_eq_false_iff] at this;exact⟨this.1,fun e=>by have:=this.2;simp[e] at this⟩
   refine⟨iC.mpr ⟨fun hm=>(Wa x hm).2 rfl,nd⟩,fun y hy=>?_⟩;rcases bg.mp hy with z|z
   .rw[z];exact hb
   .exact(Wa y z).1
def pK:List (Int×Int):=(List.range 32).flatMap fun a=>(List.range 32).map fun b=>(Int.ofNat a,Int.ofNat b)
def Ip(h:Int):Nat:=(h % 6554).toNat
theorem AL(P:Program)(w:World):zu (pK.map fun y=>Ip (dU P w y)) 0=true:=by kernel_rfl
theorem zw(h1:0<=y.1/\y.1<32)(h2:0<=y.2/\y.2<32):y∈pK:=by
 unfold pK;refine xp.mpr ⟨y.1.toNat,dv.mpr (by lia),bu.mpr ⟨y.2.toNat,dv.mpr (by lia),ig ?_ ?_⟩⟩
 .show ((y.1.toNat:Nat):Int)=y.1;lia
 .show ((y.2.toNat:Nat):Int)=y.2;lia
theorem jW:∀ {l:List α},(l.map f).Nodup->∀x∈l,∀y∈l,f x=f y->x=y
 |[],_,_,h,_,_,_=>by cases h
 |a::l,h,x,hx,y,hy,e=>by
  rw[fJ] at h;obtain⟨h1,h2⟩:=iC.mp h;rcases bg.mp hx with z|z <;> rcases bg.mp hy with z'|z'
  .rw[z,z']
  .exact absurd (bu.mpr ⟨y,z',by rw[<-e,z]⟩) h1
  .exact absurd (bu.mpr ⟨x,z,by rw[e,z']⟩) h1
  .exact jW h2 x z y z' e
theorem tV(hx:(0<=x.1/\x.1<32)/\(0<=x.2/\x.2<32))(hy:(0<=y.1/\y.1<32)/\(0<=y.2/\y.2<32))(e:dU P w x=dU P w y):x=y:=
 jW (vz _ _ (AL P w)).1 x (zw hx.1 hx.2) y (zw hy.1 hy.2) (congrArg Ip e)
theorem mD:∀ {l:List α},l.Nodup->(∀x∈l,∀y∈l,f x=f y->x=y)->(l.map f).Nodup
 |[],_,_=>xv
 |a::l,h,hf=>by
  obtain⟨h1,h2⟩:=iC.mp h;rw[fJ];refine iC.mpr ⟨fun z=>?_,mD h2 fun x hx y hy=>hf x (b8 _ hx) y (b8 _ hy)⟩;obtain⟨y,hy,e⟩:=bu.mp z;have:=hf y (b8 _ hy) a ci e;exact h1 (this ▸ hy)
theorem vA{P:Program}{w:World}(led:Bool){ys:List (Int×Int)}(nd:ys.Nodup)(hr:∀y∈ys,(0<=y.1/\y.1<32)/\(0<=y.2/\y.2<32))(hl:ys.length<=300):
  ∃hs t,tT led (ys.map (dU P w))=some (hs,t)/\hs.size=ys.length:=by
 obtain⟨hs,t,e,z⟩:=AK led (mD nd fun x hx y hy e=>tV (P:=P) (w:=w) (hr x hx) (hr y hy) e) (by rw[aZ];exact hl);exact⟨hs,t,e,by rw[z,aZ]⟩
theorem zx:∀ {as:List Addr} {its:List Value},aP (as.map V.ref) its->its=as.map Value.ref
 |[],_,r=>by cases r;rfl
 |a::as,_,r=>by
  cases r with
  |cons r rr=>
   obtain rfl:=(show _=Value.ref a from r)
   rw[zx rr];rfl
def FY(D:Addr)(n:Nat):HO:=.ext fun h=>∃hs t,i9 h D hs t/\hs.size=n
section
variable {X:Cx}
def Nz(K:PySem.W.Frag):List V->Hp->VK->Prop:=fun xs H Q=>∃ (l:Addr) (as:List Addr) (ys:List (Int×Int)),xs=[.ref l]/\a_ K H l (as.map V.ref)/\as.length=ys.length/\
 (∀i,i<ys.length->CV K H (as.getD i 0) (ys.getD i (0,0)))/\ys.Nodup/\(∀y∈ys,(0<=y.1/\y.1<32)/\(0<=y.2/\y.2<32))/\ys.length<=300/\∀D,H D=none->Q (.ref D) (upd H D (FY D ys.length))
theorem AM(hc:X.calm=true)(hu:X.A.units+8<cLine):eR X (.type "set") (Nz X.K):=by
 intro ae s σ H xs us Q I r h;obtain⟨l,as,ys,rfl,hl,eD,hp,nd,rg,h3,q⟩:=h;obtain⟨u1,rfl,r1⟩:=r.one;obtain rfl:u1=Value.ref l:=r1;obtain⟨its,rv,pl,hz⟩:=I.list hl;have e:=zx rv;subst e;have Yy:io s.heap (as.map Value.ref) ys:=⟨by rw[aZ,eD],fun i v hv=>by
  rw[bi] at hv;cases ea:as[i]? with
  |none=>rw[ea] at hv;cases hv
  |some a=>
   rw[ea] at hv;obtain rfl:Value.ref a=v:=bt hv;have hi:i<as.length:=(cL.mp ea).1;obtain⟨o,n,t,u,e1,c,d⟩:=xU I (hp i (by lia));have eg:as.getD i 0=a:=by rw[dY,ea];rfl
   rw[eg] at e1;exact⟨a,o,n,t,u,rfl,e1,c,d⟩⟩
 have AG:∀led,∃q:Array Int×SetTable,tT led (ys.map (dU X.prog X.w))=some q/\q.1.size=ys.length:=fun led=>
  let ⟨hs,t,e,z⟩:=vA (P:=X.prog) (w:=X.w) led nd rg h3;⟨(hs,t),e,z⟩
 refine CZ (I.ok.hd hc) hu pl.isList Yy (hsN:=fun led=>(AG led).choose.1) (tN:=fun led=>(AG led).choose.2) (fun led=>(AG led).choose_spec.1) fun led h' tk S' k=>?_;refine⟨.ref s.heap.objs.size,_,I.CM (t':=tk) (o:=FY s.heap.objs.size ys.length) (fun b u e=>k b u (aQ e) e) (rX (a9 _)) ⟨⟨_,_,S',(AG led).choose_spec.2⟩,?_,fun h1 h2 ⟨hs,t,⟨o,es,ep,q1,q2⟩,z⟩ kk=>⟨hs,t,⟨o,es,ep,kk o q1,q2⟩,z⟩⟩,rfl,q _ I.fresh⟩;obtain⟨o,_,_,q1,_⟩:=S';exact⟨o,q1⟩
theorem vB:eR X (.builtin "len") (fun xs H Q=>∃D n,xs=[.ref D]/\H D=some (FY D n)/\n<=4096/\Q (.int n) H):=by
 intro ae s σ H xs us Q I r h;obtain⟨D,n,rfl,e,hn,q⟩:=h;obtain⟨u1,rfl,r1⟩:=r.one;obtain rfl:u1=Value.ref D:=r1;obtain⟨⟨hs,t,⟨o,es,ep,q1,q2,q3,q4,q5,q6⟩,z⟩,_⟩:=(show cw X.prog X.w H s.heap D (FY D n) from I.bq D _ e)
 have kK:es.size=n:=by rw[<-z,<-q5,hZ]
 exact call_len_set q1 ⟨q2,q3.1,q3.2⟩ q4 q6 (by rw[kK];lia) ⟨.int n,H,I.tok _,⟨_,by rw[kK]⟩,q⟩
theorem AN(hc:X.calm=true):eR X (.builtin "any") (fun xs H Q=>∃ (p:Addr) (bs:List Bool),xs=[.ref p]/\a_ X.K H p (bs.map V.bl)/\Q (.bl (bs.any id)) H):=by
 intro ae s σ H xs us Q I r h;obtain⟨p,bs,rfl,hp,q⟩:=h;obtain⟨u1,rfl,r1⟩:=r.one;obtain rfl:u1=Value.ref p:=r1;obtain⟨its,rv,pl,hz⟩:=I.list hp;have JU:its=bs.map Value.bool:=by
  have go:∀ (bs:List Bool) (its:List Value),aP (bs.map V.bl) its->its=bs.map Value.bool:=by
   intro bs;induction bs with
   |nil=>intro its r;cases r;rfl
   |cons b bs ih=>
    intro its r;cases r with
    |cons r rr=>
     obtain rfl:=(show _=Value.bool b from r)
     rw[ih _ rr];rfl
  exact go bs its rv
 subst JU;obtain⟨ob,Yz,_⟩:=id pl.isList;have dX:p<s.heap.objs.size:=aQ Yz;refine call_any_walk (sk pl.isList ⟨s.heap.objs.size,_,_,_,_,_,fun i=>bs.getD i false,rfl,Walks.list (show X.A.in1.handled=none from I.ok.hd hc) _ p (aT dX) _,⟨⟨_,cC _ rfl,rfl,rfl⟩,pl.isList.push _⟩,fun i v s1 Q' E' hv hq=>?_,fun h' tk k=>?_⟩)
 .have Jt:(bs.map Value.bool)[i]?=some v:=by simpa using hv
  rw[bi] at Jt;cases eb:bs[i]? with
  |none=>rw[eb] at Jt;cases Jt
  |some b=>
   rw[eb] at Jt;obtain rfl:Value.bool b=v:=bt Jt;have:bs.getD i false=b:=by rw[dY,eb];rfl
   have Au:Q' b s1:=by rw[<-this];exact hq
   exact wpAny_pure Au
 .have keep:∀b o,s.heap.get? b=some o->h'.get? b=some o:=fun b o e=>k b o (by simpa using aT (aQ e)) (bC _ e);refine⟨.bl (bs.any id),H,I.kept (t':=tk) keep,?_,q⟩;show Value.bool _=Value.bool _;congr 1;have go:∀ (bs:List Bool),((List.range bs.length).any fun i=>bs.getD i false)=bs.any id:=by
   intro bs;induction bs with
   |nil=>rfl
   |cons b bs ih=>
    rw[cM,wS,sG,List.any_map,sG,<-ih];rfl
  rw[<-go bs];simp
end
def rf(c:Addr)(qual:Str):HO:=.ext fun h=>h.CodeRec (.ref c) qual
theorem C_(x:h.CodeRec (.ref c) qual):cw P w H h c (rf c qual):=by
 refine⟨x,?_,?_⟩
 .obtain⟨c',o,vs,t,e,ho,_⟩:=x;cases e;exact⟨o,ho⟩
 .rintro h1 h2 ⟨c',o,vs,t,e,ho,r⟩ k;cases e;exact⟨c,o,vs,t,rfl,k o ho,r⟩
def Iq(f:Addr)(qual:Str)(params:Arguments)(body:Expr)(scope:Scope)(cells:List (Str×Addr))(c:Addr)(h:Heap):Prop:=
 ∃ (i_:List (Str×Addr)) (pm zy:Value),(∀x a,i_.lookup x=some a->cells.lookup x=some a)/\(∀x,(x,NameKind.free)∈scope.names->∃a,i_.lookup x=some a)/\
  h.get? f=some (PySem.W.kla_obj "<lambda>" qual params body scope i_ pm c zy)
def yb(f:Addr)(qual:Str)(params:Arguments)(body:Expr)(scope:Scope)(cells:List (Str×Addr))(c:Addr):HO:=.ext (Iq f qual params body scope cells c)
theorem zz(x:Iq f qual params body scope cells c h):
  cw P w H h f (yb f qual params body scope cells c):=by
 refine⟨x,?_,?_⟩
 .obtain⟨_,_,_,_,_,e⟩:=x;exact⟨_,e⟩
 .rintro h1 h2 ⟨i_,pm,zy,a,b,e⟩ k;exact⟨i_,pm,zy,a,b,k _ e⟩
def rh(lp:Pos)(qual:Str)(P:Addr)(H:Hp):Prop:=H P=some (.nQ #[])\/∃c,H P=some (.nQ #[rawInt lp.line,rawInt lp.col,.ref c])/\H c=some (rf c qual)
structure FZ(X:Cx)(c P:Addr):Prop where
 code:X.env.code=.ref c
 hd:PySem.W.CodeHd X.base c P
 bm:∃bm o,X.mg "__builtins__"=some (.ref bm)/\bm≠builtinsNs/\bm≠mainGlobals/\X.base.get? bm=some o/\o.cls=.type "module"/\o.dict=some builtinsNs/\o.data=.plain
def Sv(lp:Pos)(qual:Str)(P:Addr)(params:Arguments)(body:Expr)(scope:Scope)(cells:List (Str×Addr)):TE:=fun _ H Q=>rh lp qual P H/\
 ∀ (f c:Addr) (H2:Hp),rh lp qual P H2->(∀b o,H b=some o->b≠P->H2 b=some o)->H2 c=some (rf c qual)->H2 f=some (yb f qual params body scope cells c)->Q (.ref f) H2
theorem vC{lp:Pos}{c:Addr}:TriplesOk (#[rawInt lp.line,rawInt lp.col,.ref c]:Array Value).toList:=trivial
theorem AO:codeAmong lp (#[rawInt lp.line,rawInt lp.col,.ref c]:Array Value).toList=some (.ref c):=by
 show (if ((lp.line:Int)==(lp.line:Int)&&(lp.col:Int)==(lp.col:Int))=true then some (Value.ref c) else _)=_;simp
section
variable {X:Cx} {c P:Addr} {params:Arguments} {body:Expr} {scope:Scope} {lp:Pos} {NB:List Str} {src:List (Option Nat)}
theorem FZ.at(C:FZ X c P)(I:aF X ae σ H s)(hP:H P=some (.nQ ps)):s.heap.BuiltinsAt X.mg P:=by
 obtain⟨bm,o,b1,b2,b3,b4,b5,b6,b7⟩:=C.bm;refine⟨bm,o,b1,b2,b3,fun z=>?_,I.bk _ _ b4,b5,b6,b7⟩;have:=(I.bs _ _ b4).2;rw[z,hP] at this;cases this
theorem aF.Ir(I:aF X ae σ H s):s.heap.Ns mainGlobals X.mg:=I.mod.glob.keeps I.bk
theorem JV(C:FZ X c P)(S:eS NB src scope X)(Sw:defaultsOf params X.env=([],[]):=by rfl):PE X (.Lambda params body scope lp) (Sv lp (X.env.qual++"<lambda>") P params body scope X.env.cells):=by
 intro ae s σ H Q I h;obtain⟨YA,h⟩:=h;obtain⟨i_,Wb,c1,c2⟩:=il I.ok S;refine PySem.W.kla_eval Sw ?_;have kK:∀b o,s.heap.get? b=some o->b<s.heap.objs.size:=fun b o e=>aQ e;rcases YA with hP|⟨c',hP,Ji⟩
 .-- YB first time
  have NA:s.heap.get? P=some (PySem.W.tabObj #[]):=I.bq P _ hP;have YC:X.env.locals≠P:=fun z=>by have f:=I.free;rw[z,hP] at f;cases f
  have YD:mainGlobals≠P:=fun z=>by
   obtain⟨o,es,ep,e,d,_⟩:=I.mod.glob;have:=(I.bs _ _ e).2;rw[z,hP] at this;cases this
  refine PySem.W.kla_makeFunction (mg:=X.mg) Wb I.ok.glob I.Ir C.code (C.hd.keeps I.bk) NA (by trivial) rfl YD (C.at I hP) fun c' zy h' tk hx F0 dX Sx Qv=>?_;have F1:∀b o,b≠P->s.heap.get? b=some o->(h'.push (PySem.W.kla_obj "<lambda>" (X.env.qual++"<lambda>") params body scope i_ ((X.mg "__name__").getD .none) c' zy)).get? b=some o:=fun b o hb e=>bC _ (hx b o hb e);have YE:c'≠P:=gu (bz (kK _ _ NA) F0);have YF:h'.objs.size≠P:=gu (bz (kK _ _ NA) (aY F0 (iE dX)));have YG:h'.objs.size≠c':=gu dX;have nf:H h'.objs.size=none:=I.bq.fresh (by lia);have nc:H c'=none:=I.bq.fresh F0
  let H2:Hp:=upd (upd (upd H P (.nQ #[rawInt lp.line,rawInt lp.col,.ref c'])) c' (rf c' (X.env.qual++"<lambda>"))) h'.objs.size (yb h'.objs.size (X.env.qual++"<lambda>") params body scope X.env.cells c')
  have eP:H2 P=some (.nQ #[rawInt lp.line,rawInt lp.col,.ref c']):=by
   show upd _ _ _ _=_;rw[ao YF.symm,ao YE.symm,ag]
  have ec:H2 c'=some (rf c' (X.env.qual++"<lambda>")):=by
   show upd _ _ _ _=_;rw[ao YG.symm,ag]
  have ef:H2 h'.objs.size=some (yb h'.objs.size (X.env.qual++"<lambda>") params body scope X.env.cells c'):=ag;have eo:∀b,b≠P->b≠c'->b≠h'.objs.size->H2 b=H b:=fun b h1 h2 h3=>by
   show upd _ _ _ _=_;rw[ao h3,ao h2,ao h1]
  have kY:∀b o,H b=some o->b≠P->H2 b=some o:=fun b o e hb=>by
   rw[eo b hb (am e nc) (am e nf)];exact e
  have I2:aF X ae σ H2 { s with heap:=h'.push (PySem.W.kla_obj "<lambda>" (X.env.qual++"<lambda>") params body scope i_ ((X.mg "__name__").getD .none) c' zy),toks:=tk }:=by
   refine I.step (g':=s.gens) (d':=s.drawn) (ch:=[]) (fun _ z=>absurd z (by simp)) (fun b o _ _ _ e n=>F1 b o (fun z=>by rw[z,hP] at n;cases n) e) (fun b o _ _ _ e n=>⟨o.slots,F1 b o (fun z=>by rw[z,hP] at n;cases n) e⟩)
    (fun b o _ e n=>?_) (fun b o _ e=>?_) (fun b xs e=>kY b _ e fun z=>by rw[z,hP] at e;cases e) (fun b o u e=>kY b _ e fun z=>by rw[z,hP] at e;cases e) (fun b ps e=>?_) (fun m hm=>?_) (fun b o e=>?_) I.bare
   .rw[eo b (fun z=>by rw[z,hP] at n;cases n) (aT (bz (kK b o e) F0)) (aT (bz (kK b o e) (aY F0 (iE dX))))];exact n
   .by_cases hb:b=P
    .exact⟨_,by rw[hb];exact bC _ Qv⟩
    .exact⟨o,F1 b o hb e⟩
   .by_cases hb:b=P
    .rw[hb] at e |-;rw[hP] at e;cases e;exact⟨#[rawInt lp.line,rawInt lp.col,.ref c'],by rw[eP];simp⟩
    .exact⟨#[],by rw[kY b _ e hb];simp⟩
   .exact(hm.extBut hx YC).push _
   .by_cases Wc:b=h'.objs.size
    .subst Wc;rw[ef] at e;cases e;exact zz ⟨i_,_,zy,c1,c2,cC _ rfl⟩
    .by_cases Se:b=c'
     .subst Se;rw[ec] at e;cases e;refine C_ ?_;obtain⟨c₂,oc,vs,t,e2,LW,r⟩:=Sx;exact⟨c₂,oc,vs,t,e2,bC _ LW,r⟩
     .by_cases Sy:b=P
      .subst Sy;rw[eP] at e;cases e;exact bC _ Qv
      .rw[eo b Sy Se Wc] at e;refine(I.bq b o e).km (fun d u hd q=>F1 d u ?_ q) (fun d q=>kY d _ q fun z=>by rw[z,hP] at q;cases q) fun d xs q=>kY d _ q fun z=>by rw[z,hP] at q;cases q
       rintro rfl;rcases hd with z|z
       .exact Sy z.symm
       .rw[hP] at z;cases z
  exact⟨.ref h'.objs.size,H2,I2,rfl,h _ c' H2 (.inr ⟨c',eP,ec⟩) kY ec ef⟩
 .-- again
  have NA:s.heap.get? P=some (PySem.W.tabObj #[rawInt lp.line,rawInt lp.col,.ref c']):=I.bq P _ hP;refine PySem.W.kla_makeFunctionHit (mg:=X.mg) Wb I.ok.glob I.Ir C.code (C.hd.keeps I.bk) NA vC AO (C.at I hP) fun zy h' tk hk F0=>?_;have nf:H h'.objs.size=none:=I.bq.fresh F0
  let H2:Hp:=upd H h'.objs.size (yb h'.objs.size (X.env.qual++"<lambda>") params body scope X.env.cells c')
  have ef:H2 h'.objs.size=some (yb h'.objs.size (X.env.qual++"<lambda>") params body scope X.env.cells c'):=ag;have kY:∀b o,H b=some o->H2 b=some o:=fun b o e=>by
   show upd _ _ _ _=_;rw[ao (am e nf)];exact e
  have F1:∀b o,s.heap.get? b=some o->(h'.push (PySem.W.kla_obj "<lambda>" (X.env.qual++"<lambda>") params body scope i_ ((X.mg "__name__").getD .none) c' zy)).get? b=some o:=fun b o e=>bC _ (hk b o e);have I2:aF X ae σ H2 { s with heap:=h'.push (PySem.W.kla_obj "<lambda>" (X.env.qual++"<lambda>") params body scope i_ ((X.mg "__name__").getD .none) c' zy),toks:=tk }:=by
   refine I.step (g':=s.gens) (d':=s.drawn) (ch:=[]) (fun _ z=>absurd z (by simp)) (fun b o _ _ _ e n=>F1 b o e) (fun b o _ _ _ e n=>⟨o.slots,F1 b o e⟩)
    (fun b o _ e n=>?_) (fun b o _ e=>⟨o,F1 b o e⟩) (fun b xs e=>kY b _ e) (fun b o u e=>kY b _ e) (fun b ps e=>⟨#[],by rw[kY b _ e];simp⟩) (fun m hm=>(hm.keeps hk).push _) (I.bq.laid F1 F0 (zz ⟨i_,_,zy,c1,c2,cC _ rfl⟩)) I.bare
   .show upd _ _ _ _=_;rw[ao (aT (bz (kK b o e) F0))];exact n
  exact⟨.ref h'.objs.size,H2,I2,rfl,h _ c' H2 (.inr ⟨c',kY _ _ hP,kY _ _ Ji⟩) (fun b o e _=>kY b o e) (kY _ _ Ji) ef⟩
end
def Da(X:Cx)(id:String)(ks:List Str)(r:St->List V->List V->Hp->VK->Prop):Prop:=
 ∀ (ae:List (Addr×Obj)) (s:Shared) (σ:St) (H:Hp) (vs zs:List V) (us ws:List Value) (Q:VK),aF X ae σ H s->aP vs us->aP zs ws->r σ vs zs H Q->
  wpAny (model X.prog X.w) X.A (call (.builtin id) us (ks.zip ws)) (EP X ae σ Q) X.xe s
def Sz(r:St->List V->List V->Hp->VK->Prop)(t tk:TA):TE:=fun σ H Q=>t σ H fun vs H1=>tk σ H1 fun zs H2=>r σ vs zs H2 Q
section
variable {X:Cx} {x:Str} {p pos:Pos} {e:Expr} {es:List Expr} {Cs:List Keyword} {t tk:TA} {id:String} {ks:List Str} {r:St->List V->List V->Hp->VK->Prop}
theorem AQ(hc:Da X id ks r)(hg:Gl X x)(hm:X.mg x=none)(hv:bootBuiltins x=some (.builtin id))(ha:PA X (e::es) t)(YH:PK X Cs tk)(hn:x≠"__name__":=by decide)(pA:(x==("__debug__":Str))=false:=by decide)(YI:(backToKw pos (keywordEach Cs X.env)).filterMap (·.1)=ks:=by rfl)(he:backTo pos (starEach (e::es) X.env)=(false,eval e X.env)::backTo pos (starEach es X.env):=by rfl)(xP:(backTo pos (starEach (e::es) X.env)).any (·.1)=false:=by rfl)(vh:(backToKw pos (keywordEach Cs X.env)).all (·.1.isSome)=true:=by rfl)(Cz:(backToKw pos (keywordEach Cs X.env)).any (·.1.isNone)=false:=by rfl):PE X (.Call (.Name x p) (e::es) Cs pos) (Sz r t tk):=by
 intro ae s σ H Q I h;refine j8 (kq I hg hm hv ?_ hn pA);refine PyProof.Rows.callWith_kw (cE (ha pos ae s σ H _ I h) fun us s1 ⟨vs,H1,I1,r1,q1⟩=>?_) he xP vh Cz;refine cE (YH pos ae s1 σ H1 _ I1 q1) fun ws s2 ⟨zs,H2,I2,rz,q2⟩=>?_;rw[YI];exact hc ae s2 σ H2 vs zs us ws Q I2 r1 rz q2
end
def JW(za zb:Int)(ns out:List Int):Prop:=∃ps:List (Int×Int),ps.Perm (ns.map fun z=>((z-za) % zb,z))/\out=ps.map (·.2)/\ps.Pairwise fun p q=>p.1<=q.1
def JX(X:Cx)(qual:Str)(params:Arguments)(body:Expr)(scope:Scope)(ia ib:Nat):St->List V->List V->Hp->VK->Prop:=fun σ vs zs H Q=>
 ∃ (l f c:Addr) (ns:List Int) (za zb:Int),vs=[.ref l]/\zs=[.ref f]/\a_ X.K H l (ns.map V.int)/\ns.length<64/\H f=some (yb f qual params body scope X.env.cells c)/\H c=some (rf c qual)/\
  σ[ia]?=some (some (.int za))/\σ[ib]?=some (some (.int zb))/\0<zb/\∀ (r:Addr) (out:List Int),H r=none->JW za zb ns out->Q (.ref r) (upd H r (.lst (out.map V.int)))
theorem rj:∀ {ns:List Int} {vs:List Value},aP (ns.map V.int) vs->IntsAre vs ns
 |[],_,.nil=>.nil
 |_::_,_,.cons ⟨t,e⟩ r=>by subst e;exact .cons _ t (rj r)
structure NC(X:Cx)(qual:Str)(params:Arguments)(body:Expr)(scope:Scope)(y a b:Str)(ia ib:Nat):Prop where
 bd:∃p1 p2 p3 p4 p5,body=.BinOp (.BinOp (.Name y p1) .Sub (.Name a p2) p3) .Mod (.Name b p4) p5
 bind:∀i_ pm c zy v,bindArgs (PySem.W.kla_fn "<lambda>" qual params body scope i_ pm (.ref c) zy) ⟨[v],[]⟩=pure [(y,v)]
 na:X.N[ia]?=some a
 nb:X.N[ib]?=some b
 ca:X.env.scope.names.lookup a=some .cell
 cb:X.env.scope.names.lookup b=some .cell
 ly:scope.names.lookup y=some .local
 fa:scope.names.lookup a=some .free
 fb:scope.names.lookup b=some .free
 ma:(a,NameKind.free)∈scope.names
 mb:(b,NameKind.free)∈scope.names
 JY:∀z∈scope.names,z.2≠.cell
 kind:scope.kind=.function
 co:scope.isCoroutine=false
 gen:scope.isGenerator=false
 dy:(y==("__debug__":Str))=false
 da:(a==("__debug__":Str))=false/\(a==("__classdict__":Str))=false
 db:(b==("__debug__":Str))=false/\(b==("__classdict__":Str))=false
theorem yc(S:NC X qual params body scope y a b ia ib)(hr:bK k X.A):
  Da X "sorted" ["key"] (JX X qual params body scope ia ib):=by
 intro ae s σ H vs zs us ws Q I r rz h;obtain⟨l,f,c,ns,za,zb,rfl,rfl,hl,ND,hf,hc,sa,sb,hb0,q⟩:=h;obtain⟨u1,rfl,r1⟩:=r.one;obtain rfl:u1=Value.ref l:=r1;obtain⟨w1,rfl,YJ⟩:=rz.one;obtain rfl:w1=Value.ref f:=YJ;obtain⟨its,rv,pl,hz⟩:=I.list hl;have hI:=rj rv;obtain⟨m,F⟩:=I.fr;obtain⟨p1,p2,p3,p4,p5,rfl⟩:=S.bd;obtain⟨i_,pm,zy,c1,c2,Na⟩:=(I.bq f _ hf).1;have YK:s.heap.CodeRec (.ref c) qual:=(I.bq c _ hc).1;obtain⟨m',HW,Wd⟩:=I.loc;have NE:∃ca ta,i_.lookup a=some ca/\s.heap.IsCell ca (some (.int za ta)):=by
  obtain⟨u,⟨ta,rfl⟩,lk⟩:=Wd ia a (.int za) S.na sa (.inr (.inl S.ca));obtain⟨ca,e1⟩:=c2 a S.ma;rcases lk with ⟨z,_⟩|⟨_,ca',e2,e3⟩
  .have z':X.env.scope.names.lookup a=some .local:=z;rw[S.ca] at z';cases z'
  .have e4:=c1 a ca e1;rw[e2] at e4;cases e4;exact⟨ca,ta,e1,e3⟩
 have NF:∃cb tb,i_.lookup b=some cb/\s.heap.IsCell cb (some (.int zb tb)):=by
  obtain⟨u,⟨tb,rfl⟩,lk⟩:=Wd ib b (.int zb) S.nb sb (.inr (.inl S.cb));obtain⟨cb,e1⟩:=c2 b S.mb;rcases lk with ⟨z,_⟩|⟨_,cb',e2,e3⟩
  .have z':X.env.scope.names.lookup b=some .local:=z;rw[S.cb] at z';cases z'
  .have e4:=c1 b cb e1;rw[e2] at e4;cases e4;exact⟨cb,tb,e1,e3⟩
 obtain⟨ca,ta,ea,ha⟩:=NE;obtain⟨cb,tb,eb,hb⟩:=NF;have Qw:∀b' (o:Obj),s.heap.get? b'=some o->(∀es ep,o.data≠.dict es ep)->b'≠X.env.locals:=fun b' o e d z=>by
  obtain⟨o',es,ep,e',d',_⟩:=F.ns;rw[z,e'] at e;cases e;exact d _ _ d'
 have len:(ns.map fun z=>(z-za) % zb).length=its.length:=by rw[aZ,hI.length]
 refine ksk_sorted (b:=false) (f:=.ref f) (kz:=ns.map fun z=>(z-za) % zb) F u_ pl.isList len (by rw[hI.length];exact ND) (ksk_s1 _ _) (fun x=>ksk_l1 _ _) (fun x=>ksk_t1 _ _) ?_ ?_
 .-- one key
  intro i v k hv hk h tk own F' N';have at_:∀b' u,b'≠X.env.locals->s.heap.get? b'=some u->h.get? b'=some u:=fun b' u tK e=>by
   cases z:X.base.get? b' with
   |some o=>
    have:=I.bk b' o z;rw[e] at this;cases this;exact F'.keep b' _ z
   |none=>exact(N' (b',u) (gO _ (gf tK z e))).1
  have SA:=at_ f _ (Qw f _ Na (by intro es ep z;cases z)) Na;have SB:h.CodeRec (.ref c) qual:=by
   obtain⟨c0,o,YL,t0,e0,ho,hd,YM⟩:=YK;refine⟨c0,o,YL,t0,e0,at_ _ _ (Qw _ _ ho (by rw[hd];intro es ep z;cases z)) ho,hd,YM⟩
  have FN:h.IsCell ca (some (.int za ta)):=by
   obtain⟨o,ho,hd⟩:=ha;exact⟨o,at_ _ _ (Qw _ _ ho (by rw[hd];intro es ep z;cases z)) ho,hd⟩
  have qF:h.IsCell cb (some (.int zb tb)):=by
   obtain⟨o,ho,hd⟩:=hb;exact⟨o,at_ _ _ (Qw _ _ ho (by rw[hd];intro es ep z;cases z)) ho,hd⟩
  obtain⟨z,tz,rfl,rfl⟩:∃z tz,v=.int z tz/\k=(z-za) % zb:=by
   obtain⟨n,t,e⟩:=hI.all v (cT hv);refine⟨n,t,e,?_⟩;rw[bi] at hk;have hn:=hI.nums;have e1:(its.map numOf)[i]?=some n:=by rw[bi,hv,e];rfl
   rw[hn] at e1;rw[e1] at hk;exact(bt hk).symm
  have NG:X.A.in1.in1.depth<recursionLimit:=by
   have:=hr.dp;show X.A.depth<_;lia
  refine kh (PySem.W.kla_callFunE NG SA rfl S.co S.gen rfl SB ?_);rw[S.bind];refine wpAny_pure (wpAny_newFunctionEnv S.JY (fun x hx=>by rw[cX.mp hx];exact S.ly) (fun h₁ yd We=>⟨((I.ok.mod.nolimit).keeps F'.keep).fresh _ We,?_⟩) S.kind);have NI:∀b o,h.get? b=some o->h₁.get? b=some o:=fun b o e=>We.extBut b o (aT (aQ e)) (bC _ e);have YN:=FN.keeps NI;have YO:=qF.keeps NI;refine PySem.W.kla_codeExpr ?_;refine wpAny_BinOp (wpAny_BinOp ?_);refine md (xb S.kind S.ly yd (v:=.int z tz) (by simp) ?_) S.dy;refine md (xm S.kind S.fa ea YN ?_ S.da.2) S.da.1;refine sub_int ?_;refine md (xm S.kind S.fb eb YO ?_ S.db.2) S.db.1;refine mod_int' (by lia) ?_;rw[wD _ (by lia)];refine KskEnd.intro (news':=ge X.base s.heap X.env.locals++own) ⟨F'.ns.keeps NI,fun b o e=>NI b o (F'.keep b o e),F'.above⟩ (fun p hp=>⟨NI _ _ (N' p hp).1,(N' p hp).2⟩) fun p hp=>hp
 .-- YB list
  intro D h' tk out cc F' N' dX SC;have hD:=qH I N' dX;obtain⟨ps,hp,ho,hs⟩:=SC;have FQ:∀p∈ps,∃n t,p.2=.int n t:=fun p Ik=>by
   have:=hp.mem_iff.mp Ik;exact hI.all _ (l6 this).2
  have SD:((ns.map fun z=>(z-za) % zb).zip its).map (fun p=>(p.1,numOf p.2))=ns.map fun z=>((z-za) % zb,z):=by
   have hn:=hI.nums;rw[<-hn];have go:∀ (l:List Value),((((l.map numOf).map fun z=>(z-za) % zb).zip l).map fun p=>(p.1,numOf p.2))=(l.map numOf).map fun z=>((z-za) % zb,z):=by
    intro l;induction l with
    |nil=>rfl
    |cons x l ih=>simp only[fJ,List.zip_cons_cons,ih]
   exact go its
  have CG:aP ((ps.map fun p=>(p.1,numOf p.2)).map (fun p=>V.int p.2)) (ps.map Prod.snd):=by
   have go:∀ (l:List (Int×Value)),(∀p∈l,∃n t,p.2=.int n t)->aP ((l.map fun p=>(p.1,numOf p.2)).map (fun p=>V.int p.2)) (l.map Prod.snd):=by
    intro l;induction l with
    |nil=>intro _;exact .nil
    |cons x l ih=>
     intro hx;refine .cons ?_ (ih fun p hp=>hx p (b8 _ hp));obtain⟨n,t,e⟩:=hx x ci;show ∃t,x.2=Value.int (numOf x.2) t;rw[e];exact⟨t,rfl⟩
   exact go ps FQ
  have AR:JW za zb ns ((ps.map fun p=>(p.1,numOf p.2)).map (·.2)):=by
   refine⟨ps.map fun p=>(p.1,numOf p.2),?_,rfl,?_⟩
   .rw[<-SD];exact hp.map _
   .refine f9.mpr (hs.imp fun {p q} z=>?_);simpa using z
  have YQ:h'.get? D=some (seqObj "list" out cc):=(N' _ ci).1;have I2:aF X ae σ (upd H D (.lst (((ps.map fun p=>(p.1,numOf p.2)).map (·.2)).map V.int))) { s with heap:=h',toks:=tk }:=by
   refine I.Nt F F' (fun p hp=>N' p (b8 _ hp)) hD ⟨?_,ps.map Prod.snd,cc,?_,?_⟩
   .have h1:=hp.length_eq;rw[List.length_zip,len,Nat.min_self] at h1;simp only[aZ];rw[h1,hI.length];exact aY (iE ND) (by decide)
   .have ev:=CG;simp only[eO] at ev |-;exact ev
   .rw[YQ,<-ho]
  exact⟨.ref D,_,I2,rfl,q D _ (I.bq.mB hD) AR⟩
def tW(mg:Str->Option Value)(base:Heap):Prop:=∃bm o,mg "__builtins__"=some (.ref bm)/\bm≠builtinsNs/\bm≠mainGlobals/\base.get? bm=some o/\o.cls=.type "module"/\o.dict=some builtinsNs/\o.data=.plain
def zA(ts:List Addr)(H:Hp):Prop:=(∀P∈ts,H P=some (.nQ #[]))/\∀b,H b=none\/(b∈ts/\H b=some (.nQ #[]))\/∃o xs,H b=some (.qR o (.lst xs))
theorem AS{P:Program}{w:World}{K:PySem.W.Frag}{mg mb:Str->Option Value}{CX:nu}{k:Nat}{fa a:Addr}{fd:FuncData}{x:Str}{sp:Sp}{s₁:Shared}{vs:List Value}{ns:List Int}{ts:List Addr}(KX:K.In s₁.heap)(yd:s₁.heap.Ns mainGlobals mg)(hb:s₁.heap.Ns builtinsNs mb)(Qx:∀x:Str,x≠"__name__"->mb x=bootBuiltins x)(SE:s₁.heap.NoLimit)(hg:s₁.gens=#[])(Qy:tW mg s₁.heap)(NJ:∀P∈ts,s₁.heap.get? P=some (PySem.W.tabObj #[]))(mY:∀P∈ts,∃c,PySem.W.codeHdIn K c P=true)(SF:∀P∈ts,K.lookup P=none)(ha:s₁.heap.get? a=some { cls:=.type "list",data:=.seq vs.toArray })(hi:IntsAre vs ns)(hl:ns.length<=sizeLine)(hr:bK k callerA)(F:∀base:Heap,K.In base->base.Ns mainGlobals mg->tW mg base->be P w K mg base CX k fa fd [x] sp)(NK:∀ (s:Shared) (u:Value),BindsTo s fd ⟨[u],[]⟩ [(x,u)])(vf:∀H:Hp,zA ts H->a_ K H a (ns.map V.int)->sp [.ref a] H (fun v _=>v=.bl true) fun _ _ _=>False)(SG:∀H e s',CX [] H s₁ (fun _ _ _=>False) e s'->False):
  codeAny (model P w) callerA (.call (.ref fa) ⟨[.ref a],[]⟩) (fun r s'=>r=.ok (.ret (.bool true))/\OldK s₁.heap s'.heap/\s'.os=s₁.os/\AllBare s'.gens) s₁:=by
 have rv:=mv hi;have SH:=hi.length;have Wf:a∉ts:=fun z=>by
  have:=NJ a z;rw[ha] at this;cases this
 have NL:∀H:Hp,zA ts H->a_ K H a (ns.map V.int)->kl P w H s₁.heap->(∀b,H b≠none->b=a\/b∈ts)->(H a≠none->K.lookup a=none)->
   codeAny (model P w) callerA (.call (.ref fa) ⟨[.ref a],[]⟩) (fun r s'=>r=.ok (.ret (.bool true))/\OldK s₁.heap s'.heap/\s'.os=s₁.os/\AllBare s'.gens) s₁:=by
  intro H hO hS bq hA hK;have tX:∀ {b:Addr} {o:Obj},s₁.heap.get? b=some o->H b=none->(qz s₁.heap H).get? b=some o:=fun e n=>B1 e n;have E6:∀ {b:Addr} {o:Obj},s₁.heap.get? b=some o->(∀v n,o.data≠.seq v n)->(∀v,o.data≠.fields v)->H b=none:=fun {b o} e d1 d2=>by
   cases q:H b with
   |none=>rfl
   |some u=>
    rcases hA b (by rw[q];simp) with e'|e'
    .subst e';rw[ha] at e;cases e;exact absurd rfl (d1 _ _)
    .rw[NJ b e'] at e;cases e;exact absurd rfl (d2 _)
  have Qz:∀ {b:Addr} {m:Str->Option Value},s₁.heap.Ns b m->(qz s₁.heap H).Ns b m:=fun {b m} ⟨o,es,ep,e,d,r⟩=>⟨o,es,ep,tX e (E6 e (by rw[d];intro v n z;cases z) (by rw[d];intro v z;cases z)),d,r⟩
  have Wg:K.In (qz s₁.heap H):=fun b o e=>tX (KX b o e) (by
   cases q:H b with
   |none=>rfl
   |some u=>
    rcases hA b (by rw[q];simp) with e'|e'
    .subst e';rw[hK (by rw[q];simp)] at e;cases e
    .rw[SF b e'] at e;cases e)
  have hB:tW mg (qz s₁.heap H):=by
   obtain⟨bm,o,b1,b2,b3,b4,b5,b6,b7⟩:=Qy;exact⟨bm,o,b1,b2,b3,tX b4 (E6 b4 (by rw[b7];intro v n z;cases z) (by rw[b7];intro v z;cases z)),b5,b6,b7⟩
  have hM:Mod K mg (qz s₁.heap H):=⟨Wg,Qz yd,⟨mb,Qz hb,Qx⟩,let ⟨mc,h1,h2⟩:=SE;⟨mc,Qz h1,h2⟩⟩
  have e0:tD P w K mg (qz s₁.heap H) callerA [] s₁ H:=⟨rfl,hM,fun b o e=>Fl e,sL (Ah _ _),trivial,fun b hb=>absurd (show b∈([]:List Addr) from hb) (by simp),bq,.of_eq hg⟩
  refine h_ ((F _ Wg (Qz yd) hB).run callerA [] s₁ H ⟨[.ref a],[]⟩ [.ref a] [.ref a] _ _ hr e0 (NK s₁ (.ref a)) (.cons rfl .nil) (vf H hO hS)) fun r s' h=>?_;cases r with
  |error e=>exact(SG H e s' h).elim
  |ok fl=>
   cases fl with
   |next=>exact False.elim h
   |brk=>exact False.elim h
   |cont=>exact False.elim h
   |ret u=>
    obtain⟨v,H',os,bare,un,NM,r',q⟩:=h;have q':v=.bl true:=q;subst q';obtain rfl:u=Value.bool true:=r';refine⟨rfl,⟨fun b o e=>?_,fun b o e=>un.there b o e (by simp)⟩,os,bare⟩;cases q:H b with
    |none=>exact .inl (un.keep b o e q (by intro z;exact absurd (show b∈([]:List Addr) from z) (by simp)) (by simp))
    |some u=>
     rcases hO.2 b with z|⟨zt,z⟩|⟨ob,xs,z⟩
     .rw[q] at z;cases z
     .obtain⟨more,z2⟩:=un.jJ b _ z;have e1:=NJ b zt;rw[e] at e1;cases e1;have e2:s'.heap.get? b=some { cls:=.none,data:=.fields (#[]++more) }:=NM b _ z2;obtain⟨c,hc⟩:=mY b zt;obtain⟨oc,YR,_,_,_,_,_,_,_,g1,g2,g3,g4,_⟩:=PySem.W.codeHd_of_K KX hc;exact .inr (.inl ⟨⟨c,oc,YR,g1,g2,g3,g4⟩,rfl,#[],more,rfl,e2⟩)
     .have z2:=un.iY b ob _ z;obtain⟨e1,_⟩:=bq b _ z;obtain⟨e2,_⟩:=NM b _ z2;rw[e] at e1;cases e1;exact .inl e2
 have Wi:∀ (H:Hp),(∀P∈ts,H P=some (.nQ #[]))->True:=fun _ _=>trivial
 classical
 cases hk:K.lookup a with
 |some o=>
  have e:=KX a o hk;rw[ha] at e;cases e;refine NL (fun b=>if b∈ts then some (.nQ #[]) else none) ⟨fun P hP=>aq hP,fun b=>?_⟩ (.inr ⟨_,vs.toArray,_,hk,rfl,rfl,rfl,by rw[cs,SH];exact hl,by simpa using rv⟩) (fun b u z=>?_) (fun b z=>?_) fun z=>absurd (au Wf) z
  .by_cases hb:b∈ts
   .exact .inr (.inl ⟨hb,aq hb⟩)
   .exact .inl (au hb)
  .by_cases hb:b∈ts
   .have z':=(aq hb).symm.trans z;cases z';exact NJ b hb
   .have z':=(au hb).symm.trans z;cases z'
  .by_cases hb:b∈ts
   .exact .inr hb
   .exact absurd (au hb) z
 |none=>
  refine NL (fun b=>if b=a then some (.qR { cls:=.type "list",data:=.seq vs.toArray } (.lst (ns.map V.int))) else if b∈ts then some (.nQ #[]) else none) ⟨fun P hP=>?_,fun b=>?_⟩ (.inl (.inr ⟨{ cls:=.type "list",data:=.seq vs.toArray },aq rfl⟩)) (fun b u z=>?_) (fun b z=>?_) fun _=>hk
  .have:P≠a:=fun z=>Wf (z ▸ hP);show (if P=a then _ else if P∈ts then _ else _)=_;rw[au this,aq hP]
  .by_cases hb:b=a
   .exact .inr (.inr ⟨_,_,aq hb⟩)
   .by_cases ht:b∈ts
    .exact .inr (.inl ⟨ht,by show (if b=a then _ else if b∈ts then _ else _)=_;rw[au hb,aq ht]⟩)
    .exact .inl (by show (if b=a then _ else if b∈ts then _ else _)=_;rw[au hb,au ht])
  .by_cases hb:b=a
   .have z':=(aq hb).symm.trans z;cases z';subst hb;exact⟨ha,by rw[aZ];exact hl,vs,_,rv,ha⟩
   .have z1:(if b∈ts then some (HO.nQ #[]) else none)=some u:=(au hb).symm.trans z;by_cases ht:b∈ts
    .rw[aq ht] at z1;cases z1;exact NJ b ht
    .rw[au ht] at z1;cases z1
  .by_cases hb:b=a
   .exact .inl hb
   .by_cases ht:b∈ts
    .exact .inr ht
    .exact absurd (by show (if b=a then _ else if b∈ts then _ else _)=_;rw[au hb,au ht]) z
theorem Db{l:PySem.W.OpenLaw}{n k:Nat}{q:Program}{qZ:List Str}{XP:(Str->Option Value)->Heap->Prop}{YP:World->Heap->Prop}{d:DefRec}{K:Params->PySem.W.Frag}{CX:World->nu}{sp:World->Sp}{x:Str}{ts:List Addr}(hn:l.most=some n)(LY:n<=sizeLine)(M9:d.params.defaults=[])(hr:bK k callerA)(hY:∀ (w:World) (h:Heap),YP w h->(K w.params).In h)(hT:∀ (w:World) (h:Heap),YP w h->∀P∈ts,h.get? P=some (PySem.W.tabObj #[]))(mY:∀ (w:World),∀P∈ts,∃c,PySem.W.codeHdIn (K w.params) c P=true)(SF:∀ (w:World),∀P∈ts,(K w.params).lookup P=none)(F:∀ (w:World) (mg:Str->Option Value) (fa:Addr) (h:Heap),(K w.params).In h->h.Ns mainGlobals mg->mg d.name=some (.ref fa)->
   ∃fd:FuncData,(∀ (s:Shared) (u:Value),BindsTo s fd ⟨[u],[]⟩ [(x,u)])/\
    ∀base:Heap,(K w.params).In base->base.Ns mainGlobals mg->tW mg base->be l.prog w (K w.params) mg base (CX w) k fa fd [x] (sp w))(vf:∀ (w:World) (H:Hp) (a:Addr) (ns:List Int),ns.length<=n->zA ts H->a_ (K w.params) H a (ns.map V.int)->sp w [.ref a] H (fun v _=>v=.bl true) fun _ _ _=>False)(SG:∀ (w:World) (H:Hp) (s:Shared) (e:Value) (s':Shared),CX w [] H s (fun _ _ _=>False) e s'->False):
  PySem.W.WalkO q qZ XP YP l.row.toRowW d [] (fun f vs=>PySem.call f vs):=by
 refine VN.vi hn M9 fun w s₀ s₁ mg mb fa o pm cd jr a vs ns G Y ho hd YS M_ JD CH eD hg=>?_;have KX:=hY w _ Y;obtain⟨fd,hb,hF⟩:=F w mg fa _ KX G.T.g M_;have hB:tW mg s₁.heap:=by
  obtain⟨bm,ob,b1,b2,b3,b4,b5,b6⟩:=G.T.bmain;refine⟨bm,ob,b1,b2,fun z=>?_,b3,b4,b5,b6⟩;obtain⟨o',es,ep,e,yR,_⟩:=G.T.g;rw[z,e] at b3;cases b3;rw[yR] at b6;cases b6
 exact AS KX G.T.g G.T.b G.T.builtins G.T.nolimit hg hB (hT w _ Y) (mY w) (SF w) JD CH (aY eD LY) hr hF hb (fun H hO hS=>vf w H a ns eD hO hS) fun H e s'=>SG w H s₁ e s'
structure ye(K:PySem.W.Frag)(x qual:Str)(st:Stmt)(f:Addr)(fd:FuncData)(c:Addr):Prop where
 ex:∃ (oc:Value) (od:Option Addr) (kV jr pm:Value) (an:Option Addr) (ct:Value) (qY:Array (Option Value)),
  fd=PySem.W.fnOf x qual (cz st) (bh st) (aj st) .none kV jr pm an (.ref c) ct/\K.lookup f=some ⟨oc,od,.func fd,qY⟩/\PySem.W.codeIn K (.ref c) qual=true
 kp:PySem.W.keepIn K (.ref f)=true
theorem ye.fun{K:PySem.W.Frag}{x qual:Str}{st:Stmt}{f:Addr}{fd:FuncData}{c:Addr}(F:ye K x qual st f fd c):eJ K x qual st f fd:=by
 obtain⟨oc,od,kV,jr,pm,an,ct,qY,e,lk,mY⟩:=F.ex;exact⟨⟨oc,od,kV,jr,pm,an,_,ct,qY,e,lk,mY⟩,F.kp⟩
section
variable {P:Program} {w:World} {K:PySem.W.Frag} {mg:Str->Option Value} {base:Heap}
theorem ye.ok{x qual:Str}{st:Stmt}{f:Addr}{fd:FuncData}{c:Addr}{N ps:List Str}{k:Nat}{sp:Sp}(F:ye K x qual st f fd c)(S:aE N ps (aj st))(len:∀vs H Q E,sp vs H Q E->vs.length=ps.length)(i8:∀ (A:Around) (outer:List Env) (s:Shared) (H:Hp) (vs:List V) (Q:VK) (E:XK),bK k (A.deeper (envOfC qual (aj st) s.heap.objs.size f (.ref c)))->sp vs H Q E->
   ∃t,qq (gX br P w K mg base N qual (aj st) f (.ref c) A outer s H E).E4 (bh st) t/\t { nx:=fun _ H'=>Q .bV H',rt:=Q } (start N vs) H):be P w K mg base br (k+1) f fd ps sp:=by
 obtain⟨oc,od,kV,jr,pm,an,ct,qY,rfl,lk,mY⟩:=F.ex;refine Cu lk mY S len fun A outer s H vs Q E hr vf=>?_;obtain⟨t,h,q⟩:=i8 A outer s H vs Q E hr vf;exact⟨t,h.E4,q⟩
theorem F2{x qual:Str}{st:Stmt}{f c:Addr}{oc:Value}{od an:Option Addr}{qY:Array (Option Value)}{kV jr pm ct:Value}(l:K.lookup f=some ⟨oc,od,.func (PySem.W.fnOf x qual (cz st) (bh st) (aj st) .none kV jr pm an (.ref c) ct),qY⟩)(mY:PySem.W.codeIn K (.ref c) qual=true)(kp:PySem.W.keepIn K (.ref f)=true):ye K x qual st f (PySem.W.fnOf x qual (cz st) (bh st) (aj st) .none kV jr pm an (.ref c) ct) c:=⟨⟨oc,od,kV,jr,pm,an,ct,qY,rfl,l,mY⟩,kp⟩
theorem F3(kb:K.In base)(hb:tW mg base)(hc:PySem.W.codeHdIn K c P'=true):
  FZ (gX CX P w K mg base N qual scope f (.ref c) A outer s H E).E4 c P':=⟨rfl,PySem.W.codeHd_of_K kb hc,hb⟩
end
def nY(sc SJ:Scope)(y:Str×NameKind):Bool:=match y.2 with
 |.cell=>(match sc.names.lookup y.1 with|some .cell=>true|_=>false)
 |.local=>(match sc.names.lookup y.1 with|some .local=>true|_=>false)
 |.free=>(match SJ.names.lookup y.1 with|some .cell=>true|some .free=>true|_=>false)
 |_=>true
def Dd(NB:List Str)(src:List (Option Nat))(sc:Scope)(N:List Str)(i:Nat):Bool:=match NB[i]?,src[i]? with
 |some x,some (some j)=>(N[j]?==some x)&&(match sc.names.lookup x with|some .free=>true|_=>false)
 |_,_=>true
def zB(sc:Scope):Bool:=match sc.kind with|.function=>true|_=>false
def Df(NB:List Str)(src:List (Option Nat))(sc SJ:Scope)(N:List Str):Bool:=
 zB sc&&decide NB.Nodup&&(src.length==NB.length)&&(sc.names.all (nY sc SJ))&&(List.range NB.length).all (Dd NB src sc N)
theorem cS(h:Df NB src sc X.env.scope X.N=true):eS NB src sc X:=by
 unfold Df at h;simp only[gT,oI,fm,iQ] at h;obtain⟨⟨⟨⟨h1,h2⟩,h3⟩,h4⟩,h5⟩:=h;refine⟨?_,h2,h3,fun y hy z=>?_,fun y hy z=>?_,fun y hy z=>?_,fun i x j e1 e2=>?_⟩
 .unfold zB at h1;split at h1
  .assumption
  .cases h1
 .have:=h4 y hy;obtain⟨n,k⟩:=y;obtain rfl:k=.cell:=z;dsimp only[nY] at this |-;split at this
  .assumption
  .cases this
 .have:=h4 y hy;obtain⟨n,k⟩:=y;obtain rfl:k=.local:=z;dsimp only[nY] at this |-;split at this
  .assumption
  .cases this
 .have:=h4 y hy;obtain⟨n,k⟩:=y;obtain rfl:k=.free:=z;dsimp only[nY] at this |-;split at this
  .exact .inl (by assumption)
  .exact .inr (by assumption)
  .cases this
 .have hi:i<NB.length:=(cL.mp e1).1;have:=h5 i (dv.mpr hi);unfold Dd at this;rw[e1,e2] at this;simp only[gT,fm] at this;refine⟨this.1,?_⟩;have t2:=this.2;split at t2
  .assumption
  .cases t2
theorem eE{K:PySem.W.Frag}{a D:Addr}{xs:List V}{g:TG}{tt:TT}{te:TE}{fin:Hp->Prop}{σB:St}{H0:Hp}(Pv:Nat->List V->St->Hp->Prop)(h0:Pv 0 [] σB H0)(hl:∀i ys σ H,i<=xs.length->Pv i ys σ H->a_ K H a xs)(hs:∀i x ys σ H (Kt:V->St->Hp->Prop) (Kf:St->Hp->Prop),xs[i]?=some x->Pv i ys σ H->
   (∀v σ2 H4,H4 D=some (.lst ys)->ys.length<sizeLine->Pv (i+1) (ys++[v]) σ2 (upd H4 D (.lst (ys++[v])))->Kt v σ2 H4)->(∀σ2 H3,Pv (i+1) ys σ2 H3->Kf σ2 H3)->
   g x σ H fun σ2 H2=>tt σ2 H2 fun b H3=>if b=true then te σ2 H3 fun v H4=>Kt v σ2 H4 else Kf σ2 H3)(hd:∀ys σ H,Pv xs.length ys σ H->fin H):jS (HZ K a) g tt te D fin σB H0:=by
 refine⟨fun i m σ H=>m=xs.length-i/\i<=xs.length/\∃ys,Pv i ys σ H,⟨xs.length,by simp,cN _,[],h0⟩,?_⟩;rintro i m σ H ⟨rfl,hi,ys,p⟩;have q:=hl i ys σ H hi p;by_cases dX:i<xs.length
 .refine .inr ⟨⟨xs,xs[i],q,by simp[dX]⟩,?_⟩;rintro x H' ⟨rfl,y⟩;exact hs i x ys σ _ (fun v σ2 H4=>∃ys,H4 D=some (.lst ys)/\ys.length<sizeLine/\∃m',m'<xs.length-i/\m'=xs.length-(i+1)/\i+1<=xs.length/\∃vD,Pv (i+1) vD σ2 (upd H4 D (.lst (ys++[v]))))
   (fun σ2 H3=>∃m',m'<xs.length-i/\m'=xs.length-(i+1)/\i+1<=xs.length/\∃vD,Pv (i+1) vD σ2 H3) (y xs q) p
   (fun v σ2 H4 z1 z2 z3=>⟨ys,z1,z2,_,by lia,rfl,dX,_,z3⟩) (fun σ2 H3 z=>⟨_,by lia,rfl,dX,_,z⟩)
 .have e:i=xs.length:=by lia
  subst e;exact .inl ⟨⟨xs,q,a9 _⟩,hd ys σ H p⟩
theorem ip{lo:Int}{n:Nat}{D:Addr}{g:TG}{tt:TT}{te:TE}{fin:Hp->Prop}{σB:St}{H0:Hp}(Pv:Nat->List V->St->Hp->Prop)(h0:Pv 0 [] σB H0)(hs:∀i ys σ H (Kt:V->St->Hp->Prop) (Kf:St->Hp->Prop),i<n->Pv i ys σ H->
   (∀v σ2 H4,H4 D=some (.lst ys)->ys.length<sizeLine->Pv (i+1) (ys++[v]) σ2 (upd H4 D (.lst (ys++[v])))->Kt v σ2 H4)->(∀σ2 H3,Pv (i+1) ys σ2 H3->Kf σ2 H3)->
   g (.int (lo+i)) σ H fun σ2 H2=>tt σ2 H2 fun b H3=>if b=true then te σ2 H3 fun v H4=>Kt v σ2 H4 else Kf σ2 H3)(hd:∀ys σ H,Pv n ys σ H->fin H):jS (E5 lo n) g tt te D fin σB H0:=by
 refine⟨fun i m σ H=>m=n-i/\i<=n/\∃ys,Pv i ys σ H,⟨n,by simp,cN _,[],h0⟩,?_⟩;rintro i m σ H ⟨rfl,hi,ys,p⟩;by_cases dX:i<n
 .refine .inr ⟨dX,?_⟩;rintro x H' ⟨rfl,rfl⟩;exact hs i ys σ _ (fun v σ2 H4=>∃ys,H4 D=some (.lst ys)/\ys.length<sizeLine/\∃m',m'<n-i/\m'=n-(i+1)/\i+1<=n/\∃vD,Pv (i+1) vD σ2 (upd H4 D (.lst (ys++[v]))))
   (fun σ2 H3=>∃m',m'<n-i/\m'=n-(i+1)/\i+1<=n/\∃vD,Pv (i+1) vD σ2 H3) dX p
   (fun v σ2 H4 z1 z2 z3=>⟨ys,z1,z2,_,by lia,rfl,dX,_,z3⟩) (fun σ2 H3 z=>⟨_,by lia,rfl,dX,_,z⟩)
 .have e:i=n:=by lia
  subst e;exact .inl ⟨a9 _,hd ys σ H p⟩
section
variable {κ:Type} [DecidableEq κ]
end
section
variable {P:Program} {w:World} {H:Hp} {h:Heap} {a:Addr}
end
section
variable {X:Cx} {ae:List (Addr×Obj)} {σ:St} {H:Hp} {s:Shared} {a:Addr} {y v:V} {u r:Value} {o:Option V} {A:Around} {E:Value->Shared->Prop}
theorem aF.big(I:aF X ae σ H s):sysModules<s.heap.objs.size:=by
 have h:mainGlobals<s.heap.objs.size:=(I.mod.glob.keeps I.bk).lt;exact Nat.lt_trans (by decide) h
end
section
variable {X:Cx} {ae:List (Addr×Obj)} {σ:St} {H:Hp} {s:Shared} {a:Addr} {kZ:List (qx×V)} {k:qx} {u:Value} {A:Around} {E:Value->Shared->Prop}
end
section
variable {X:Cx} {o i e value:Expr} {pos Am Fw:Pos} {td ty tv:TE}
end
theorem Dg{P:Program}{w:World}{H:Hp}(h:Heap)(hb:sysModules<h.objs.size):cw P w H (h.push { cls:=.type "dict",data:=.dict #[] }) h.objs.size (.dK []):=
 ⟨cN _,j6.mpr (dq (aT hb)),[],.nil,Heap.DictOf.new h⟩
def Dh:TE:=fun _ H Q=>∀p,H p=none->Q (.ref p) (upd H p (.dK []))
section
variable {X:Cx} {pos:Pos}
theorem Di:PE X (.Dict [] [] pos) Dh:=fun ae s σ H Q I h=>
 wpAny_Dict_empty ⟨.ref s.heap.objs.size,_,I.laid (a:=s.heap.objs.size) (o:=.dK []) (t':=s.toks) (fun _ _ q=>bC _ q) (a9 _) (Dg s.heap I.big),rfl,h _ (I.bq.fresh (a9 _))⟩
end
section
variable {X:Cx} {ae:List (Addr×Obj)} {σ:St} {H:Hp} {s:Shared} {a:Addr} {y d:V} {u r:Value} {o:Option V} {A:Around} {E:Value->Shared->Prop}
end
section
variable {X:Cx} {o e f:Expr} {jK ny:Pos} {td ty tx:TE}
end
section
variable {X:Cx} {ae:List (Addr×Obj)} {σ:St} {H:Hp} {s:Shared} {a:Addr} {kZ:List (qx×V)} {A:Around} {E:Value->Shared->Prop}
end
section
variable {X:Cx} {ae:List (Addr×Obj)} {σ:St} {H:Hp} {s:Shared} {a:Addr} {y:V} {u:Value} {A:Around} {E:Value->Shared->Prop}
end
section
variable {X:Cx}
end
section
variable {κ:Type} [DecidableEq κ]
end
section
variable {X:Cx}
end
def NN(K:PySem.W.Frag)(a:Addr):It:=
 ⟨fun i H=>∃xs x,a_ K H a xs/\xs[i]?=some x,fun i H x H'=>∃p v,x=.ref p/\H p=none/\H'=upd H p (.tup [.int i,v])/\∀xs,a_ K H a xs->xs[i]?=some v,fun i H=>∃xs,a_ K H a xs/\xs.length<=i,fun _ _=>False⟩
theorem aF.F4(I:aF X ae σ H s)(fe:gW X ae H e)(fi:gW X ae H it)(k:∀b o,b≠e->b≠it->s.heap.get? b=some o->h'.get? b=some o)(ke:∃o,h'.get? e=some o)(ki:∃o,h'.get? it=some o)(hp:s.heap.objs.size<=p)(hl:xs.length<=sizeLine)(r:aP xs its)(ht:h'.get? p=some { cls:=.type "tuple",data:=.seq its.toArray }):aF X ae σ (upd H p (.tup xs)) { s with heap:=h',toks:=t' }:=by
 have hn:=I.bq.fresh hp;obtain⟨e0,e1,e2,e3,e4,e5⟩:=fe;obtain⟨i0,i1,i2,i3,i4,i5⟩:=fi;have ne:∀b o,s.heap.get? b=some o->b≠p:=fun b o q=>aT (bz (aQ q) hp);have zD:∀b o,H b=some o->b≠e/\b≠it:=fun b o q=>⟨(fun z=>by rw[z,e0] at q;cases q),(fun z=>by rw[z,i0] at q;cases q)⟩
 refine I.step (g':=s.gens) (d':=s.drawn) (ch:=[e,it]) (fun b hb=>?_) (fun b o _ _ hb q _=>?_) (fun b o _ _ hb q _=>⟨o.slots,?_⟩) (fun b o hb q n=>by rw[ao (ne b o q)];exact n) (fun b o hb q=>⟨o,?_⟩)
  (fun b ys q=>by rw[ao (am q hn)];exact q) (fun b o u q=>by rw[ao (am q hn)];exact q) (fun b ps q=>⟨#[],by rw[ao (am q hn),q];simp⟩) (fun m hm=>?_) (fun b o q=>?_) I.bare
 .rcases bg.mp hb with rfl|hb
  .exact⟨e3,e1,e4,e5⟩
  .rw[cX.mp hb];exact⟨i3,i1,i4,i5⟩
 .exact k b o (fun z=>hb (z ▸ ci)) (fun z=>hb (z ▸ b8 _ ci)) q
 .exact k b o (fun z=>hb (z ▸ ci)) (fun z=>hb (z ▸ b8 _ ci)) q
 .exact k b o (fun z=>hb (z ▸ ci)) (fun z=>hb (z ▸ b8 _ ci)) q
 .obtain⟨o,es,ep,q,d,r'⟩:=hm;exact⟨o,es,ep,k _ _ e1.symm i1.symm q,d,r'⟩
 .by_cases hb:b=p
  .subst hb;rw[ag] at q;cases q;exact⟨hl,its,r,_,ht,rfl,_,rfl,rfl⟩
  .rw[ao hb] at q;refine(I.bq b o q).km (fun c u hc z=>k c u ?_ ?_ z) (fun c z=>by rw[ao (am z hn)];exact z) fun c ys z=>by rw[ao (am z hn)];exact z
   .rcases hc with rfl|hc
    .exact(zD _ _ q).1
    .exact(zD _ _ hc).1
   .rcases hc with rfl|hc
    .exact(zD _ _ q).2
    .exact(zD _ _ hc).2
theorem AT{P:Program}{w:World}{K:PySem.W.Frag}{es:List Expr}{x1:Nat}{pos:Pos}(a e it:Addr)(tK:e≠it):
  vc P w K (.Tuple es x1 pos) (NN K a) [e,it] e (fun i h=>(∃kY,IsEnum h e it (i:Int) kY)/\h.IsListIter it a i) where
 mem:=by simp
 obj:=fun i h st b hb=>by
  obtain⟨⟨kY,he⟩,⟨o,q,c,d⟩⟩:=st;rcases bg.mp hb with rfl|hb
  .exact⟨_,he,fun v z=>by
    have z':Data.fields _=Data.cell v:=z;cases z'⟩
  .rw[cX.mp hb];exact⟨o,q,fun v z=>by rw[d] at z;cases z⟩
 keep:=fun i h h' st k=>by
  obtain⟨⟨kY,he⟩,hi⟩:=st;exact⟨⟨kY,k e (by simp) _ he⟩,hi.at fun o q=>k it (by simp) o q⟩
 item:=by
  intro X hP hw hK i ae s σ H E xB I hf st hg;subst hP hw hK;have hc:X.calm=true:=xB.elim id fun z=>(show False from z).elim;obtain⟨xs,x,hq,hx⟩:=hg;obtain⟨its,rv,p,hz⟩:=I.list hq;obtain⟨u,hu,ru⟩:=rv.get hx;obtain⟨⟨kY,he⟩,hi⟩:=st;refine wpAny_pyNext_enum_item he hi p.isList (x:=u) (by simpa using hu) tK fun h' ho qt ht kK k=>?_;refine⟨_,rfl,wpAny_letOwnedTupleGo_enum ho fun h2 Wj tw=>?_⟩;have Wk:s.heap.objs.size≠e:=gu (aQ he);have JR:h2.IsListIter it a (i+1):=qt.extBut tw.extBut tK.symm;have fe:=hf e (by simp);have fi:=hf it (by simp);have I2:aF X ae σ (upd H s.heap.objs.size (.tup [.int i,x])) { s with heap:=h2,toks:=s.toks+1 }:=by
   refine I.F4 (its:=[.int i s.toks,u]) fe fi (fun b o h1 h3 q=>(tw.2 b h1).trans (k b o h1 h3 q)) ⟨_,Wj⟩ ?_ (a9 _) (by show 2<=sizeLine;decide) (.cons ⟨_,rfl⟩ (.cons ru .nil)) ((tw.2 _ Wk).trans ht);obtain⟨o,q,_⟩:=JR;exact⟨o,q⟩
  refine⟨.ref s.heap.objs.size,_,I2,rfl,⟨_,x,rfl,I.bq.fresh (a9 _),rfl,fun ys hy=>by rw[I.pf hy hq];exact hx⟩,⟨⟨u,Wj⟩,JR⟩,fun b hb=>?_⟩;have f0:=(hf b hb).1;rw[ao]
  .exact f0
  .rcases bg.mp hb with rfl|hb
   .exact Wk.symm
   .rw[cX.mp hb];obtain⟨o,q,_⟩:=hi;exact aT (aQ q)
 done:=by
  intro X hP hw hK i ae s σ H E xB I hf st hg;subst hP hw hK;have hc:X.calm=true:=xB.elim id fun z=>(show False from z).elim;obtain⟨xs,hq,hx⟩:=hg;obtain⟨its,rv,p,hz⟩:=I.list hq;obtain⟨f0,f1,f2,f3,f4,f5⟩:=hf it (by simp);obtain⟨⟨kY,he⟩,hi⟩:=st;have hl:=rv.length;exact wpAny_pyNext_enum_end (I.ok.hd hc) he hi p.isList (by simp;lia) fun h' eb=>⟨rfl,I.turned (t':=s.toks) (fun b o hb e=>eb b o hb e) f0 f1 f3 f4 f5⟩
 self:=fun _ _ _ _ _ st h=>by
  obtain⟨⟨kY,he⟩,_⟩:=st;exact wpAny_pyIter_enum he h
section
variable {X:Cx}
def NO(K:PySem.W.Frag)(ta:TA):TI:=fun σ H R=>ta σ H fun vs H1=>∃a xs,vs=[.ref a]/\H1 a=some (.lst xs)/\R (NN K a) H1
theorem zE(hg:Gl X "enumerate")(hm:X.mg "enumerate"=none)(ha:PA X [a] ta)(hs:starEach [a] X.env=[(false,eval a X.env)]:=by rfl):
  PI X (.Tuple es x1 Fw) (.Call (.Name "enumerate" p) [a] [] pos) (NO X.K ta):=by
 intro ae s σ H R I h;refine Call_ (kq I hg hm (by decide +kernel:bootBuiltins "enumerate"=some (.type "enumerate")) (rK (cE (ha pos ae s σ H _ I h) fun us s1 ⟨vs,H1,I1,r1,q1⟩=>?_) hs rfl));obtain⟨l,xs,rfl,hl,q⟩:=q1;obtain⟨u1,rfl,SK⟩:=r1.one;obtain rfl:u1=Value.ref l:=SK;obtain⟨z,its,n,r,_,e⟩:=I1.FH hl;refine call_enumerate_1 e fun h' he hi kK k=>?_;have tK:s1.heap.objs.size+1≠s1.heap.objs.size:=Nat.succ_ne_self _;refine wpAny_pyIter_enum he ?_;have I2:aF X ae σ H1 { s1 with heap:=h' }:=I1.kept (t':=s1.toks) k;refine⟨s1.heap.objs.size+1,[s1.heap.objs.size+1,s1.heap.objs.size],_,_,H1,rfl,I2,AT l _ _ tK,⟨⟨_,he⟩,hi⟩,fun b hb=>?_,q⟩;have qF:s1.heap.objs.size<=b:=by
  rcases bg.mp hb with rfl|hb
  .exact sR _
  .rw[cX.mp hb];exact a9 _
 exact I1.An qF (I1.bq.fresh qF)
theorem vE{K:PySem.W.Frag}{a:Addr}{xs:List V}{g:TG}{tb:TS}{D:sX}{σ:St}{H:Hp}(Pv:Nat->St->Hp->Prop)(h0:Pv 0 σ H)(hl:∀i σ H,i<=xs.length->Pv i σ H->a_ K H a xs)(hs:∀i x p σ H,xs[i]?=some x->Pv i σ H->H p=none->g (.ref p) σ (upd H p (.tup [.int i,x])) fun σ2 H2=>tb { D with nx:=Pv (i+1),ct:=Pv (i+1),bk:=D.nx } σ2 H2)(hd:∀σ H,Pv xs.length σ H->D.nx σ H):
  ∃W:Nat->Nat->St->Hp->Prop,(∃m,W 0 m σ H)/\∀i m σ H,W i m σ H->
   ((NN K a).stop i H/\D.nx σ H)\/((NN K a).go i H/\∃N:St->Hp->Prop,(∀σ' H',N σ' H'->∃m',m'<m/\W (i+1) m' σ' H')/\∀x H',(NN K a).Fn i H x H'->g x σ H' fun σ2 H2=>tb { D with nx:=N,ct:=N,bk:=D.nx } σ2 H2):=by
 refine⟨fun i m σ H=>m=xs.length-i/\i<=xs.length/\Pv i σ H,⟨xs.length,by simp,cN _,h0⟩,?_⟩;rintro i m σ H ⟨rfl,hi,p⟩;have q:=hl i σ H hi p;by_cases dX:i<xs.length
 .refine .inr ⟨⟨xs,xs[i],q,by simp[dX]⟩,Pv (i+1),fun σ' H' p'=>⟨xs.length-(i+1),by lia,rfl,dX,p'⟩,fun x H' y=>?_⟩;obtain⟨pp,v,rfl,hn,rfl,hv⟩:=y;exact hs i v pp σ _ (hv xs q) p hn
 .have e:i=xs.length:=by lia
  subst e;exact .inl ⟨⟨xs,q,a9 _⟩,hd σ H p⟩
end
section
variable {prog:Program} {w:World} {A:Around} {E:Value->Shared->Prop} {s:Shared}
theorem yf(o6:s.heap.IsTupleIter it t i)(ht:s.heap.IsTuple t xs)(hx:xs[i]?=some x)(q:∀h',h'.IsTupleIter it t (i+1)->Heap.SameBut it s.heap h'->Q x { s with heap:=h' }):wpAny (model prog w) A (Builtin.SmallTypes.nextOf (.ref it)) Q E s:=by
 obtain⟨o,h1,h2,h3⟩:=id o6;obtain⟨p,k1,_,n,k3⟩:=ht;unfold Builtin.SmallTypes.nextOf;refine ap (oq (name:=Str.ofString "__next__") o6.typeIs F.slot_tuple_iterator_next (iS F.slot_tuple_iterator_next o6.typeIs F.entry_tuple_iterator_next ?_ (F.args_tuple_iterator_next_1 _)));change wpAny _ _ (field (.ref it) 0 >>= _) _ _ s;refine ap (cY h1 h3 (x:=.ref t) rfl ?_);change wpAny _ _ (if (Value.ref t==Value.none)=true then _ else _) _ _ s;rw[au (by exact cq)];change wpAny _ _ (field (.ref it) 1 >>= _) _ _ s;refine ap (cY h1 h3 (x:=.int i 0) rfl ?_);change wpAny _ _ (seqItems? (.ref t) >>= _) _ _ s;refine ap (iT k1 k3 ?_);simp only[rZ,hx];refine ap (oX h1 h3 (by simp) (wpAny_pure ⟨x,rfl,wpAny_pure (q _ ?_ (Heap.SameBut.update ..))⟩));refine⟨_,oH _ h1 (w_ (oK h3 _)),(xu ..).trans h2,?_⟩;rw[oK h3];simp[rawInt]
theorem AU(hh:A.handled=none)(o6:s.heap.IsTupleIter it t i)(ht:s.heap.IsTuple t xs)(hx:xs[i]?=none)(q:∀h' e,Heap.ExtBut it s.heap h'->(∃o,h'.get? e=some o/\o.cls=.type "StopIteration")->E (.ref e) { s with heap:=h' }):wpAny (model prog w) A (Builtin.SmallTypes.nextOf (.ref it)) Q E s:=by
 obtain⟨o,h1,h2,h3⟩:=id o6;obtain⟨p,k1,_,n,k3⟩:=ht;unfold Builtin.SmallTypes.nextOf;refine ap (oq (name:=Str.ofString "__next__") o6.typeIs F.slot_tuple_iterator_next (iS F.slot_tuple_iterator_next o6.typeIs F.entry_tuple_iterator_next ?_ (F.args_tuple_iterator_next_1 _)));change wpAny _ _ (field (.ref it) 0 >>= _) _ _ s;refine ap (cY h1 h3 (x:=.ref t) rfl ?_);change wpAny _ _ (if (Value.ref t==Value.none)=true then _ else _) _ _ s;rw[au (by exact cq)];change wpAny _ _ (field (.ref it) 1 >>= _) _ _ s;refine ap (cY h1 h3 (x:=.int i 0) rfl ?_);change wpAny _ _ (seqItems? (.ref t) >>= _) _ _ s;refine ap (iT k1 k3 ?_);simp only[rZ,hx];refine ap (fL (ap (oX h1 h3 (by simp) ?stop)));case stop=>
  change wpAny _ _ (newExc (.type "StopIteration") [] >>= _) _ _ _;refine ap ?_;simp only[newExc,newTuple];refine ap (jP (ap (m:=firstArgMember _ _) (wpAny_of_eq (a:=Value.none) (by simp only[firstArgMember];rfl) (jP ?_ (by size_fits)))) (by size_fits));simp only[raiseNew];refine ap (wpAny_handled ?_);rw[show A.in1.handled=none from hh];exact ap (wpAny_pure (wpAny_throw (q _ _ (fun b u hb z=>bC _ (bC _ ((oE _ _ (dq hb)).trans z))) ⟨_,cC _ rfl,rfl⟩)))
end
section
variable {X:Cx}
end
section
variable {X:Cx} {tg:Expr}
end
section
variable {prog:Program} {w:World} {A:Around} {E:Value->Shared->Prop} {s:Shared} {R:Result->Shared->Prop} {l d Ia:Addr}
end
section
variable {prog:Program} {w:World} {A:Around} {E:Value->Shared->Prop} {s:Shared} {l:Addr}
end
section
variable {X:Cx}
end
structure cP(P:Program)(w:World)(K:PySem.W.Frag)(mg:Str->Option Value)(base:Heap)(CX:nu)(k:Nat)(x:Str)(ps:List Str)(sp:Sp):Prop where
 ex:∃f fd,mg x=some (.ref f)/\PySem.W.keepIn K (.ref f)=true/\dJ K fd ps []/\be P w K mg base CX k f fd ps sp
theorem aH(C:cP X.prog X.w X.K X.mg X.base CX k x ps sp)(hr:bK k X.A)(hx:ff CX X E)(ha:PA X (e::es) t)(hg:Gl X x:=by rfl)(pA:(x==("__debug__":Str))=false:=by decide)(he:starEach (e::es) X.env=(false,eval e X.env)::starEach es X.env:=by rfl)(lQ:(backTo pos (starEach es X.env)).any (·.1)=false:=by rfl):
  PE X (.Call (.Name x p) (e::es) [] pos) (pz sp [] E t):=by
 obtain⟨f,fd,a,b,c,d⟩:=C.ex;exact Fy d hr hg a b c .nil hx ha pA he lQ
theorem ai(h:H D=none):aV H (upd H D o):=fun b u e=>by rw[ao (am e h)];exact e
def aD(p:Addr)(H H':Hp):Prop:=∀b o,H b=some o->b≠p->H' b=some o
theorem aD.refl:aD p H H:=fun _ _ h _=>h
theorem aD.trans(a:aD p H H1)(b:aD p H1 H2):aD p H H2:=fun c o h n=>b c o (a c o h n) n
theorem aD.upd:aD p H (upd H p o):=fun b u h n=>by rw[ao n];exact h
theorem aD.of(s:aV H H'):aD p H H':=fun b o h _=>s b o h
theorem nZ(h:j<n):CA n (j:Int)=some j:=by
 unfold CA;rw[aq (by lia),aq (by lia)];simp
theorem AV(h:as.length=n):(as++[t]).getD j 0=if j=n then t else as.getD j 0:=by
 rw[dY,dY];by_cases hj:j=n
 .subst hj;subst h;rw[aq rfl,iM (a9 _),Nat.sub_self];rfl
 .rw[au hj];by_cases dX:j<as.length
  .rw[gN dX]
  .rw[iM (by lia),lU (by simp;lia),lU (by lia)]
def Holds(H:Hp)(as:List Addr)(n:Nat)(o:Nat->HO):Prop:=as.length=n/\∀j,j<n->H (as.getD j 0)=some (o j)
theorem Holds.nil:Holds H [] 0 o:=⟨rfl,fun j hj=>absurd hj (by lia)⟩
theorem Holds.snoc(h:Holds H as n o)(ht:H t=some (o n)):Holds H (as++[t]) (n+1) o:=by
 refine⟨by rw[cD,h.1];rfl,fun j hj=>?_⟩;rw[AV h.1];by_cases e:j=n
 .rw[aq e,e];exact ht
 .rw[au e];exact h.2 j (by lia)
theorem Holds.mono(h:Holds H as n o)(e:∀j,j<n->H (as.getD j 0)=some (o j)->H' (as.getD j 0)=some (o j)):Holds H' as n o:=⟨h.1,fun j hj=>e j hj (h.2 j hj)⟩
end L2
namespace PyProof.Rows
open PySem
def dD:Bool->Keyed->Array Keyed->Nat->Nat->Nat->StateT SortSt Sem (Option Nat):=sortPriv% PySem.Builtin.gallop
def pL:Array Keyed->Array Keyed->StateT SortSt Sem (Array Keyed):=sortPriv% PySem.Builtin.mergeLo
def pO:Array Keyed->Array Keyed->StateT SortSt Sem (Array Keyed):=sortPriv% PySem.Builtin.mergeHi
def cA:Nat->StateT SortSt Sem Unit:=sortPriv% PySem.Builtin.setMinGallop
def tY(prog:Program)(w:World)(A:Around)(s:Shared)(κ:SortKind)(a₀:Array Keyed)(key:Keyed->Int):Prop:=
 ∀x y,x∈a₀.toList->y∈a₀.toList->∀ (Q:Bool->Shared->Prop) (E:Value->Shared->Prop),Q (decide (key x<key y)) s->wpAny (model prog w) A (keyLt' κ x.1 y.1) Q E s
structure SQ(κ:SortKind)(a₀:Array Keyed)(pd:Array (Nat×Nat×Nat))(st:SortSt):Prop where
 perm:(arrOf st).Perm a₀
 kind:kindOf st=κ
 failed:failedOf st=none
 pend:pendingOf st=pd
def kk(key:Keyed->Int)(a:Array Keyed)(i:Nat):Int:=(a[i]?.map key).getD 0
def So(key:Keyed->Int)(a:Array Keyed)(lo hi:Nat):Prop:=∀i j,lo<=i->i<=j->j<hi->kk key a i<=kk key a j
def kL(a b:Array Keyed)(lo hi:Nat):Prop:=∀k,k<lo\/hi<=k->b[k]?=a[k]?
theorem kL.refl{a:Array Keyed}{lo hi:Nat}:kL a a lo hi:=fun _ _=>rfl
theorem kL.trans{a b c:Array Keyed}{lo hi:Nat}(x:kL a b lo hi)(y:kL b c lo hi):kL a c lo hi:=fun k h=>(y k h).trans (x k h)
theorem kL.wide{a b:Array Keyed}{lo hi Wl qt:Nat}(x:kL a b lo hi)(h1:Wl<=lo)(h2:hi<=qt):kL a b Wl qt:=fun k h=>x k (by lia)
theorem cj(h:i<a.size):kk key a i=key a[i]:=by unfold kk;rw[cF a i h];rfl
theorem eV(h:a[i]?=b[j]?):kk key a i=kk key b j:=by unfold kk;rw[h]
section
variable {prog:Program} {w:World} {A:Around} {E:Value->Shared->Prop} {s:Shared} {κ:SortKind} {a₀:Array Keyed} {pd:Array (Nat×Nat×Nat)} {key:Keyed->Int}
theorem SQ.size{st:SortSt}(h:SQ κ a₀ pd st):(arrOf st).size=a₀.size:=h.perm.size_eq
theorem SQ.setArr{st:SortSt}(h:SQ κ a₀ pd st){xs:Array Keyed}(hp:xs.Perm (arrOf st)):SQ κ a₀ pd (setArr st xs):=⟨hp.trans h.perm,h.kind,h.failed,h.pend⟩
theorem SQ.at{st:SortSt}(h:SQ κ a₀ pd st){i:Nat}(hi:i<a₀.size):∃p,(arrOf st)[i]?=some p/\p∈a₀.toList:=by
 have qt:i<(arrOf st).size:=by rw[h.size];exact hi
 exact⟨(arrOf st)[i],cF _ i qt,(jN.mp h.perm).mem_iff.mp (by simp)⟩
theorem pP{st:SortSt}{x y:Keyed}{Q:Option Bool->SortSt->Prop}(hC:tY prog w A s κ a₀ key)(hk:kindOf st=κ)(hx:x∈a₀.toList)(hy:y∈a₀.toList)(h:Q (some (decide (key x<key y))) st):wpS (model prog w) A E s (lt' x y) Q st:=by
 rw[lt'_eq];refine aA (e_ ?_);rw[hk];refine aA (kj (sP (hC x y hx hy _ _ ⟨rfl,?_⟩)));exact aG h
theorem ba{st:SortSt}{arr:Array Keyed}{i:Nat}{p:Keyed}{Q:Keyed->SortSt->Prop}(hi:arr[i]?=some p)(h:Q p st):wpS (model prog w) A E s (elem' arr i) Q st:=by
 rw[elem'_eq,hi];exact aG h
theorem lB{st:SortSt}{i j:Nat}{Q:Option Bool->SortSt->Prop}(hC:tY prog w A s κ a₀ key)(hB:SQ κ a₀ pd st)(hi:i<a₀.size)(hj:j<a₀.size)(h:∀b,b=decide (kk key (arrOf st) i<kk key (arrOf st) j)->Q (some b) st):wpS (model prog w) A E s (ltAt' i j) Q st:=by
 obtain⟨p,e1,m1⟩:=hB.at hi;obtain⟨q,e2,m2⟩:=hB.at hj;rw[ltAt'_eq];refine aA (e_ ?_);refine aA (ba e1 (aA (ba e2 (pP hC hB.kind m1 m2 (h _ ?_)))));unfold kk;rw[e1,e2];rfl
theorem n5{st:SortSt}{i j:Nat}{Q:Unit->SortSt->Prop}(hB:SQ κ a₀ pd st)(hj:j<=a₀.size)(h:∀aM,SQ κ a₀ pd aM->(∀k,(arrOf aM)[k]?=if i<=k/\k<j then (arrOf st)[i+j-1-k]? else (arrOf st)[k]?)->Q () aM):wpS (model prog w) A E s (reverseSlice' i j) Q st:=by
 rw[reverseSlice'_eq];exact eh (h _ (hB.setArr (mirror_perm _ _ _ _)) (getElem?_mirror_all (by rw[hB.size];exact hj)))
theorem Dj{st:SortSt}{i j:Nat}{Q:Unit->SortSt->Prop}(hB:SQ κ a₀ pd st)(hi:i<a₀.size)(hj:j<=i)(h:∀aM,SQ κ a₀ pd aM->(∀k,(arrOf aM)[k]?=if k=j then (arrOf st)[i]? else if j<k/\k<=i then (arrOf st)[k-1]? else (arrOf st)[k]?)->Q () aM):wpS (model prog w) A E s (moveDown' i j) Q st:=by
 rw[moveDown'_eq];refine eh (h _ (hB.setArr (bubble_perm _ _ _)) fun k=>?_);have:=getElem?_bubble (xs:=arrOf st) (src:=i) (by rw[hB.size];exact hi) (i-j) (by lia) k;rw[show i-(i-j)=j by lia] at this;exact this
theorem F5{st:SortSt}{lo n ok:Nat}{Q:Bool->SortSt->Prop}(hC:tY prog w A s κ a₀ key)(hn:lo+n<=a₀.size)(bq:ok<=n)(hB:SQ κ a₀ pd st)(hs:So key (arrOf st) lo (lo+ok))(h:∀aM,SQ κ a₀ pd aM->So key (arrOf aM) lo (lo+n)->kL (arrOf st) (arrOf aM) lo (lo+n)->Q true aM):wpS (model prog w) A E s (binarySort' lo n ok) Q st:=by
 rw[binarySort'_eq];refine aA (cK (eQ (I:=fun k c aM=>c=(none,())/\SQ κ a₀ pd aM/\So key (arrOf aM) lo (lo+k)/\kL (arrOf st) (arrOf aM) lo (lo+n)) (Q:=fun c aM=>c=(none,())/\SQ κ a₀ pd aM/\So key (arrOf aM) lo (lo+n)/\kL (arrOf st) (arrOf aM) lo (lo+n)) ?_ (fun c aM hh=>⟨hh.1,hh.2.1,fun i j h1 h2 h3=>hh.2.2.1 i j h1 h2 (by lia),hh.2.2.2⟩) ⟨rfl,hB,fun i j h1 h2 h3=>?_,kL.refl⟩) ?_)
 .rintro k c aM JZ J0 ⟨rfl,QA,so,ou⟩;dsimp only;refine aA (cK (eQ (I:=fun x c J1=>(∃l r,c=(none,l,r)/\l<=r/\r<=k/\r<=l+(k-x)/\(∀i,i<l->kk key (arrOf aM) (lo+i)<=kk key (arrOf aM) (lo+k))/\(∀i,r<=i->i<k->kk key (arrOf aM) (lo+k)<=kk key (arrOf aM) (lo+i)))/\J1=aM) (Q:=fun c J1=>(∃l r,c=(none,l,r)/\l<=k/\(∀i,i<l->kk key (arrOf aM) (lo+i)<=kk key (arrOf aM) (lo+k))/\(∀i,l<=i->i<k->kk key (arrOf aM) (lo+k)<=kk key (arrOf aM) (lo+i)))/\J1=aM) ?_ ?_ ⟨⟨_,_,rfl,cN _,a9 _,by lia,fun i h=>by lia,fun i h h'=>by lia⟩,rfl⟩) ?_)
  .rintro x c fU _ hx ⟨⟨l,r,rfl,SL,hr,YT,f1,f2⟩,rfl⟩;dsimp only;by_cases zF:l>=r
   .rw[aq zF];exact aG ⟨⟨_,_,rfl,by lia,f1,fun i hi qt=>f2 i (by lia) qt⟩,rfl⟩
   .rw[au zF];refine aA (lB hC QA (by lia) (by lia) fun b eb=>?_);cases b
    .have e:=kU eb.symm;refine aG ⟨⟨_,_,rfl,by lia,hr,by lia,fun i hi=>?_,f2⟩,rfl⟩;have:=so (lo+i) (lo+(l+r) / 2) (by lia) (by lia) (by lia);lia
    .have e:=dH eb.symm;refine aG ⟨⟨_,_,rfl,by lia,by lia,by lia,f1,fun i hi qt=>?_⟩,rfl⟩;have:=so (lo+(l+r) / 2) (lo+i) (by lia) (by lia) (by lia);lia
  .rintro c fU ⟨⟨l,r,rfl,SL,hr,YT,f1,f2⟩,rfl⟩;exact⟨⟨_,_,rfl,by lia,f1,fun i hi qt=>f2 i (by lia) qt⟩,rfl⟩
  .rintro c fU ⟨⟨l,r,rfl,hl,f1,f2⟩,rfl⟩;dsimp only;refine aA (Dj QA (by lia) (by lia) fun s_ AW hg=>aG ⟨rfl,AW,fun i j h1 h2 h3=>?_,fun q hq=>?_⟩)
   .have gi:=hg i;have gj:=hg j;have ei:kk key (arrOf s_) i=if i=lo+l then kk key (arrOf fU) (lo+k) else if lo+l<i/\i<=lo+k then kk key (arrOf fU) (i-1) else kk key (arrOf fU) i:=by
     unfold kk;rw[gi];split
     .rfl
     .split <;> rfl
    have ej:kk key (arrOf s_) j=if j=lo+l then kk key (arrOf fU) (lo+k) else if lo+l<j/\j<=lo+k then kk key (arrOf fU) (j-1) else kk key (arrOf fU) j:=by
     unfold kk;rw[gj];split
     .rfl
     .split <;> rfl
    rw[ei,ej];by_cases c1:i=lo+l
    .rw[aq c1];by_cases c2:j=lo+l
     .rw[aq c2];lia
     .rw[au c2,aq (by lia)];have:=f2 (j-1-lo) (by lia) (by lia);rw[show lo+(j-1-lo)=j-1 by lia] at this;exact this
    .rw[au c1];by_cases c3:lo+l<i/\i<=lo+k
     .rw[aq c3,au (by lia),aq (by lia)];exact so _ _ (by lia) (by lia) (by lia)
     .rw[au c3];by_cases c2:j=lo+l
      .rw[aq c2];have:=f1 (i-lo) (by lia);rw[show lo+(i-lo)=i by lia] at this;exact this
      .rw[au c2];by_cases c4:lo+l<j/\j<=lo+k
       .rw[aq c4];exact so _ _ (by lia) (by lia) (by lia)
       .rw[au c4];exact so _ _ (by lia) (by lia) (by lia)
   .rw[hg q,au (by lia),au (by lia)];exact ou q hq
 .by_cases ho:ok=0
  .have:i=j:=by subst ho;have:max 0 1=1:=rfl;lia
   rw[this];exact iU _
  .exact hs i j h1 h2 (by (have:max ok 1=ok:=by lia);lia)
 .rintro c aM ⟨rfl,QA,so,ou⟩;exact aG (h aM QA so ou)
end
def J2(lo ce n:Nat):StateT SortSt Sem (Option Nat):=do
 reverseSlice' lo (lo+n)
 let mut n:=n
 for _ in [n:ce] do
  let some iq <- ltAt' (lo+n) (lo+n-1)|return none
  if iq then break
  n:=n+1
 return some n
def J3(lo ce n:Nat):StateT SortSt Sem (Option Nat):=do
 rule "list.sort.descending-run"
 let mut n:=n+1
 let mut neq:=0
 for _ in [n:ce] do
  let some iq <- ltAt' (lo+n) (lo+n-1)|return none
  if iq then
   if neq > 0 then reverseSlice' (lo+n-(neq+1)) (lo+n)
   neq:=0
  else
   let some J4 <- ltAt' (lo+n-1) (lo+n)|return none
   if J4 then break
   neq:=neq+1
  n:=n+1
 if neq > 0 then reverseSlice' (lo+n-(neq+1)) (lo+n)
 J2 lo ce n
theorem qI(lo ce:Nat):countRun' lo ce=(do
 let mut n:=1
 for _ in [1:ce] do
  let some iq <- ltAt' (lo+n) (lo+n-1)|return none
  if iq then break
  n:=n+1
 if n==ce then return some n
 if n > 1 then
  let some SN <- ltAt' lo (lo+n-1)|return none
  if SN then return some n
  reverseSlice' lo (lo+n)
 J3 lo ce n):=rfl
section
variable {prog:Program} {w:World} {A:Around} {E:Value->Shared->Prop} {s:Shared} {κ:SortKind} {a₀:Array Keyed} {pd:Array (Nat×Nat×Nat)} {key:Keyed->Int} {ar:Array Keyed}
def De(key:Keyed->Int)(a:Array Keyed)(lo hi:Nat):Prop:=∀i j,lo<=i->i<=j->j<hi->kk key a j<=kk key a i
theorem yg(h:∀k,b[k]?=if i<=k/\k<j then a[i+j-1-k]? else a[k]?)(k:Nat):kk key b k=if i<=k/\k<j then kk key a (i+j-1-k) else kk key a k:=by
 unfold kk;rw[h k];split <;> rfl
theorem pQ(h:∀k,b[k]?=if i<=k/\k<j then a[i+j-1-k]? else a[k]?)(e:∀k,i<=k->k<j->kk key a k=kk key a (j-1))(k:Nat):kk key b k=kk key a k:=by
 rw[yg h];split
 .rename_i c;rw[e _ (by lia) (by lia),e k c.1 c.2]
 .rfl
theorem n6{a b:Array Keyed}{i j lo hi:Nat}(h:∀k,b[k]?=if i<=k/\k<j then a[i+j-1-k]? else a[k]?)(h1:lo<=i)(h2:j<=hi):kL a b lo hi:=fun k hk=>by rw[h k,au (by lia)]
theorem zG{st:SortSt}{lo ce n:Nat}{Q:Option (Option Nat)×Nat->SortSt->Prop}(hC:tY prog w A s κ a₀ key)(hn:lo+ce<=a₀.size)(h1:1<=n)(h2:n<=ce)(hB:SQ κ a₀ pd st)(so:So key (arrOf st) lo (lo+n))(h:∀m,n<=m->m<=ce->So key (arrOf st) lo (lo+m)->(m=ce\/kk key (arrOf st) (lo+m)<kk key (arrOf st) (lo+m-1))->Q (none,m) st):
  wpS (model prog w) A E s (forIn [n:ce] ((none:Option (Option Nat)),n) fun _ r=>do
   let some iq <- ltAt' (lo+r.2) (lo+r.2-1)|pure (ForInStep.done (some none,r.2))
   if iq then pure (ForInStep.done (none,r.2)) else pure (ForInStep.yield (none,r.2+1))) Q st:=by
 refine cK (eQ (I:=fun i c aM=>aM=st/\c=(none,i)/\So key (arrOf st) lo (lo+i)) (Q:=fun c aM=>aM=st/\∃m,c=(none,m)/\n<=m/\m<=ce/\So key (arrOf st) lo (lo+m)/\(m=ce\/kk key (arrOf st) (lo+m)<kk key (arrOf st) (lo+m-1))) ?_ ?_ ⟨rfl,rfl,so⟩) ?_
 .rintro i c uT YU JR ⟨rfl,rfl,Iu⟩;dsimp only;refine aA (lB hC hB (by lia) (by lia) fun b eb=>?_);cases b
  .have e:=kU eb.symm;refine aG ⟨rfl,rfl,fun x y hx AX hy=>?_⟩;by_cases c1:y<lo+i
   .exact Iu x y hx AX c1
   .have:y=lo+i:=by lia
    subst this;by_cases c2:x=lo+i
    .rw[c2];lia
    .have:=Iu x (lo+i-1) hx (by lia) (by lia);lia
  .exact aG ⟨rfl,_,rfl,by lia,by lia,Iu,.inr (dH eb.symm)⟩
 .rintro c uT ⟨rfl,rfl,Iu⟩;have:max n ce=ce:=by lia
  rw[this] at Iu |-;exact⟨rfl,_,rfl,by lia,by lia,Iu,.inl rfl⟩
 .rintro c uT ⟨rfl,m,rfl,m1,m2,Iu,e⟩;exact h m m1 m2 Iu e
theorem zH{st:SortSt}{lo ce n:Nat}{Q:Option Nat->SortSt->Prop}(hC:tY prog w A s κ a₀ key)(hn:lo+ce<=a₀.size)(h1:1<=n)(h2:n<=ce)(hB:SQ κ a₀ pd st)(de:De key (arrOf st) lo (lo+n))(ou:kL ar (arrOf st) lo (lo+ce))(h:∀n aM,SQ κ a₀ pd aM->1<=n->n<=ce->So key (arrOf aM) lo (lo+n)->kL ar (arrOf aM) lo (lo+ce)->Q (some n) aM):wpS (model prog w) A E s (J2 lo ce n) Q st:=by
 unfold J2;refine aA (n5 hB (by lia) fun fU yh hg=>?_);refine aA (zG hC hn h1 h2 yh (fun i j hi J5 hj=>?_) fun m m1 m2 so _=>?_)
 .rw[yg hg,yg hg,aq (by lia),aq (by lia)];exact de _ _ (by lia) (by lia) (by lia)
 .exact aG (h m fU yh (by lia) m2 so (ou.trans (n6 hg (by lia) (by lia))))
theorem zJ{st:SortSt}{lo ce n:Nat}{Q:Option Nat->SortSt->Prop}(hC:tY prog w A s κ a₀ key)(hn:lo+ce<=a₀.size)(h1:1<=n)(h2:n<ce)(hB:SQ κ a₀ pd st)(de:De key (arrOf st) lo (lo+(n+1)))(ou:kL ar (arrOf st) lo (lo+ce))(h:∀n aM,SQ κ a₀ pd aM->1<=n->n<=ce->So key (arrOf aM) lo (lo+n)->kL ar (arrOf aM) lo (lo+ce)->Q (some n) aM):wpS (model prog w) A E s (J3 lo ce n) Q st:=by
 unfold J3;refine aA (kj (fL ⟨rfl,?_⟩));dsimp only;refine aA (cK (eQ (I:=fun i c aM=>SQ κ a₀ pd aM/\De key (arrOf aM) lo (lo+i)/\kL ar (arrOf aM) lo (lo+ce)/\∃q,c=(none,i,q)/\q+1<=i/\∀k,lo+i-(q+1)<=k->k<lo+i->kk key (arrOf aM) k=kk key (arrOf aM) (lo+i-1)) (Q:=fun c aM=>SQ κ a₀ pd aM/\kL ar (arrOf aM) lo (lo+ce)/\∃i q,c=(none,i,q)/\De key (arrOf aM) lo (lo+i)/\1<=i/\i<=ce/\q+1<=i/\∀k,lo+i-(q+1)<=k->k<lo+i->kk key (arrOf aM) k=kk key (arrOf aM) (lo+i-1)) ?_ ?_ ⟨hB,de,ou,_,rfl,by lia,fun k JZ J0=>by rw[show k=lo+(n+1)-1 by lia]⟩) ?_)
 .rintro i c s_ YU JR ⟨AW,F6,Dk,q,rfl,hq,eq⟩;dsimp only;have step:∀aM,(∀k,kk key (arrOf aM) k=kk key (arrOf s_) k)->kk key (arrOf s_) (lo+i)<=kk key (arrOf s_) (lo+i-1)->De key (arrOf aM) lo (lo+(i+1)):=by
   intro aM e dX x y hx AX hy;rw[e,e];by_cases c1:y<lo+i
   .exact F6 x y hx AX c1
   .have:y=lo+i:=by lia
    subst this;by_cases c2:x=lo+i
    .rw[c2];lia
    .have:=F6 x (lo+i-1) hx (by lia) (by lia);lia
  refine aA (lB hC AW (by lia) (by lia) fun b3 e3=>?_);cases b3
  .have YV:=kU e3.symm;dsimp only;rw[au (by decide)];refine aA (lB hC AW (by lia) (by lia) fun b4 e4=>?_);cases b4
   .have e4':=kU e4.symm;refine aG ⟨AW,step s_ (fun _=>rfl) (by lia),Dk,_,rfl,by lia,fun k JZ J0=>?_⟩;rw[show lo+(i+1)-1=lo+i by lia];by_cases c1:k=lo+i
    .rw[c1]
    .have:=eq k (by lia) (by lia);lia
   .exact aG ⟨AW,Dk,_,_,rfl,F6,by lia,by lia,hq,eq⟩
  .have YV:=dH e3.symm;dsimp only;rw[aq rfl];split
   .refine aA (n5 AW (by lia) fun qu SO hg=>aG ⟨SO,step qu (pQ hg eq) (by lia),Dk.trans (n6 hg (by lia) (by lia)),_,rfl,by lia,fun k JZ J0=>by rw[show k=lo+(i+1)-1 by lia]⟩)
   .exact aG ⟨AW,step s_ (fun _=>rfl) (by lia),Dk,_,rfl,by lia,fun k JZ J0=>by rw[show k=lo+(i+1)-1 by lia]⟩
 .rintro c s_ ⟨AW,F6,Dk,q,rfl,hq,eq⟩;have:max (n+1) ce=ce:=by lia
  rw[this] at F6 hq eq |-;exact⟨AW,Dk,_,_,rfl,F6,by lia,by lia,hq,eq⟩
 .rintro c s_ ⟨AW,Dk,i,q,rfl,F6,i1,i2,hq,eq⟩;dsimp only;split
  .refine aA (n5 AW (by lia) fun qu SO hg=>?_);refine zH hC hn i1 i2 SO (fun x y hx AX hy=>?_) (Dk.trans (n6 hg (by lia) (by lia))) h;rw[pQ hg eq,pQ hg eq];exact F6 x y hx AX hy
  .exact zH hC hn i1 i2 AW F6 Dk h
theorem AY{st:SortSt}{lo ce:Nat}{Q:Option Nat->SortSt->Prop}(hC:tY prog w A s κ a₀ key)(hn:lo+ce<=a₀.size)(h1:1<=ce)(hB:SQ κ a₀ pd st)(h:∀n aM,SQ κ a₀ pd aM->1<=n->n<=ce->So key (arrOf aM) lo (lo+n)->kL (arrOf st) (arrOf aM) lo (lo+ce)->Q (some n) aM):wpS (model prog w) A E s (countRun' lo ce) Q st:=by
 rw[qI];refine aA (zG hC hn (a9 1) h1 hB (fun i j hi J5 hj=>by rw[show i=j by lia];exact iU _) fun n n1 n2 so e=>?_);dsimp only;by_cases e1:(n==ce)=true
 .rw[aq e1];exact aG (h n st hB n1 n2 so kL.refl)
 rw[au e1];have g1:¬ (n=ce):=by simpa using e1
 have dX:kk key (arrOf st) (lo+n)<kk key (arrOf st) (lo+n-1):=e.resolve_left g1;by_cases e2:n > 1
 .rw[aq e2];refine aA (lB hC hB (by lia) (by lia) fun b2 eb=>?_);cases b2
  .have e3:=kU eb.symm;dsimp only;rw[au (by decide)];have eq:∀k,lo<=k->k<lo+n->kk key (arrOf st) k=kk key (arrOf st) (lo+n-1):=fun k JZ J0=>by
    have a1:=so lo k (by lia) JZ J0;have a2:=so k (lo+n-1) JZ (by lia) (by lia);lia
   refine aA (n5 hB (by lia) fun fU yh hg=>?_);refine zJ hC hn n1 (by lia) yh (fun i j hi J5 hj=>?_) (n6 hg (by lia) (by lia)) h;rw[pQ hg eq,pQ hg eq];by_cases c1:j<lo+n
   .rw[eq j (by lia) c1,eq i hi (by lia)];exact iU _
   .have:j=lo+n:=by lia
    subst this;by_cases c2:i=lo+n
    .rw[c2];exact iU _
    .rw[eq i hi (by lia)];lia
  .exact aG (h n st hB n1 n2 so kL.refl)
 .rw[au e2];have:n=1:=by lia
  subst this;refine zJ hC hn n1 (by lia) hB (fun i j hi J5 hj=>?_) kL.refl h;by_cases c1:i=j
  .rw[c1];exact iU _
  .have:i=lo:=by lia
   have:j=lo+1:=by lia
   subst i;subst j;rw[show lo+1-1=lo by lia] at dX;lia
end
theorem yi(left:Bool)(key:Keyed)(arr:Array Keyed)(base n dt:Nat):dD left key arr base n dt=(do
 let tZ (i:Nat):StateT SortSt Sem (Option Bool):=do
  let x <- elem' arr (base+i)
  if left then lt' x key else return (<-lt' key x).map (!·)
 let mut lastofs:=0
 let mut ofs:=1
 let mut lo:=0
 let mut hi:=0
 let some right <- tZ dt|return none
 if right then
  let pR:=n-dt
  for _ in [0:n] do
   if ofs>=pR then break
   let some more <- tZ (dt+ofs)|return none
   if !more then break
   lastofs:=ofs
   ofs:=2*ofs+1
  lo:=dt+lastofs+1
  hi:=dt+min ofs pR
 else
  let pR:=dt+1
  for _ in [0:n] do
   if ofs>=pR then break
   let some Dl <- tZ (dt-ofs)|return none
   if Dl then break
   lastofs:=ofs
   ofs:=2*ofs+1
  lo:=dt+1-min ofs pR
  hi:=dt-lastofs
 for _ in [0:n] do
  if lo>=hi then break
  let m:=lo+(hi-lo) / 2
  let some more <- tZ m|return none
  if more then lo:=m+1 else hi:=m
 return some hi):=rfl
def pS(left:Bool)(k:Int):Int:=if left then k else k+1
section
variable {prog:Program} {w:World} {A:Around} {E:Value->Shared->Prop} {s:Shared} {κ:SortKind} {a₀:Array Keyed} {pd:Array (Nat×Nat×Nat)} {key:Keyed->Int}
theorem ir{st:SortSt}{left:Bool}{x:Keyed}{arr:Array Keyed}{j:Nat}{Q:Option Bool->SortSt->Prop}(hC:tY prog w A s κ a₀ key)(hk:kindOf st=κ)(nq:x∈a₀.toList)(m_:∀x∈arr.toList,x∈a₀.toList)(hj:j<arr.size)(h:∀b,b=decide (kk key arr j<pS left (key x))->Q (some b) st):
  wpS (model prog w) A E s (do
  let y <- elem' arr j
  if left then lt' y x else return (<-lt' x y).map (!·)) Q st:=by
 have hm:arr[j]∈a₀.toList:=m_ _ (by simp);refine aA (ba (cF arr j hj) ?_);cases left
 .rw[au (by decide)];refine aA (pP hC hk nq hm (aG (h _ ?_)));rw[cj hj];show (!decide (key x<key arr[j]))=decide (key arr[j]<key x+1);by_cases c:key x<key arr[j]
  .rw[bJ c,d6 (by lia)];rfl
  .rw[d6 c,bJ (by lia)];rfl
 .rw[aq rfl];refine pP hC hk hm nq (h _ ?_);rw[cj hj];rfl
theorem vF{st:SortSt}{left:Bool}{x:Keyed}{arr:Array Keyed}{base n l u:Nat}{Q:Option Nat->SortSt->Prop}(hC:tY prog w A s κ a₀ key)(hk:kindOf st=κ)(nq:x∈a₀.toList)(m_:∀x∈arr.toList,x∈a₀.toList)(hn:base+n<=arr.size)(so:So key arr base (base+n))(hl:l<=u)(hu:u<=n)(f1:∀i,i<l->kk key arr (base+i)<pS left (key x))(f2:∀i,u<=i->i<n->pS left (key x)<=kk key arr (base+i))(h:∀k,k<=n->(∀i,i<k->kk key arr (base+i)<pS left (key x))->(∀i,k<=i->i<n->pS left (key x)<=kk key arr (base+i))->Q (some k) st):wpS (model prog w) A E s (do
   let mut lo:=l
   let mut hi:=u
   for _ in [0:n] do
    if lo>=hi then break
    let m:=lo+(hi-lo) / 2
    let some more <- (do
     let y <- elem' arr (base+m)
     if left then lt' y x else return (<-lt' x y).map (!·))|return none
    if more then lo:=m+1 else hi:=m
   return some hi) Q st:=by
 refine aA (cK (eQ (I:=fun j c aM=>(∃l u,c=(none,l,u)/\l<=u/\u<=n/\u<=l+(n-j)/\(∀i,i<l->kk key arr (base+i)<pS left (key x))/\(∀i,u<=i->i<n->pS left (key x)<=kk key arr (base+i)))/\st=aM) (Q:=fun c aM=>(∃l u,c=(none,l,u)/\u<=l/\u<=n/\(∀i,i<l->kk key arr (base+i)<pS left (key x))/\(∀i,u<=i->i<n->pS left (key x)<=kk key arr (base+i)))/\st=aM) ?_ ?_ ⟨⟨_,_,rfl,hl,hu,by lia,f1,f2⟩,rfl⟩) ?_)
 .rintro j c aM _ hj ⟨⟨l,u,rfl,Wm,hu,hd,f1,f2⟩,rfl⟩;dsimp only;by_cases zF:l>=u
  .rw[aq zF];exact aG ⟨⟨_,_,rfl,zF,hu,f1,f2⟩,rfl⟩
  .rw[au zF];refine aA (ir hC hk nq m_ (by lia) fun more e=>?_);cases more
   .have e':=kU e.symm;refine aG ⟨⟨_,_,rfl,by lia,by lia,by lia,f1,fun i hi qt=>?_⟩,rfl⟩;have:=so (base+(l+(u-l) / 2)) (base+i) (by lia) (by lia) (by lia);lia
   .have e':=dH e.symm;refine aG ⟨⟨_,_,rfl,by lia,by lia,by lia,fun i hi=>?_,f2⟩,rfl⟩;have:=so (base+i) (base+(l+(u-l) / 2)) (by lia) (by lia) (by lia);lia
 .rintro c aM ⟨⟨l,u,rfl,Wm,hu,hd,f1,f2⟩,rfl⟩;exact⟨⟨_,_,rfl,by lia,hu,f1,f2⟩,rfl⟩
 .rintro c aM ⟨⟨l,u,rfl,Wm,hu,f1,f2⟩,rfl⟩;exact aG (h u hu (fun i hi=>f1 i (by lia)) f2)
theorem eF{st:SortSt}{left:Bool}{x:Keyed}{arr:Array Keyed}{base n dt:Nat}{Q:Option Nat->SortSt->Prop}(hC:tY prog w A s κ a₀ key)(hk:kindOf st=κ)(nq:x∈a₀.toList)(m_:∀x∈arr.toList,x∈a₀.toList)(hn:base+n<=arr.size)(hh:dt<n)(so:So key arr base (base+n))(h:∀k,k<=n->(∀i,i<k->kk key arr (base+i)<pS left (key x))->(∀i,k<=i->i<n->pS left (key x)<=kk key arr (base+i))->Q (some k) st):wpS (model prog w) A E s (dD left x arr base n dt) Q st:=by
 rw[yi];refine aA (ir hC hk nq m_ (by lia) fun right er=>?_);cases right
 .have Wn:=kU er.symm;dsimp only;rw[au (by decide)];refine aA (cK (eQ (I:=fun j c aM=>(∃l o,c=(none,l,o)/\l<o/\j<o/\l<=dt/\pS left (key x)<=kk key arr (base+(dt-l)))/\st=aM) (Q:=fun c aM=>(∃l o,c=(none,l,o)/\l<o/\l<=dt/\pS left (key x)<=kk key arr (base+(dt-l))/\(dt+1<=o\/kk key arr (base+(dt-o))<pS left (key x)))/\st=aM) ?_ ?_ ⟨⟨_,_,rfl,by lia,by lia,by lia,by rw[Nat.sub_zero];lia⟩,rfl⟩) ?_)
  .rintro j c aM _ _ ⟨⟨l,o,rfl,vj,J6,hl,f⟩,rfl⟩;dsimp only;by_cases zF:o>=dt+1
   .rw[aq zF];exact aG ⟨⟨_,_,rfl,vj,hl,f,.inl zF⟩,rfl⟩
   .rw[au zF];refine aA (ir hC hk nq m_ (by lia) fun Dl e=>?_);cases Dl
    .have e':=kU e.symm;exact aG ⟨⟨_,_,rfl,by lia,by lia,by lia,by lia⟩,rfl⟩
    .exact aG ⟨⟨_,_,rfl,vj,hl,f,.inr (dH e.symm)⟩,rfl⟩
  .rintro c aM ⟨⟨l,o,rfl,vj,J6,hl,f⟩,rfl⟩;exact⟨⟨_,_,rfl,vj,hl,f,.inl (by lia)⟩,rfl⟩
  .rintro c aM ⟨⟨l,o,rfl,vj,hl,f,e⟩,rfl⟩;dsimp only;refine vF hC hk nq m_ hn so (by lia) (by lia) (fun i hi=>?_) (fun i hi qt=>?_) h
   .rcases e with e|e
    .lia
    .by_cases c:dt+1<=o
     .lia
     .have:=so (base+i) (base+(dt-o)) (by lia) (by lia) (by lia);lia
   .have:=so (base+(dt-l)) (base+i) (by lia) (by lia) (by lia);lia
 .have Wn:=dH er.symm;dsimp only;rw[aq rfl];refine aA (cK (eQ (I:=fun j c aM=>(∃l o,c=(none,l,o)/\l<o/\j<o/\l<n-dt/\kk key arr (base+(dt+l))<pS left (key x))/\st=aM) (Q:=fun c aM=>(∃l o,c=(none,l,o)/\l<o/\l<n-dt/\kk key arr (base+(dt+l))<pS left (key x)/\(n-dt<=o\/pS left (key x)<=kk key arr (base+(dt+o))))/\st=aM) ?_ ?_ ⟨⟨_,_,rfl,by lia,by lia,by lia,by rw[kg];exact Wn⟩,rfl⟩) ?_)
  .rintro j c aM _ _ ⟨⟨l,o,rfl,vj,J6,hl,f⟩,rfl⟩;dsimp only;by_cases zF:o>=n-dt
   .rw[aq zF];exact aG ⟨⟨_,_,rfl,vj,hl,f,.inl zF⟩,rfl⟩
   .rw[au zF];refine aA (ir hC hk nq m_ (by lia) fun more e=>?_);cases more
    .have e':=kU e.symm;exact aG ⟨⟨_,_,rfl,vj,hl,f,.inr (by lia)⟩,rfl⟩
    .exact aG ⟨⟨_,_,rfl,by lia,by lia,by lia,dH e.symm⟩,rfl⟩
  .rintro c aM ⟨⟨l,o,rfl,vj,J6,hl,f⟩,rfl⟩;exact⟨⟨_,_,rfl,vj,hl,f,.inl (by lia)⟩,rfl⟩
  .rintro c aM ⟨⟨l,o,rfl,vj,hl,f,e⟩,rfl⟩;dsimp only;refine vF hC hk nq m_ hn so (by lia) (by lia) (fun i hi=>?_) (fun i hi qt=>?_) h
   .have:=so (base+i) (base+(dt+l)) (by lia) (by lia) (by lia);lia
   .rcases e with e|e
    .lia
    .by_cases c:n-dt<=o
     .lia
     .have:=so (base+(dt+o)) (base+i) (by lia) (by lia) (by lia);lia
end
theorem dk(g:Nat):cA g=modify fun s=>SortSt.mk' (kindOf s) (arrOf s) (pendingOf s) g (failedOf s):=rfl
structure SM(κ:SortKind)(ar:Array Keyed)(pd:Array (Nat×Nat×Nat))(st:SortSt):Prop where
 arr:arrOf st=ar
 kind:kindOf st=κ
 failed:failedOf st=none
 pend:pendingOf st=pd
abbrev QB:=Option (Array Keyed)×Array Keyed×Nat×Nat×Nat×Nat×Nat
abbrev kC(a b out:Array Keyed)(ia ib:Nat):=out++a.extract ia a.size++b.extract ib b.size
abbrev t_(a b out:Array Keyed)(ia ib:Nat):=out++b.extract ib b.size++a.extract ia a.size
def QC(a b out:Array Keyed)(ia ib mg ac bc:Nat):StateT SortSt Sem (ForInStep QB):=do
 let x <- elem' a ia
 if ia+1+1==a.size then pure (.done (some (t_ a b (out.push x) (ia+1) ib),out.push x,ia+1,ib,mg,ac,bc))
 else if ac<7&&bc<7 then pure (.done (none,out.push x,ia+1,ib,mg,ac,bc)) else pure (.yield (none,out.push x,ia+1,ib,mg,ac,bc))
def QD(a b out:Array Keyed)(ia ib mg ac bc:Nat):StateT SortSt Sem (ForInStep QB):=do
 let x <- elem' b ib
 if ib+1==b.size then pure (.done (some (kC a b (out.push x) ia (ib+1)),out.push x,ia,ib+1,mg,ac,bc))
 else do
  let some k <- dD true (<-elem' a ia) b (ib+1) (b.size-(ib+1)) 0|pure (.done (some (kC a b (out.push x) ia (ib+1)),out.push x,ia,ib+1,mg,ac,bc))
  if k > 0 then
   if ib+1+k==b.size then pure (.done (some (kC a b (out.push x++b.extract (ib+1) (ib+1+k)) ia (ib+1+k)),out.push x++b.extract (ib+1) (ib+1+k),ia,ib+1+k,mg,ac,k))
   else QC a b (out.push x++b.extract (ib+1) (ib+1+k)) ia (ib+1+k) mg ac k
  else QC a b (out.push x) ia (ib+1) mg ac k
def QE(a b out:Array Keyed)(ia ib mg ac bc:Nat):StateT SortSt Sem (ForInStep QB):=do
 cA mg
 let some k <- dD false (<-elem' b ib) a ia (a.size-ia) 0|pure (.done (some (kC a b out ia ib),out,ia,ib,mg,ac,bc))
 if k > 0 then
  if ia+k+1==a.size then pure (.done (some (t_ a b (out++a.extract ia (ia+k)) (ia+k) ib),out++a.extract ia (ia+k),ia+k,ib,mg,k,bc))
  else if ia+k==a.size then pure (.done (some (kC a b (out++a.extract ia (ia+k)) (ia+k) ib),out++a.extract ia (ia+k),ia+k,ib,mg,k,bc))
  else QD a b (out++a.extract ia (ia+k)) (ia+k) ib mg k bc
 else QD a b out ia ib mg k bc
theorem vG(a b:Array Keyed):pL a b=(do
 rule "list.sort.merge-lo"
 let total:=a.size+b.size
 let done (out:Array Keyed) (ia ib:Nat):=out++a.extract ia a.size++b.extract ib b.size
 let n9 (out:Array Keyed) (ia ib:Nat):=out++b.extract ib b.size++a.extract ia a.size
 let mut out:Array Keyed:=#[<-elem' b 0]
 let mut ia:=0
 let mut ib:=1
 if ib==b.size then return done out ia ib
 if ia+1==a.size then return n9 out ia ib
 let mut minGallop:=gallopOf (<-get)
 for _ in [0:total] do
  let mut acount:=0
  let mut bcount:=0
  for _ in [0:total] do
   let some NQ <- lt' (<-elem' b ib) (<-elem' a ia)|return done out ia ib
   if NQ then
    out:=out.push (<-elem' b ib);ib:=ib+1;bcount:=bcount+1;acount:=0
    if ib==b.size then return done out ia ib
    if bcount>=minGallop then break
   else
    out:=out.push (<-elem' a ia);ia:=ia+1;acount:=acount+1;bcount:=0
    if ia+1==a.size then return n9 out ia ib
    if acount>=minGallop then break
  rule "list.sort.gallop"
  minGallop:=minGallop+1
  for _ in [0:total] do
   if minGallop > 1 then minGallop:=minGallop-1
   cA minGallop
   let some k <- dD false (<-elem' b ib) a ia (a.size-ia) 0|return done out ia ib
   acount:=k
   if k > 0 then
    out:=out++a.extract ia (ia+k);ia:=ia+k
    if ia+1==a.size then return n9 out ia ib
    if ia==a.size then return done out ia ib
   out:=out.push (<-elem' b ib);ib:=ib+1
   if ib==b.size then return done out ia ib
   let some k <- dD true (<-elem' a ia) b ib (b.size-ib) 0|return done out ia ib
   bcount:=k
   if k > 0 then
    out:=out++b.extract ib (ib+k);ib:=ib+k
    if ib==b.size then return done out ia ib
   out:=out.push (<-elem' a ia);ia:=ia+1
   if ia+1==a.size then return n9 out ia ib
   if acount<7&&bcount<7 then break
  minGallop:=minGallop+1
  cA minGallop
 unsupported "internal:list.sort.merge-bound"):=rfl
def PI(a b out:Array Keyed)(ia ib:Nat):Prop:=out.toList.Perm (a.toList.take ia++b.toList.take ib)
theorem vI{l:List Keyed}{i:Nat}(h:i<l.length):l.take (i+1)=l.take i++[l[i]]:=by rw[eL,cV h];rfl
theorem PI.gm{a b out:Array Keyed}{ia ib:Nat}(h:PI a b out ia ib)(hi:ia<a.size):PI a b (out.push a[ia]) (ia+1) ib:=by
 unfold PI at h |-;rw[iB,vI (by simpa using hi),iP];refine(h.append_right _).trans ?_;rw[iP];refine List.Perm.append_left _ ?_;have:a.toList[ia]'(by simpa using hi)=a[ia]:=by simp
 rw[this];exact oy
theorem dW{a:Array Keyed}{i j:Nat}:(a.extract i j).toList=(a.toList.drop i).take (j-i):=by
 rw[wY,List.extract_eq_take_drop]
theorem Dm{a:Array Keyed}{i k:Nat}(h:i+k<a.size):a.extract i (i+(k+1))=(a.extract i (i+k)).push a[i+k]:=by
 apply Array.toList_inj.mp;rw[iB,dW,dW,Nat.add_sub_cancel_left,Nat.add_sub_cancel_left,vI (by simp;lia)];congr 2;simp
structure MI(key:Keyed->Int)(a b out:Array Keyed)(ia ib:Nat):Prop where
 perm:PI a b out ia ib
 so:out.toList.Pairwise fun x y=>key x<=key y
 la:∀x∈out.toList,ia<a.size->key x<=kk key a ia
 lb:∀x∈out.toList,ib<b.size->key x<=kk key b ib
def Fi(key:Keyed->Int)(a b r:Array Keyed):Prop:=r.Perm (a++b)/\r.toList.Pairwise fun x y=>key x<=key y
section
variable {key:Keyed->Int} {a b out:Array Keyed} {ia ib:Nat}
theorem MI.swap(h:MI key a b out ia ib):MI key b a out ib ia:=⟨h.perm.trans oy,h.so,h.lb,h.la⟩
theorem MI.gm(h:MI key a b out ia ib)(hi:ia<a.size)(sa:So key a 0 a.size)(c:ib<b.size->kk key a ia<=kk key b ib):MI key a b (out.push a[ia]) (ia+1) ib:=by
 refine⟨h.perm.gm hi,?_,fun x hx hl=>?_,fun x hx hl=>?_⟩
 .rw[iB];refine rP.mpr ⟨h.so,List.pairwise_singleton _ _,fun x hx y hy=>?_⟩;rw[cX.mp hy,<-cj (key:=key) hi];exact h.la x hx hi
 .rw[iB] at hx;have:=sa ia (ia+1) (by lia) (by lia) hl;rcases cf.mp hx with z|z
  .have:=h.la x z hi;lia
  .rw[cX.mp z,<-cj (key:=key) hi];exact this
 .rw[iB] at hx;rcases cf.mp hx with z|z
  .exact h.lb x z hl
  .rw[cX.mp z,<-cj (key:=key) hi];exact c hl
theorem MI.ua(h:MI key a b out ia ib)(sa:So key a 0 a.size):∀ (k:Nat),ia+k<=a.size->(ib<b.size->∀i,i<k->kk key a (ia+i)<=kk key b ib)->MI key a b (out++a.extract ia (ia+k)) (ia+k) ib
 |0,_,_=>by
  have e:a.extract ia (ia+0)=#[]:=by simp;lia
  rw[e,Array.append_empty];exact h
 |k+1,hk,c=>by
  have:=(MI.ua h sa k (by lia) fun hb i hi=>c hb i (by lia)).gm (by lia) sa fun hb=>c hb k (by lia);rw[Dm (by lia),<-Array.push_append];exact this
theorem MI.rk(h:MI key a b out ia ib)(hi:ib<b.size)(sb:So key b 0 b.size)(c:ia<a.size->kk key b ib<=kk key a ia):MI key a b (out.push b[ib]) ia (ib+1):=(h.swap.gm hi sb c).swap
theorem MI.Dn(h:MI key a b out ia ib)(sb:So key b 0 b.size)(k:Nat)(hk:ib+k<=b.size)(c:ia<a.size->∀i,i<k->kk key b (ib+i)<=kk key a ia):MI key a b (out++b.extract ib (ib+k)) ia (ib+k):=(h.swap.ua sb k hk c).swap
theorem MI.fin(h:MI key a b out a.size b.size):Fi key a b out:=by
 refine⟨?_,h.so⟩;have:=h.perm;unfold PI at this;rw[wR (by simp),wR (by simp)] at this;rw[jN,mV];exact this
theorem MI.done(h:MI key a b out ia ib)(sa:So key a 0 a.size)(sb:So key b 0 b.size)(ha:ia<=a.size)(hb:ib<=b.size)(c:ib<b.size->∀i,i<a.size-ia->kk key a (ia+i)<=kk key b ib):Fi key a b (kC a b out ia ib):=by
 have h1:=h.ua sa (a.size-ia) (by lia) c;rw[show ia+(a.size-ia)=a.size by lia] at h1;have h2:=h1.Dn sb (b.size-ib) (by lia) fun z=>by lia
 rw[show ib+(b.size-ib)=b.size by lia] at h2;exact h2.fin
theorem MI.last(h:MI key a b out ia ib)(sa:So key a 0 a.size)(sb:So key b 0 b.size)(ha:ia<=a.size)(hb:ib<=b.size)(c:ia<a.size->∀i,i<b.size-ib->kk key b (ib+i)<=kk key a ia):Fi key a b (t_ a b out ia ib):=by
 have:=h.swap.done sb sa hb ha c;refine⟨this.1.trans ?_,this.2⟩;rw[jN,mV,mV];exact oy
end
section
variable {prog:Program} {w:World} {A:Around} {E:Value->Shared->Prop} {s:Shared} {κ:SortKind} {a₀:Array Keyed} {pd:Array (Nat×Nat×Nat)} {ar:Array Keyed} {key:Keyed->Int}
structure vJ(key:Keyed->Int)(a₀ a b:Array Keyed):Prop where
 ha:∀x∈a.toList,x∈a₀.toList
 hb:∀x∈b.toList,x∈a₀.toList
 a1:1<=a.size
 b1:1<=b.size
 sa:So key a 0 a.size
 sb:So key b 0 b.size
 c0:kk key b 0<=kk key a 0
 c1:∀i,i<b.size->kk key b i<=kk key a (a.size-1)
theorem vJ.last(T:vJ key a₀ a b)(h:MI key a b out ia ib)(ha:ia+1=a.size)(hb:ib<=b.size):Fi key a b (t_ a b out ia ib):=
 h.last T.sa T.sb (by lia) hb fun _ i hi=>by
  have:=T.c1 (ib+i) (by lia);rw[show a.size-1=ia by lia] at this;exact this
theorem vJ.done(T:vJ key a₀ a b)(h:MI key a b out ia ib)(ha:ia<=a.size)(hb:ib=b.size):Fi key a b (kC a b out ia ib):=
 h.done T.sa T.sb ha (by lia) fun z=>by lia
def GP(κ:SortKind)(ar:Array Keyed)(pd:Array (Nat×Nat×Nat))(key:Keyed->Int)(a b:Array Keyed)(n:Nat)(r:ForInStep QB)(st:SortSt):Prop:=SM κ ar pd st/\
 ((∃x c,r=.done (some x,c)/\Fi key a b x)\/∃out ia ib mg ac bc,(r=.done (none,out,ia,ib,mg,ac,bc)\/r=.yield (none,out,ia,ib,mg,ac,bc))/\MI key a b out ia ib/\ia+1<a.size/\ib<b.size/\n<=ia+ib)
theorem zK{st:SortSt}{a b out:Array Keyed}{ia ib mg ac bc n:Nat}(T:vJ key a₀ a b)(hB:SM κ ar pd st)(h:MI key a b out ia ib)(la:ia+1<a.size)(lb:ib<b.size)(li:n<=ia+ib)(c:kk key a ia<=kk key b ib):
  wpS (model prog w) A E s (QC a b out ia ib mg ac bc) (GP κ ar pd key a b n) st:=by
 unfold QC;refine aA (ba (cF a ia (by lia)) ?_);have p:=h.gm (show ia<a.size by lia) T.sa fun _=>c;by_cases f:(ia+1+1==a.size)=true
 .rw[aq f];exact aG ⟨hB,.inl ⟨_,_,rfl,T.last p (by simpa using f) (by lia)⟩⟩
 rw[au f];have g:¬ (ia+1+1=a.size):=by simpa using f
 split
 .exact aG ⟨hB,.inr ⟨_,_,_,_,_,_,.inl rfl,p,by lia,by lia,by lia⟩⟩
 .exact aG ⟨hB,.inr ⟨_,_,_,_,_,_,.inr rfl,p,by lia,by lia,by lia⟩⟩
theorem zL{st:SortSt}{a b out:Array Keyed}{ia ib mg ac bc n:Nat}(hC:tY prog w A s κ a₀ key)(T:vJ key a₀ a b)(hB:SM κ ar pd st)(h:MI key a b out ia ib)(la:ia+1<a.size)(lb:ib<b.size)(li:n<=ia+ib)(c:kk key b ib<=kk key a ia):
  wpS (model prog w) A E s (QD a b out ia ib mg ac bc) (GP κ ar pd key a b n) st:=by
 unfold QD;refine aA (ba (cF b ib (by lia)) ?_);have p:=h.rk lb T.sb fun _=>c;by_cases f:(ib+1==b.size)=true
 .rw[aq f];exact aG ⟨hB,.inl ⟨_,_,rfl,T.done p (by lia) (by simpa using f)⟩⟩
 rw[au f];have g:¬ (ib+1=b.size):=by simpa using f
 refine aA (ba (cF a ia (by lia)) ?_);refine aA (eF hC hB.kind (T.ha _ (by simp)) T.hb (by lia) (by lia) (fun i j h1 h2 h3=>T.sb i j (by lia) h2 (by lia)) fun k hk q1 q2=>?_);rw[<-cj (key:=key) (a:=a) (i:=ia) (by lia)] at q1 q2;simp only[pS,iW] at q1 q2;dsimp only;by_cases kp:k > 0
 .rw[aq kp];have p2:=p.Dn T.sb k (by lia) fun _ i hi=>by have:=q1 i hi;lia
  by_cases f2:(ib+1+k==b.size)=true
  .rw[aq f2];exact aG ⟨hB,.inl ⟨_,_,rfl,T.done p2 (by lia) (by simpa using f2)⟩⟩
  rw[au f2];have g2:¬ (ib+1+k=b.size):=by simpa using f2
  exact zK T hB p2 la (by lia) (by lia) (q2 k (by lia) (by lia))
 .rw[au kp];have e:k=0:=by lia
  subst e;exact zK T hB p la (by lia) (by lia) (q2 0 (by lia) (by lia))
theorem F7{st:SortSt}{a b out:Array Keyed}{ia ib mg ac bc n:Nat}(hC:tY prog w A s κ a₀ key)(T:vJ key a₀ a b)(hB:SM κ ar pd st)(h:MI key a b out ia ib)(la:ia+1<a.size)(lb:ib<b.size)(li:n<=ia+ib):
  wpS (model prog w) A E s (QE a b out ia ib mg ac bc) (GP κ ar pd key a b n) st:=by
 unfold QE;rw[dk];refine aA (eh ?_);have yh:SM κ ar pd (SortSt.mk' (kindOf st) (arrOf st) (pendingOf st) mg (failedOf st)):=⟨hB.arr,hB.kind,hB.failed,hB.pend⟩
 refine aA (ba (cF b ib (by lia)) ?_);refine aA (eF hC yh.kind (T.hb _ (by simp)) T.ha (by lia) (by lia) (fun i j h1 h2 h3=>T.sa i j (by lia) h2 (by lia)) fun k hk q1 q2=>?_);rw[<-cj (key:=key) (a:=b) (i:=ib) (by lia)] at q1 q2;simp only[pS,kW,eZ] at q1 q2;dsimp only;by_cases kp:k > 0
 .rw[aq kp];have p2:=h.ua T.sa k (by lia) fun _ i hi=>by have:=q1 i hi;lia
  by_cases f4:(ia+k+1==a.size)=true
  .rw[aq f4];exact aG ⟨yh,.inl ⟨_,_,rfl,T.last p2 (by simpa using f4) (by lia)⟩⟩
  rw[au f4];have g4:¬ (ia+k+1=a.size):=by simpa using f4
  by_cases f5:(ia+k==a.size)=true
  .rw[aq f5];have g5:ia+k=a.size:=by simpa using f5
   exact aG ⟨yh,.inl ⟨_,_,rfl,p2.done T.sa T.sb (by lia) (by lia) fun _ i hi=>by lia⟩⟩
  rw[au f5];have g5:¬ (ia+k=a.size):=by simpa using f5
  exact zL hC T yh p2 (by lia) lb (by lia) (by have:=q2 k (by lia) (by lia);lia)
 .rw[au kp];have e:k=0:=by lia
  subst e;exact zL hC T yh h la lb li (by have:=q2 0 (by lia) (by lia);rw[kg] at this;lia)
theorem vK{st:SortSt}{a b:Array Keyed}{Q:Array Keyed->SortSt->Prop}(hC:tY prog w A s κ a₀ key)(hB:SM κ ar pd st)(T:vJ key a₀ a b)(h:∀out aM,Fi key a b out->SM κ ar pd aM->Q out aM):wpS (model prog w) A E s (pL a b) Q st:=by
 have a1:=T.a1;have b1:=T.b1;rw[vG];refine aA (kj (fL ⟨rfl,?_⟩));refine aA (ba (cF b 0 (by lia)) ?_);dsimp only;have p0:MI key a b #[b[0]] 0 1:=by
  have:MI key a b #[] 0 0:=⟨by unfold PI;simp,List.Pairwise.nil,fun x hx=>by simp at hx,fun x hx=>by simp at hx⟩
  exact this.rk (by lia) T.sb fun _=>T.c0
 by_cases e1:(1==b.size)=true
 .rw[aq e1];exact aG (h _ _ (T.done p0 (by lia) (by simpa using e1)) hB)
 rw[au e1];have n1:¬ (1=b.size):=by simpa using e1
 by_cases e2:(0+1==a.size)=true
 .rw[aq e2];exact aG (h _ _ (T.last p0 (by simpa using e2) (by lia)) hB)
 rw[au e2];have n2:¬ (0+1=a.size):=by simpa using e2
 refine aA (e_ ?_);refine aA (cK (eQ (I:=fun i c aM=>SM κ ar pd aM/\∃out ia ib mg,c=(none,out,ia,ib,mg)/\MI key a b out ia ib/\ia+1<a.size/\ib<b.size/\i<=ia+ib) (Q:=fun c aM=>SM κ ar pd aM/\∃r c',c=(some r,c')/\Fi key a b r) ?_ ?_ ⟨hB,_,_,_,_,rfl,p0,by lia,by lia,by lia⟩) ?_)
 .rintro i c uT _ hi ⟨F8,out,ia,ib,mg,rfl,p1,la,lb,li⟩;dsimp only;refine aA (cK (eQ (I:=fun x c aM=>SM κ ar pd aM/\∃out ia ib ac bc,c=(none,out,ia,ib,ac,bc)/\MI key a b out ia ib/\ia+1<a.size/\ib<b.size/\i+x<=ia+ib) (Q:=fun c aM=>SM κ ar pd aM/\((∃r c',c=(some r,c')/\Fi key a b r)\/∃out ia ib ac bc,c=(none,out,ia,ib,ac,bc)/\MI key a b out ia ib/\ia+1<a.size/\ib<b.size/\i+1<=ia+ib)) ?_ ?_ ⟨F8,_,_,_,_,_,rfl,p1,la,lb,by lia⟩) ?_)
  .rintro x c fU _ hx ⟨fZ,out,ia,ib,ac,bc,rfl,p1,la,lb,li⟩;dsimp only;refine aA (ba (cF b ib (by lia)) ?_);refine aA (ba (cF a ia (by lia)) ?_);refine aA (pP hC fZ.kind (T.hb _ (by simp)) (T.ha _ (by simp)) ?_);rw[<-cj (key:=key) (a:=b) (i:=ib) (by lia),<-cj (key:=key) (a:=a) (i:=ia) (by lia)];by_cases bw:kk key b ib<kk key a ia
   .rw[bJ bw];dsimp only;rw[aq rfl];refine aA (ba (cF b ib (by lia)) ?_);have p2:=p1.rk (show ib<b.size by lia) T.sb fun _=>by lia
    by_cases f1:(ib+1==b.size)=true
    .rw[aq f1];exact aG ⟨fZ,.inl ⟨_,_,rfl,T.done p2 (by lia) (by simpa using f1)⟩⟩
    rw[au f1];have g1:¬ (ib+1=b.size):=by simpa using f1
    split
    .exact aG ⟨fZ,.inr ⟨_,_,_,_,_,rfl,p2,by lia,by lia,by lia⟩⟩
    .exact aG ⟨fZ,_,_,_,_,_,rfl,p2,by lia,by lia,by lia⟩
   .rw[d6 bw];dsimp only;rw[au (by decide)];refine aA (ba (cF a ia (by lia)) ?_);have p2:=p1.gm (show ia<a.size by lia) T.sa fun _=>by lia
    by_cases f1:(ia+1+1==a.size)=true
    .rw[aq f1];exact aG ⟨fZ,.inl ⟨_,_,rfl,T.last p2 (by simpa using f1) (by lia)⟩⟩
    rw[au f1];have g1:¬ (ia+1+1=a.size):=by simpa using f1
    split
    .exact aG ⟨fZ,.inr ⟨_,_,_,_,_,rfl,p2,by lia,by lia,by lia⟩⟩
    .exact aG ⟨fZ,_,_,_,_,_,rfl,p2,by lia,by lia,by lia⟩
  .rintro c fU ⟨fZ,out,ia,ib,ac,bc,rfl,p1,la,lb,li⟩;exact⟨fZ,.inr ⟨_,_,_,_,_,rfl,p1,la,lb,by lia⟩⟩
  .rintro c fU ⟨fZ,⟨r,c',rfl,hp⟩|⟨out,ia,ib,ac,bc,rfl,p1,la,lb,li⟩⟩
   .exact aG ⟨fZ,_,_,rfl,hp⟩
   .dsimp only;refine aA (kj (fL ⟨rfl,?_⟩));refine aA (cK (eQ (I:=fun x c aM=>SM κ ar pd aM/\∃out ia ib mg ac bc,c=(none,out,ia,ib,mg,ac,bc)/\MI key a b out ia ib/\ia+1<a.size/\ib<b.size/\i+1<=ia+ib) (Q:=fun c aM=>SM κ ar pd aM/\((∃r c',c=(some r,c')/\Fi key a b r)\/∃out ia ib mg ac bc,c=(none,out,ia,ib,mg,ac,bc)/\MI key a b out ia ib/\ia+1<a.size/\ib<b.size/\i+1<=ia+ib)) ?_ ?_ ⟨fZ,_,_,_,_,_,_,rfl,p1,la,lb,li⟩) ?_)
    .rintro x c fU _ hx ⟨fZ,out,ia,ib,mg,ac,bc,rfl,p1,la,lb,li⟩;change wpS (model prog w) A E s (if mg > 1 then QE a b out ia ib (mg-1) ac bc else QE a b out ia ib mg ac bc) _ fU;split <;>
     .refine cK (F7 hC T fZ p1 la lb li) ?_;rintro r aM ⟨m,⟨x,c,rfl,hf⟩|⟨out,ia,ib,mg,ac,bc,rfl|rfl,hh⟩⟩
      .exact⟨m,.inl ⟨_,_,rfl,hf⟩⟩
      .exact⟨m,.inr ⟨_,_,_,_,_,_,rfl,hh⟩⟩
      .exact⟨m,_,_,_,_,_,_,rfl,hh⟩
    .rintro c fU ⟨fZ,hh⟩;exact⟨fZ,.inr hh⟩
    .rintro c fU ⟨fZ,⟨r,c',rfl,hp⟩|⟨out,ia,ib,mg,ac,bc,rfl,p1,la,lb,li⟩⟩
     .exact aG ⟨fZ,_,_,rfl,hp⟩
     .dsimp only;rw[dk];refine aA (eh ?_);exact aG ⟨⟨fZ.arr,fZ.kind,fZ.failed,fZ.pend⟩,_,_,_,_,rfl,p1,la,lb,li⟩
 .rintro c uT ⟨F8,out,ia,ib,mg,rfl,p1,la,lb,li⟩;lia
 .rintro c uT ⟨F8,r,c',rfl,hp⟩;exact aG (h r uT hp F8)
end
abbrev QF:=Option (Array Keyed)×Nat×Nat×Array Keyed×Nat×Nat×Nat
abbrev kD(a b out:Array Keyed)(na nb:Nat):=a.extract 0 na++b.extract 0 nb++out.reverse
abbrev lC(a b out:Array Keyed)(na nb:Nat):=b.extract 0 nb++a.extract 0 na++out.reverse
def QG(a b:Array Keyed)(na nb:Nat)(out:Array Keyed)(mg ac bc:Nat):StateT SortSt Sem (ForInStep QF):=do
 let x <- elem' a (na-1)
 if na-1==0 then pure (.done (some (kD a b (out.push x) (na-1) nb),na-1,nb,out.push x,mg,ac,bc))
 else if ac<7&&bc<7 then pure (.done (none,na-1,nb,out.push x,mg,ac,bc)) else pure (.yield (none,na-1,nb,out.push x,mg,ac,bc))
def QH(a b:Array Keyed)(na nb:Nat)(out:Array Keyed)(mg ac bc:Nat):StateT SortSt Sem (ForInStep QF):=do
 let x <- elem' b (nb-1)
 if nb-1==1 then pure (.done (some (lC a b (out.push x) na (nb-1)),na,nb-1,out.push x,mg,ac,bc))
 else do
  let some at_ <- dD true (<-elem' a (na-1)) b 0 (nb-1) (nb-1-1)|pure (.done (some (kD a b (out.push x) na (nb-1)),na,nb-1,out.push x,mg,ac,bc))
  if nb-1-at_ > 0 then
   if at_==1 then pure (.done (some (lC a b (out.push x++(b.extract at_ (nb-1)).reverse) na at_),na,at_,out.push x++(b.extract at_ (nb-1)).reverse,mg,ac,nb-1-at_))
   else if at_==0 then pure (.done (some (kD a b (out.push x++(b.extract at_ (nb-1)).reverse) na at_),na,at_,out.push x++(b.extract at_ (nb-1)).reverse,mg,ac,nb-1-at_))
   else QG a b na at_ (out.push x++(b.extract at_ (nb-1)).reverse) mg ac (nb-1-at_)
  else QG a b na (nb-1) (out.push x) mg ac (nb-1-at_)
def QI(a b:Array Keyed)(na nb:Nat)(out:Array Keyed)(mg ac bc:Nat):StateT SortSt Sem (ForInStep QF):=do
 cA mg
 let some at_ <- dD false (<-elem' b (nb-1)) a 0 na (na-1)|pure (.done (some (kD a b out na nb),na,nb,out,mg,ac,bc))
 if na-at_ > 0 then
  if at_==0 then pure (.done (some (kD a b (out++(a.extract at_ na).reverse) at_ nb),at_,nb,out++(a.extract at_ na).reverse,mg,na-at_,bc))
  else QH a b at_ nb (out++(a.extract at_ na).reverse) mg (na-at_) bc
 else QH a b na nb out mg (na-at_) bc
theorem vL(a b:Array Keyed):pO a b=(do
 rule "list.sort.merge-hi"
 let total:=a.size+b.size
 let done (out:Array Keyed) (na nb:Nat):=a.extract 0 na++b.extract 0 nb++out.reverse
 let lD (out:Array Keyed) (na nb:Nat):=b.extract 0 nb++a.extract 0 na++out.reverse
 let mut na:=a.size-1
 let mut nb:=b.size
 let mut out:Array Keyed:=#[<-elem' a na]
 if na==0 then return done out na nb
 if nb==1 then return lD out na nb
 let mut minGallop:=gallopOf (<-get)
 for _ in [0:total] do
  let mut acount:=0
  let mut bcount:=0
  for _ in [0:total] do
   let some NU <- lt' (<-elem' b (nb-1)) (<-elem' a (na-1))|return done out na nb
   if NU then
    na:=na-1;out:=out.push (<-elem' a na);acount:=acount+1;bcount:=0
    if na==0 then return done out na nb
    if acount>=minGallop then break
   else
    nb:=nb-1;out:=out.push (<-elem' b nb);bcount:=bcount+1;acount:=0
    if nb==1 then return lD out na nb
    if bcount>=minGallop then break
  rule "list.sort.gallop"
  minGallop:=minGallop+1
  for _ in [0:total] do
   if minGallop > 1 then minGallop:=minGallop-1
   cA minGallop
   let some at_ <- dD false (<-elem' b (nb-1)) a 0 na (na-1)|return done out na nb
   let k:=na-at_
   acount:=k
   if k > 0 then
    out:=out++(a.extract at_ na).reverse;na:=at_
    if na==0 then return done out na nb
   nb:=nb-1;out:=out.push (<-elem' b nb)
   if nb==1 then return lD out na nb
   let some at_ <- dD true (<-elem' a (na-1)) b 0 nb (nb-1)|return done out na nb
   let k:=nb-at_
   bcount:=k
   if k > 0 then
    out:=out++(b.extract at_ nb).reverse;nb:=at_
    if nb==1 then return lD out na nb
    if nb==0 then return done out na nb
   na:=na-1;out:=out.push (<-elem' a na)
   if na==0 then return done out na nb
   if acount<7&&bcount<7 then break
  minGallop:=minGallop+1
  cA minGallop
 unsupported "internal:list.sort.merge-bound"):=rfl
def PH(a b out:Array Keyed)(na nb:Nat):Prop:=out.toList.Perm (a.toList.drop na++b.toList.drop nb)
theorem PH.gm(h:PH a b out na nb)(h1:1<=na)(hi:na-1<a.size):PH a b (out.push a[na-1]) (na-1) nb:=by
 unfold PH at h |-;have e:a.toList.drop (na-1)=a[na-1]::a.toList.drop na:=by
  have:=wG (l:=a.toList) (i:=na-1) (by simpa using hi);rw[this,Nat.sub_add_cancel h1];simp
 rw[iB,e];refine(h.append_right _).trans ?_;exact oy
theorem F9{a:Array Keyed}{k n:Nat}(h:k<n)(hn:n<=a.size):(a.extract k n).reverse=(a.extract (k+1) n).reverse.push a[k]:=by
 apply Array.toList_inj.mp;rw[iB,rR,rR,dW,dW];have e:=wG (l:=a.toList) (i:=k) (by simp;lia);rw[e,show n-k=(n-(k+1))+1 by lia,List.take_succ_cons,List.reverse_cons];congr 2
theorem vM{l:List Keyed}{i j:Nat}(h:i<=j):l.drop i=(l.drop i).take (j-i)++l.drop j:=by
 have:=(List.take_append_drop (j-i) (l.drop i)).symm;rw[List.drop_drop,show i+(j-i)=j by lia] at this;exact this
structure HI(key:Keyed->Int)(a b out:Array Keyed)(na nb:Nat):Prop where
 perm:PH a b out na nb
 so:out.toList.Pairwise fun x y=>key y<=key x
 la:∀x∈out.toList,0<na->kk key a (na-1)<=key x
 lb:∀x∈out.toList,0<nb->kk key b (nb-1)<=key x
section
variable {key:Keyed->Int} {a b out:Array Keyed} {na nb:Nat}
theorem HI.swap(h:HI key a b out na nb):HI key b a out nb na:=⟨h.perm.trans oy,h.so,h.lb,h.la⟩
theorem HI.gm(h:HI key a b out na nb)(h1:1<=na)(hi:na-1<a.size)(sa:So key a 0 a.size)(c:0<nb->kk key b (nb-1)<=kk key a (na-1)):HI key a b (out.push a[na-1]) (na-1) nb:=by
 refine⟨h.perm.gm h1 hi,?_,fun x hx hl=>?_,fun x hx hl=>?_⟩
 .rw[iB];refine rP.mpr ⟨h.so,List.pairwise_singleton _ _,fun x hx y hy=>?_⟩;rw[cX.mp hy,<-cj (key:=key) hi];exact h.la x hx (by lia)
 .rw[iB] at hx;have:=sa (na-1-1) (na-1) (by lia) (by lia) hi;rcases cf.mp hx with z|z
  .have:=h.la x z (by lia);lia
  .rw[cX.mp z,<-cj (key:=key) hi];exact this
 .rw[iB] at hx;rcases cf.mp hx with z|z
  .exact h.lb x z hl
  .rw[cX.mp z,<-cj (key:=key) hi];exact c hl
theorem HI.ua(h:HI key a b out na nb)(sa:So key a 0 a.size)(hn:na<=a.size):∀ (d k:Nat),na=k+d->(0<nb->∀i,k<=i->i<na->kk key b (nb-1)<=kk key a i)->HI key a b (out++(a.extract k na).reverse) k nb
 |0,k,e,_=>by
  have e':a.extract k na=#[]:=by simp;lia
  have e2:k=na:=by lia
  subst e2;rw[e',Array.reverse_empty,Array.append_empty];exact h
 |d+1,k,e,c=>by
  have:=(HI.ua h sa hn d (k+1) (by lia) fun hb i h1 h2=>c hb i (by lia) h2).gm (by lia) (by lia) sa fun hb=>c hb _ (by lia) (by lia);rw[F9 (by lia) hn,<-Array.push_append];exact this
theorem HI.rk(h:HI key a b out na nb)(h1:1<=nb)(hi:nb-1<b.size)(sb:So key b 0 b.size)(c:0<na->kk key a (na-1)<=kk key b (nb-1)):HI key a b (out.push b[nb-1]) na (nb-1):=(h.swap.gm h1 hi sb c).swap
theorem HI.Dn(h:HI key a b out na nb)(sb:So key b 0 b.size)(hn:nb<=b.size)(k:Nat)(hk:k<=nb)(c:0<na->∀i,k<=i->i<nb->kk key a (na-1)<=kk key b i):HI key a b (out++(b.extract k nb).reverse) na k:=(h.swap.ua sb hn (nb-k) k (by lia) c).swap
theorem HI.first(h:HI key a b out na nb)(sa:So key a 0 a.size)(sb:So key b 0 b.size)(ha:na<=a.size)(hb:nb<=b.size)(c:0<nb->∀i,i<na->kk key b (nb-1)<=kk key a i):Fi key a b (lC a b out na nb):=by
 have h1:=h.ua sa ha na 0 (by lia) fun z i _ hi=>c z i hi;have h2:=h1.Dn sb hb 0 (by lia) fun z=>by lia
 have e:lC a b out na nb=(out++(a.extract 0 na).reverse++(b.extract 0 nb).reverse).reverse:=by simp
 rw[e];refine⟨?_,?_⟩
 .have:=h2.perm;unfold PH at this;rw[sF,sF] at this;rw[jN,rR,mV (xs:=a)];exact(List.reverse_perm _).trans this
 .rw[rR,List.pairwise_reverse];exact h2.so
theorem HI.done(h:HI key a b out na nb)(sa:So key a 0 a.size)(sb:So key b 0 b.size)(ha:na<=a.size)(hb:nb<=b.size)(c:0<na->∀i,i<nb->kk key a (na-1)<=kk key b i):Fi key a b (kD a b out na nb):=by
 have:=h.swap.first sb sa hb ha c;refine⟨this.1.trans ?_,this.2⟩;rw[jN,mV,mV];exact oy
end
section
variable {prog:Program} {w:World} {A:Around} {E:Value->Shared->Prop} {s:Shared} {κ:SortKind} {a₀:Array Keyed} {pd:Array (Nat×Nat×Nat)} {ar:Array Keyed} {key:Keyed->Int}
theorem vJ.first(T:vJ key a₀ a b)(h:HI key a b out na nb)(ha:na<=a.size)(hb:nb=1):Fi key a b (lC a b out na nb):=
 h.first T.sa T.sb ha (by have:=T.b1;lia) fun _ i hi=>by
  have h0:=T.c0;have h1:=T.sa 0 i (by lia) (by lia) (by lia);rw[show nb-1=0 by lia];lia
theorem vJ.vN(T:vJ key a₀ a b)(h:HI key a b out na nb)(ha:na<=a.size)(hb:nb<=b.size)(hz:na=0\/nb=0):Fi key a b (kD a b out na nb):=
 h.done T.sa T.sb ha hb fun z i hi=>by lia
def GH(κ:SortKind)(ar:Array Keyed)(pd:Array (Nat×Nat×Nat))(key:Keyed->Int)(a b:Array Keyed)(n:Nat)(r:ForInStep QF)(st:SortSt):Prop:=SM κ ar pd st/\
 ((∃x c,r=.done (some x,c)/\Fi key a b x)\/∃na nb out mg ac bc,(r=.done (none,na,nb,out,mg,ac,bc)\/r=.yield (none,na,nb,out,mg,ac,bc))/\HI key a b out na nb/\1<=na/\2<=nb/\na<=a.size/\nb<=b.size/\n+na+nb<=a.size+b.size)
theorem zM{st:SortSt}{a b out:Array Keyed}{na nb mg ac bc n:Nat}(T:vJ key a₀ a b)(hB:SM κ ar pd st)(h:HI key a b out na nb)(la:1<=na)(lb:2<=nb)(ma:na<=a.size)(mb:nb<=b.size)(li:n+na+nb<=a.size+b.size)(c:kk key b (nb-1)<=kk key a (na-1)):
  wpS (model prog w) A E s (QG a b na nb out mg ac bc) (GH κ ar pd key a b n) st:=by
 unfold QG;refine aA (ba (cF a (na-1) (by lia)) ?_);have p:=h.gm la (show na-1<a.size by lia) T.sa fun _=>c;by_cases f:(na-1==0)=true
 .rw[aq f];exact aG ⟨hB,.inl ⟨_,_,rfl,T.vN p (by lia) (by lia) (.inl (by simpa using f))⟩⟩
 rw[au f];have g:¬ (na-1=0):=by simpa using f
 split
 .exact aG ⟨hB,.inr ⟨_,_,_,_,_,_,.inl rfl,p,by lia,by lia,by lia,by lia,by lia⟩⟩
 .exact aG ⟨hB,.inr ⟨_,_,_,_,_,_,.inr rfl,p,by lia,by lia,by lia,by lia,by lia⟩⟩
theorem zN{st:SortSt}{a b out:Array Keyed}{na nb mg ac bc n:Nat}(hC:tY prog w A s κ a₀ key)(T:vJ key a₀ a b)(hB:SM κ ar pd st)(h:HI key a b out na nb)(la:1<=na)(lb:2<=nb)(ma:na<=a.size)(mb:nb<=b.size)(li:n+na+nb<=a.size+b.size)(c:kk key a (na-1)<=kk key b (nb-1)):
  wpS (model prog w) A E s (QH a b na nb out mg ac bc) (GH κ ar pd key a b n) st:=by
 unfold QH;refine aA (ba (cF b (nb-1) (by lia)) ?_);have p:=h.rk (by lia) (show nb-1<b.size by lia) T.sb fun _=>c;by_cases f:(nb-1==1)=true
 .rw[aq f];exact aG ⟨hB,.inl ⟨_,_,rfl,T.first p (by lia) (by simpa using f)⟩⟩
 rw[au f];have g:¬ (nb-1=1):=by simpa using f
 refine aA (ba (cF a (na-1) (by lia)) ?_);refine aA (eF hC hB.kind (T.ha _ (by simp)) T.hb (by lia) (by lia) (fun i j h1 h2 h3=>T.sb i j (by lia) h2 (by lia)) fun k hk q1 q2=>?_);rw[<-cj (key:=key) (a:=a) (i:=na-1) (by lia)] at q1 q2;simp only[pS,iW,oY] at q1 q2;dsimp only;by_cases kp:nb-1-k > 0
 .rw[aq kp];have p2:=p.Dn T.sb (by lia) k hk fun _ i h1 h2=>q2 i h1 h2;by_cases f2:(k==1)=true
  .rw[aq f2];exact aG ⟨hB,.inl ⟨_,_,rfl,T.first p2 (by lia) (by simpa using f2)⟩⟩
  rw[au f2];have g2:¬ (k=1):=by simpa using f2
  by_cases f6:(k==0)=true
  .rw[aq f6];exact aG ⟨hB,.inl ⟨_,_,rfl,T.vN p2 (by lia) (by lia) (.inr (by simpa using f6))⟩⟩
  rw[au f6];have g6:¬ (k=0):=by simpa using f6
  exact zM T hB p2 la (by lia) ma (by lia) (by lia) (by have:=q1 (k-1) (by lia);lia)
 .rw[au kp];have e:k=nb-1:=by lia
  subst e;exact zM T hB p la (by lia) ma (by lia) (by lia) (by have:=q1 (nb-1-1) (by lia);lia)
theorem F_{st:SortSt}{a b out:Array Keyed}{na nb mg ac bc n:Nat}(hC:tY prog w A s κ a₀ key)(T:vJ key a₀ a b)(hB:SM κ ar pd st)(h:HI key a b out na nb)(la:1<=na)(lb:2<=nb)(ma:na<=a.size)(mb:nb<=b.size)(li:n+na+nb<=a.size+b.size):
  wpS (model prog w) A E s (QI a b na nb out mg ac bc) (GH κ ar pd key a b n) st:=by
 unfold QI;rw[dk];refine aA (eh ?_);have yh:SM κ ar pd (SortSt.mk' (kindOf st) (arrOf st) (pendingOf st) mg (failedOf st)):=⟨hB.arr,hB.kind,hB.failed,hB.pend⟩
 refine aA (ba (cF b (nb-1) (by lia)) ?_);refine aA (eF hC yh.kind (T.hb _ (by simp)) T.ha (by lia) (by lia) (fun i j h1 h2 h3=>T.sa i j (by lia) h2 (by lia)) fun k hk q1 q2=>?_);rw[<-cj (key:=key) (a:=b) (i:=nb-1) (by lia)] at q1 q2;simp only[pS,kW,eZ,oY] at q1 q2;dsimp only;by_cases kp:na-k > 0
 .rw[aq kp];have p2:=h.ua T.sa ma (na-k) k (by lia) fun _ i h1 h2=>by have:=q2 i h1 h2;lia
  by_cases f4:(k==0)=true
  .rw[aq f4];exact aG ⟨yh,.inl ⟨_,_,rfl,T.vN p2 (by lia) (by lia) (.inl (by simpa using f4))⟩⟩
  rw[au f4];have g4:¬ (k=0):=by simpa using f4
  exact zN hC T yh p2 (by lia) lb (by lia) mb (by lia) (by have:=q1 (k-1) (by lia);lia)
 .rw[au kp];have e:k=na:=by lia
  subst e;exact zN hC T yh h la lb ma mb li (by have:=q1 (k-1) (by lia);lia)
theorem vO{st:SortSt}{a b:Array Keyed}{Q:Array Keyed->SortSt->Prop}(hC:tY prog w A s κ a₀ key)(hB:SM κ ar pd st)(T:vJ key a₀ a b)(h:∀out aM,Fi key a b out->SM κ ar pd aM->Q out aM):wpS (model prog w) A E s (pO a b) Q st:=by
 have a1:=T.a1;have b1:=T.b1;rw[vL];refine aA (kj (fL ⟨rfl,?_⟩));refine aA (ba (cF a (a.size-1) (by lia)) ?_);dsimp only;have p0:HI key a b #[a[a.size-1]] (a.size-1) b.size:=by
  have:HI key a b #[] a.size b.size:=⟨by unfold PH;simp,List.Pairwise.nil,fun x hx=>by simp at hx,fun x hx=>by simp at hx⟩
  exact this.gm a1 (by lia) T.sa fun _=>T.c1 _ (by lia)
 by_cases e1:(a.size-1==0)=true
 .rw[aq e1];exact aG (h _ _ (T.vN p0 (by lia) (by lia) (.inl (by simpa using e1))) hB)
 rw[au e1];have n1:¬ (a.size-1=0):=by simpa using e1
 by_cases e2:(b.size==1)=true
 .rw[aq e2];exact aG (h _ _ (T.first p0 (by lia) (by simpa using e2)) hB)
 rw[au e2];have n2:¬ (b.size=1):=by simpa using e2
 refine aA (e_ ?_);refine aA (cK (eQ (I:=fun i c aM=>SM κ ar pd aM/\∃na nb out mg,c=(none,na,nb,out,mg)/\HI key a b out na nb/\1<=na/\2<=nb/\na<=a.size/\nb<=b.size/\i+na+nb<=a.size+b.size) (Q:=fun c aM=>SM κ ar pd aM/\∃r c',c=(some r,c')/\Fi key a b r) ?_ ?_ ⟨hB,_,_,_,_,rfl,p0,by lia,by lia,by lia,by lia,by lia⟩) ?_)
 .rintro i c uT _ hi ⟨F8,na,nb,out,mg,rfl,p1,la,lb,ma,mb,li⟩;dsimp only;refine aA (cK (eQ (I:=fun x c aM=>SM κ ar pd aM/\∃na nb out ac bc,c=(none,na,nb,out,ac,bc)/\HI key a b out na nb/\1<=na/\2<=nb/\na<=a.size/\nb<=b.size/\i+x+na+nb<=a.size+b.size) (Q:=fun c aM=>SM κ ar pd aM/\((∃r c',c=(some r,c')/\Fi key a b r)\/∃na nb out ac bc,c=(none,na,nb,out,ac,bc)/\HI key a b out na nb/\1<=na/\2<=nb/\na<=a.size/\nb<=b.size/\i+1+na+nb<=a.size+b.size)) ?_ ?_ ⟨F8,_,_,_,_,_,rfl,p1,la,lb,ma,mb,by lia⟩) ?_)
  .rintro x c fU _ hx ⟨fZ,na,nb,out,ac,bc,rfl,p1,la,lb,ma,mb,li⟩;dsimp only;refine aA (ba (cF b (nb-1) (by lia)) ?_);refine aA (ba (cF a (na-1) (by lia)) ?_);refine aA (pP hC fZ.kind (T.hb _ (by simp)) (T.ha _ (by simp)) ?_);rw[<-cj (key:=key) (a:=b) (i:=nb-1) (by lia),<-cj (key:=key) (a:=a) (i:=na-1) (by lia)];by_cases aw:kk key b (nb-1)<kk key a (na-1)
   .rw[bJ aw];dsimp only;rw[aq rfl];refine aA (ba (cF a (na-1) (by lia)) ?_);have p2:=p1.gm (show 1<=na by lia) (show na-1<a.size by lia) T.sa fun _=>by lia
    by_cases f1:(na-1==0)=true
    .rw[aq f1];exact aG ⟨fZ,.inl ⟨_,_,rfl,T.vN p2 (by lia) (by lia) (.inl (by simpa using f1))⟩⟩
    rw[au f1];have g1:¬ (na-1=0):=by simpa using f1
    split
    .exact aG ⟨fZ,.inr ⟨_,_,_,_,_,rfl,p2,by lia,by lia,by lia,by lia,by lia⟩⟩
    .exact aG ⟨fZ,_,_,_,_,_,rfl,p2,by lia,by lia,by lia,by lia,by lia⟩
   .rw[d6 aw];dsimp only;rw[au (by decide)];refine aA (ba (cF b (nb-1) (by lia)) ?_);have p2:=p1.rk (show 1<=nb by lia) (show nb-1<b.size by lia) T.sb fun _=>by lia
    by_cases f1:(nb-1==1)=true
    .rw[aq f1];exact aG ⟨fZ,.inl ⟨_,_,rfl,T.first p2 (by lia) (by simpa using f1)⟩⟩
    rw[au f1];have g1:¬ (nb-1=1):=by simpa using f1
    split
    .exact aG ⟨fZ,.inr ⟨_,_,_,_,_,rfl,p2,by lia,by lia,by lia,by lia,by lia⟩⟩
    .exact aG ⟨fZ,_,_,_,_,_,rfl,p2,by lia,by lia,by lia,by lia,by lia⟩
  .rintro c fU ⟨fZ,na,nb,out,ac,bc,rfl,p1,la,lb,ma,mb,li⟩;exact⟨fZ,.inr ⟨_,_,_,_,_,rfl,p1,la,lb,ma,mb,by lia⟩⟩
  .rintro c fU ⟨fZ,⟨r,c',rfl,hp⟩|⟨na,nb,out,ac,bc,rfl,p1,la,lb,ma,mb,li⟩⟩
   .exact aG ⟨fZ,_,_,rfl,hp⟩
   .dsimp only;refine aA (kj (fL ⟨rfl,?_⟩));refine aA (cK (eQ (I:=fun x c aM=>SM κ ar pd aM/\∃na nb out mg ac bc,c=(none,na,nb,out,mg,ac,bc)/\HI key a b out na nb/\1<=na/\2<=nb/\na<=a.size/\nb<=b.size/\i+1+na+nb<=a.size+b.size) (Q:=fun c aM=>SM κ ar pd aM/\((∃r c',c=(some r,c')/\Fi key a b r)\/∃na nb out mg ac bc,c=(none,na,nb,out,mg,ac,bc)/\HI key a b out na nb/\1<=na/\2<=nb/\na<=a.size/\nb<=b.size/\i+1+na+nb<=a.size+b.size)) ?_ ?_ ⟨fZ,_,_,_,_,_,_,rfl,p1,la,lb,ma,mb,li⟩) ?_)
    .rintro x c fU _ hx ⟨fZ,na,nb,out,mg,ac,bc,rfl,p1,la,lb,ma,mb,li⟩;change wpS (model prog w) A E s (if mg > 1 then QI a b na nb out (mg-1) ac bc else QI a b na nb out mg ac bc) _ fU;split <;>
     .refine cK (F_ hC T fZ p1 la lb ma mb li) ?_;rintro r aM ⟨m,⟨x,c,rfl,hf⟩|⟨na,nb,out,mg,ac,bc,rfl|rfl,hh⟩⟩
      .exact⟨m,.inl ⟨_,_,rfl,hf⟩⟩
      .exact⟨m,.inr ⟨_,_,_,_,_,_,rfl,hh⟩⟩
      .exact⟨m,_,_,_,_,_,_,rfl,hh⟩
    .rintro c fU ⟨fZ,hh⟩;exact⟨fZ,.inr hh⟩
    .rintro c fU ⟨fZ,⟨r,c',rfl,hp⟩|⟨na,nb,out,mg,ac,bc,rfl,p1,la,lb,ma,mb,li⟩⟩
     .exact aG ⟨fZ,_,_,rfl,hp⟩
     .dsimp only;rw[dk];refine aA (eh ?_);exact aG ⟨⟨fZ.arr,fZ.kind,fZ.failed,fZ.pend⟩,_,_,_,_,rfl,p1,la,lb,ma,mb,li⟩
 .rintro c uT ⟨F8,na,nb,out,mg,rfl,p1,la,lb,ma,mb,li⟩;lia
 .rintro c uT ⟨F8,r,c',rfl,hp⟩;exact aG (h r uT hp F8)
end
abbrev J7:=Nat×Nat×Nat
def fv(key:Keyed->Int)(a:Array Keyed):List J7->Nat->Nat->Prop
 |[],s,e=>s=e
 |r::rs,s,e=>r.1=s/\1<=r.2.1/\So key a s (s+r.2.1)/\fv key a rs (s+r.2.1) e
section
variable {key:Keyed->Int} {a:Array Keyed}
theorem fv.le:∀ {l:List J7} {s e:Nat},fv key a l s e->s+l.length<=e
 |[],_,_,h=>sL h
 |r::rs,s,e,⟨_,h2,_,h3⟩=>by have:=h3.le;rw[cM];lia
theorem So.keep(h:So key a s e)(k:∀i,s<=i->i<e->a'[i]?=a[i]?):So key a' s e:=fun i j h1 h2 h3=>by
 rw[eV (k i h1 (by lia)),eV (k j (by lia) h3)];exact h i j h1 h2 h3
theorem fv.keep:∀ {l:List J7} {s e:Nat},fv key a l s e->(∀i,s<=i->i<e->a'[i]?=a[i]?)->fv key a' l s e
 |[],_,_,h,_=>h
 |r::rs,s,e,⟨h1,h2,h3,h4⟩,k=>by
  have:=h4.le;exact⟨h1,h2,h3.keep fun i a b=>k i a (by lia),h4.keep fun i a b=>k i (by lia) b⟩
theorem fv.two:∀ {l:List J7} {s e i:Nat} {x y:J7},fv key a l s e->l[i]?=some x->l[i+1]?=some y->
  s<=x.1/\x.1+x.2.1=y.1/\y.1+y.2.1<=e/\1<=x.2.1/\1<=y.2.1/\So key a x.1 y.1/\So key a y.1 (y.1+y.2.1)/\∀p a',kL a a' x.1 (y.1+y.2.1)->So key a' x.1 (y.1+y.2.1)->fv key a' ((l.set i (x.1,x.2.1+y.2.1,p)).eraseIdx (i+1)) s e
 |r::q::rs,s,e,0,x,y,⟨h1,h2,h3,h4,h5,h6,h7⟩,hx,hy=>by
  obtain rfl:=bt hx;obtain rfl:=bt hy;have:=h7.le;rw[h1,h4];refine⟨a9 _,rfl,by lia,h2,h5,h3,h6,fun p a' o so=>⟨rfl,by show 1<=r.2.1+q.2.1;lia,?_,?_⟩⟩
  .show So key a' s (s+(r.2.1+q.2.1));rw[<-oW];exact so
  .show fv key a' rs (s+(r.2.1+q.2.1)) e;rw[<-oW];exact h7.keep fun i a b=>o i (.inr a)
 |r::rs,s,e,i+1,x,y,⟨h1,h2,h3,h4⟩,hx,hy=>by
  obtain⟨a0,a1,a2,a3,a4,a5,a6,a7⟩:=fv.two (i:=i) h4 hx hy;exact⟨by lia,a1,a2,a3,a4,a5,a6,fun p a' o so=>⟨h1,h2,h3.keep fun i a b=>o i (.inl (by lia)),a7 p a' o so⟩⟩
theorem fv.push:∀ {l:List J7} {s e n p:Nat},fv key a l s e->1<=n->So key a e (e+n)->fv key a (l++[(e,n,p)]) s (e+n)
 |[],s,e,n,p,h,hn,so=>⟨h.symm,hn,by rw[show s=e from h];exact so,by rw[show s=e from h];rfl⟩
 |r::rs,s,e,n,p,⟨h1,h2,h3,h4⟩,hn,so=>⟨h1,h2,h3,fv.push h4 hn so⟩
theorem fv.pw:∀ {l:List J7} {s e:Nat} (i p:Nat),fv key a l s e->fv key a (l.modify i fun r=>(r.1,r.2.1,p)) s e
 |[],s,e,i,p,h=>by cases i <;> exact h
 |r::rs,s,e,0,p,⟨h1,h2,h3⟩=>⟨h1,h2,h3⟩
 |r::rs,s,e,i+1,p,⟨h1,h2,h3,h4⟩=>⟨h1,h2,h3,fv.pw i p h4⟩
end
theorem Ga{M:Model}{A:Around}{E:Value->Shared->Prop}{s:Shared}{σ:Type}{x:σ}{Q:PUnit->σ->Prop}{st:σ}(h:Q ⟨⟩ x):wpS M A E s (set x:StateT σ Sem PUnit) Q st:=by
 unfold wpS;rw[StateT.run_set];exact wpAny_pure ⟨rfl,h⟩
theorem vP(i:Nat):mergeAt' i=(do
 let s <- get
 let (some (sa,na,NW),some (sb,nb,_)):=((pendingOf s)[i]?,(pendingOf s)[i+1]?)|unsupported "internal:list.sort.pending"
 set (setPending s (((pendingOf s).setIfInBounds i (sa,na+nb,NW)).eraseIdxIfInBounds (i+1)))
 let some k <- dD false (<-elem' (arrOf s) sb) (arrOf s) sa na 0|return false
 let (sa,na):=(sa+k,na-k)
 if na==0 then return true
 let some nb <- dD true (<-elem' (arrOf s) (sa+na-1)) (arrOf s) sb nb (nb-1)|return false
 if nb==0 then return true
 let x:=(arrOf s).extract sa sb
 let y:=(arrOf s).extract sb (sb+nb)
 let merged <- if na<=nb then pL x y else pO x y
 modify fun s=>setArr s (merged.toList.zipIdx.foldl (fun a (p,j)=>a.setIfInBounds (sa+j) p) (arrOf s))
 return (failedOf (<-get)).isNone):=rfl
theorem pT:∀ (l:List Keyed) (k:Nat) (arr:Array Keyed),sa+k+l.length<=arr.size->
  ((l.zipIdx k).foldl (fun (a:Array Keyed) (x:Keyed×Nat)=>a.setIfInBounds (sa+x.2) x.1) arr).toList=arr.toList.take (sa+k)++l++arr.toList.drop (sa+k+l.length)
 |[],k,arr,_=>by simp
 |x::l,k,arr,h=>by
  rw[cM] at h;have hs:sa+k<arr.toList.length:=by rw[f8];lia
  rw[xo,sB,pT l (k+1) _ (by rw[Array.size_setIfInBounds];lia),wE];dsimp only;have e1:(arr.toList.set (sa+k) x).take (sa+(k+1))=arr.toList.take (sa+k)++[x]:=by
   rw[<-oW,eL,ot hs,List.take_set_of_le (a9 _)];rfl
  have e2:(arr.toList.set (sa+k) x).drop (sa+(k+1)+l.length)=arr.toList.drop (sa+k+(x::l).length):=by
   rw[List.drop_set_of_lt (by lia),cM];congr 1;lia
  rw[e1,e2,iP,iP,iP];rfl
section
variable {prog:Program} {w:World} {A:Around} {E:Value->Shared->Prop} {s:Shared} {κ:SortKind} {a₀:Array Keyed} {key:Keyed->Int}
theorem ub:kk key a i=(a.toList[i]?.map key).getD 0:=by unfold kk;rw[jO]
theorem gI(h:k<j-i):kk key (a.extract i j) k=kk key a (i+k):=by
 rw[ub,ub,dW,List.getElem?_take,aq h,List.getElem?_drop]
def SR(κ:SortKind)(a₀:Array Keyed)(key:Keyed->Int)(lo:Nat)(st:SortSt):Prop:=∃pd,SQ κ a₀ pd st/\fv key (arrOf st) pd.toList 0 lo/\lo<=a₀.size
theorem Gb(h1:sa+k<=sb)(h2:sb+k2<=e)(he:e<=a.size)(hl:out.length=sb+k2-(sa+k))(wl:a'.toList=a.toList.take (sa+k)++out++a.toList.drop (sb+k2))(s1:So key a sa sb)(s2:So key a sb e)(so:out.Pairwise fun x y=>key x<=key y)(g1:∀i,sa<=i->i<sa+k->kk key a i<=b)(g2:∀i,sb+k2<=i->i<e->t<=kk key a i)(go:∀x∈out,b<=key x/\key x<=t)(gb:∀i,sb+k2<=i->i<e->b<=kk key a i):
  So key a' sa e/\kL a a' sa e:=by
 have tl:(a.toList.take (sa+k)).length=sa+k:=by rw[fA,f8];lia
 have p1:∀i,i<sa+k->a'[i]?=a[i]?:=fun i hi=>by
  rw[<-jO,wl,iP,gN (by rw[tl];exact hi),List.getElem?_take,aq hi,jO]
 have p3:∀i,sb+k2<=i->a'[i]?=a[i]?:=fun i hi=>by
  rw[<-jO,wl,iM (by rw[cD,tl,hl];lia),cD,tl,hl,List.getElem?_drop,jO];congr 1;lia
 have p2:∀i,sa+k<=i->i<sb+k2->∃h:i-(sa+k)<out.length,kk key a' i=key out[i-(sa+k)]:=fun i hi qt=>by
  have hh:i-(sa+k)<out.length:=by lia
  refine⟨hh,?_⟩;rw[ub,wl,iP,iM (by rw[tl];exact hi),tl,gN hh,cV hh];rfl
 refine⟨fun i j hi J5 hj=>?_,fun i hi=>?_⟩
 .by_cases c1:i<sa+k
  .rw[eV (p1 i c1)];by_cases c2:j<sa+k
   .rw[eV (p1 j c2)];exact s1 i j hi J5 (by lia)
   .have:=g1 i hi c1;by_cases c3:j<sb+k2
    .obtain⟨hh,e⟩:=p2 j (by lia) c3;have:=(go _ (eM hh)).1;rw[e];lia
    .rw[eV (p3 j (by lia))];have:=gb j (by lia) hj;lia
  .by_cases c2:i<sb+k2
   .obtain⟨hh,ei⟩:=p2 i (by lia) c2;rw[ei];by_cases c3:j<sb+k2
    .obtain⟨L5,ej⟩:=p2 j (by lia) c3;rw[ej];by_cases c4:i=j
     .subst c4;exact iU _
     .exact wF.mp so _ _ hh L5 (by lia)
    .rw[eV (p3 j (by lia))];have:=(go _ (eM hh)).2;have:=g2 j (by lia) hj;lia
   .rw[eV (p3 i (by lia)),eV (p3 j (by lia))];exact s2 i j (by lia) J5 hj
 .rcases hi with hi|hi
  .exact p1 i (by lia)
  .exact p3 i (by lia)
theorem ja{st:SortSt}{i lo:Nat}{Q:Bool->SortSt->Prop}(hC:tY prog w A s κ a₀ key)(hB:SR κ a₀ key lo st)(hi:i+1<(pendingOf st).size)(h:∀aM,SR κ a₀ key lo aM->kL (arrOf st) (arrOf aM) 0 lo->(pendingOf aM).size+1=(pendingOf st).size->Q true aM):wpS (model prog w) A E s (mergeAt' i) Q st:=by
 obtain⟨pd,hq,hr,vj⟩:=hB;rw[hq.pend] at hi h;rw[vP];refine aA (e_ ?_);have e1:pd[i]?=some pd[i]:=cF pd i (by lia);have e2:pd[i+1]?=some pd[i+1]:=cF pd (i+1) hi;obtain⟨_,a1,a2,a3,a4,b1,b2,a5⟩:=hr.two (i:=i) (x:=pd[i]) (y:=pd[i+1]) (by simpa using e1) (by simpa using e2);rw[hq.pend,e1,e2];revert a1 a2 a3 a4 a5 b1 b2;generalize pd[i]=x;generalize pd[i+1]=y;obtain⟨sa,na,pw⟩:=x;obtain⟨sb,nb,pw2⟩:=y;intro a1 a2 a3 a4 b1 b2 a5;dsimp only at a1 a2 a3 a4 a5 b1 b2 |-;obtain⟨Fb,J8⟩:∃Fb,Fb=(pd.setIfInBounds i (sa,na+nb,pw)).eraseIdxIfInBounds (i+1):=⟨_,rfl⟩
 have Wo:Fb.size+1=pd.size:=by
  rw[J8,<-f8,BM,wE,List.length_eraseIdx,sw,aq (by simpa using hi),f8];lia
 have BF:∀a',kL (arrOf st) a' sa (sb+nb)->So key a' sa (sb+nb)->fv key a' Fb.toList 0 lo:=by
  intro a' o so;rw[J8,BM,wE];exact a5 pw a' o so
 refine aA (Ga ?_);rw[<-J8];have Il:SM κ (arrOf st) Fb (setPending st Fb):=⟨rfl,hq.kind,hq.failed,rfl⟩
 have kK:=hq.size;have m_:∀x∈(arrOf st).toList,x∈a₀.toList:=fun x hx=>(jN.mp hq.perm).mem_iff.mp hx;have fin:∀aM,SM κ (arrOf st) Fb aM->So key (arrOf st) sa (sb+nb)->Q true aM:=fun aM m so=>h aM ⟨Fb,⟨by rw[m.arr];exact hq.perm,m.kind,m.failed,m.pend⟩,by rw[m.arr];exact BF _ kL.refl so,vj⟩ (by rw[m.arr];exact kL.refl) (by rw[m.pend];exact Wo);refine aA (ba (cF (arrOf st) sb (by lia)) ?_);refine aA (eF hC Il.kind (m_ _ (by simp)) m_ (by lia) (by lia) (by rw[a1];exact b1) fun k hk q1 q2=>?_);rw[<-cj (key:=key) (a:=arrOf st) (i:=sb) (by lia)] at q1 q2;simp only[pS,kW,eZ] at q1 q2;dsimp only;by_cases f1:(na-k==0)=true
 .rw[aq f1];have g1:na-k=0:=by simpa using f1
  refine aG (fin _ Il fun i j h1 h2 h3=>?_);by_cases c1:j<sb
  .exact b1 i j h1 h2 c1
  .by_cases c2:i<sb
   .have:=q1 (i-sa) (by lia);rw[show sa+(i-sa)=i by lia] at this;have:=b2 sb j (by lia) (by lia) h3;lia
   .exact b2 i j (by lia) h2 h3
 rw[au f1];have g1:¬ (na-k=0):=by simpa using f1
 have el:sa+k+(na-k)-1=sb-1:=by lia
 rw[el];refine aA (ba (cF (arrOf st) (sb-1) (by lia)) ?_);refine aA (eF hC Il.kind (m_ _ (by simp)) m_ (by lia) (by lia) b2 fun k2 J0 q3 q4=>?_);rw[<-cj (key:=key) (a:=arrOf st) (i:=sb-1) (by lia)] at q3 q4;simp only[pS,iW] at q3 q4;dsimp only;by_cases f2:(k2==0)=true
 .rw[aq f2];have g2:k2=0:=by simpa using f2
  refine aG (fin _ Il fun i j h1 h2 h3=>?_);by_cases c1:j<sb
  .exact b1 i j h1 h2 c1
  .by_cases c2:i<sb
   .have:=q4 (j-sb) (by lia) (by lia);rw[show sb+(j-sb)=j by lia] at this;have:=b1 i (sb-1) h1 (by lia) (by lia);lia
   .exact b2 i j (by lia) h2 h3
 rw[au f2];have g2:¬ (k2=0):=by simpa using f2
 have sx:((arrOf st).extract (sa+k) sb).size=sb-(sa+k):=by rw[Array.size_extract];lia
 have sy:((arrOf st).extract sb (sb+k2)).size=k2:=by rw[Array.size_extract];lia
 have T:vJ key a₀ ((arrOf st).extract (sa+k) sb) ((arrOf st).extract sb (sb+k2)):=by
  refine⟨fun x hx=>m_ x (by rw[dW] at hx;exact rQ (oF hx)),fun x hx=>m_ x (by rw[dW] at hx;exact rQ (oF hx)),by lia,by lia,fun i j h1 h2 h3=>?_,fun i j h1 h2 h3=>?_,?_,fun i hi=>?_⟩
  .rw[sx] at h3;rw[gI (by lia),gI (by lia)];exact b1 _ _ (by lia) (by lia) (by lia)
  .rw[sy] at h3;rw[gI (by lia),gI (by lia)];exact b2 _ _ (by lia) (by lia) (by lia)
  .rw[gI (by lia),gI (by lia)];have:=q2 k (by lia) (by lia);rw[kg,kg];lia
  .rw[sy] at hi;rw[sx,gI (by lia),gI (by lia)];have:=q3 i hi;rw[show sa+k+(sb-(sa+k)-1)=sb-1 by lia];lia
 have last:∀ (out:Array Keyed) (aM:SortSt),Fi key ((arrOf st).extract (sa+k) sb) ((arrOf st).extract sb (sb+k2)) out->SM κ (arrOf st) Fb aM->wpS (model prog w) A E s (do
   modify fun s=>setArr s (out.toList.zipIdx.foldl (fun a (p,j)=>a.setIfInBounds (sa+k+j) p) (arrOf s))
   return (failedOf (<-get)).isNone) Q aM:=by
  intro out aM hF m;obtain⟨hp,so⟩:=hF;refine aA (eh ?_);refine aA (e_ (aG ?_));have Wp:out.toList.length=sb-(sa+k)+k2:=by
   rw[f8,hp.size_eq,Array.size_append,sx,sy]
  have wl:=pT (sa:=sa+k) out.toList 0 (arrOf aM) (by rw[m.arr,Wp];lia);have e3:sa+k+(sb-(sa+k)+k2)=sb+k2:=by lia
  rw[m.arr,Wp,kg,e3] at wl;have Ik:=jN.mp hp;rw[mV] at Ik;have pm:(out.toList.zipIdx.foldl (fun a (p,j)=>a.setIfInBounds (sa+k+j) p) (arrOf st)).Perm (arrOf st):=by
   rw[jN];refine(sC wl).trans ?_;rw[dW,dW] at Ik;refine((Ik.append_left _).append_right _).trans ?_;have e1:(arrOf st).toList.drop (sa+k)=((arrOf st).toList.drop (sa+k)).take (sb-(sa+k))++(arrOf st).toList.drop sb:=vM (by lia);have e2:(arrOf st).toList.drop sb=((arrOf st).toList.drop sb).take (sb+k2-sb)++(arrOf st).toList.drop (sb+k2):=vM (by lia);refine sC ?_;conv=>rhs;rw[<-List.take_append_drop (sa+k) (arrOf st).toList,e1,e2]
   simp only[iP]
  have hf:(failedOf aM).isNone=true:=by rw[m.failed];rfl
  show Q (failedOf aM).isNone _;rw[hf];have go:∀x∈out.toList,kk key (arrOf st) sb<=key x/\key x<=kk key (arrOf st) (sb-1):=by
   intro x hx;rcases cf.mp (Ik.mem_iff.mp hx) with z|z
   .obtain⟨n,hn,rfl⟩:=oG.mp z;rw[f8] at hn;have e:key (((arrOf st).extract (sa+k) sb).toList[n]'(by rw[f8];exact hn))=kk key (arrOf st) (sa+k+n):=by
     rw[<-gI (i:=sa+k) (j:=sb) (by lia),cj hn,wZ]
    rw[e];have h1:=q2 (k+n) (by lia) (by lia);rw[<-oW] at h1;have h2:=b1 (sa+k+n) (sb-1) (by lia) (by lia) (by lia);lia
   .obtain⟨n,hn,rfl⟩:=oG.mp z;rw[f8] at hn;have e:key (((arrOf st).extract sb (sb+k2)).toList[n]'(by rw[f8];exact hn))=kk key (arrOf st) (sb+n):=by
     rw[<-gI (i:=sb) (j:=sb+k2) (by lia),cj hn,wZ]
    rw[e];have h1:=q3 n (by lia);have h2:=b2 sb (sb+n) (by lia) (by lia) (by lia);lia
  have bk:=Gb (key:=key) (a:=arrOf st) (a':=out.toList.zipIdx.foldl (fun a (p,j)=>a.setIfInBounds (sa+k+j) p) (arrOf st)) (out:=out.toList) (sa:=sa) (k:=k) (sb:=sb) (k2:=k2) (e:=sb+nb) (by lia) (by lia) (by lia) (by lia) wl b1 b2 so (b:=kk key (arrOf st) sb) (t:=kk key (arrOf st) (sb-1))
   (fun i h1 h2=>by have:=q1 (i-sa) (by lia);rw[show sa+(i-sa)=i by lia] at this;lia) (fun i h1 h2=>by have:=q4 (i-sb) (by lia) (by lia);rw[show sb+(i-sb)=i by lia] at this;lia) go (fun i h1 h2=>b2 sb i (by lia) (by lia) h2)
  have ea:arrOf (setArr aM (out.toList.zipIdx.foldl (fun a (p,j)=>a.setIfInBounds (sa+k+j) p) (arrOf aM)))=out.toList.zipIdx.foldl (fun a (p,j)=>a.setIfInBounds (sa+k+j) p) (arrOf st):=by rw[m.arr]
  refine h _ ⟨Fb,⟨by rw[ea];exact pm.trans hq.perm,m.kind,m.failed,m.pend⟩,by rw[ea];exact BF _ bk.2 bk.1,vj⟩ (by rw[ea];exact bk.2.wide (by lia) (by lia)) (by show (pendingOf aM).size+1=_;rw[m.pend];exact Wo)
 by_cases f3:na-k<=k2
 .rw[aq f3];exact aA (vK hC Il T fun out aM hp m=>last out aM hp m)
 .rw[au f3];exact aA (vO hC Il T fun out aM hp m=>last out aM hp m)
theorem vQ[Decidable c]:(if c then x-1 else x)<=x:=by split <;> lia
theorem SR.pw{lo:Nat}{st:SortSt}(h:SR κ a₀ key lo st)(i p:Nat):SR κ a₀ key lo (setPending st ((pendingOf st).modify i fun r=>(r.1,r.2.1,p))):=by
 obtain⟨pd,hq,hr,hl⟩:=h;refine⟨_,⟨hq.perm,hq.kind,hq.failed,rfl⟩,?_,hl⟩;show fv key (arrOf st) ((pendingOf st).modify i fun r=>(r.1,r.2.1,p)).toList 0 lo;rw[hq.pend,Array.toList_modify];exact hr.pw i p
theorem SR.push{lo n:Nat}{st:SortSt}(h:SR κ a₀ key lo st)(h1:1<=n)(hn:lo+n<=a₀.size)(so:So key (arrOf st) lo (lo+n)):SR κ a₀ key (lo+n) (setPending st ((pendingOf st).push (lo,n,0))):=by
 obtain⟨pd,hq,hr,hl⟩:=h;refine⟨_,⟨hq.perm,hq.kind,hq.failed,rfl⟩,?_,hn⟩;show fv key (arrOf st) ((pendingOf st).push (lo,n,0)).toList 0 (lo+n);rw[hq.pend,iB];exact hr.push h1 so
theorem AZ{st:SortSt}{Q:Unit->SortSt->Prop}(hC:tY prog w A s κ a₀ key)(hp:(arrOf st).Perm a₀)(hk:kindOf st=κ)(hf:failedOf st=none)(YW:pendingOf st=#[])(h:∀aM,(arrOf aM).Perm a₀->failedOf aM=none->So key (arrOf aM) 0 a₀.size->Q () aM):wpS (model prog w) A E s sortRuns' Q st:=by
 have h0:SR κ a₀ key 0 st:=⟨#[],⟨hp,hk,hf,YW⟩,rfl,cN _⟩
 have kK:(arrOf st).size=a₀.size:=hp.size_eq;rw[sortRuns'_eq];refine aA (e_ ?_);dsimp only;rw[kK];refine aA (cK (eQ (I:=fun i c aM=>∃lo,c=(none,lo)/\SR κ a₀ key lo aM/\i<=lo) (Q:=fun c aM=>∃lo,c=(none,lo)/\SR κ a₀ key lo aM/\a₀.size<=lo) ?_ (fun c aM ⟨lo,a,b,c⟩=>⟨lo,a,b,by lia⟩) ⟨0,rfl,h0,by lia⟩) ?_)
 .rintro i c uT _ _ ⟨lo,rfl,hR,hil⟩;by_cases e1:lo>=a₀.size
  .dsimp only;rw[aq e1];exact aG ⟨lo,rfl,hR,e1⟩
  have vj:lo<a₀.size:=by lia
  obtain⟨pd,hq,hr,hl⟩:=hR;dsimp only;rw[au e1];refine aA (AY hC (by lia) (by lia) hq fun n fU Qt n1 n2 so ou=>?_);have SS:fv key (arrOf fU) pd.toList 0 lo:=hr.keep fun i _ h2=>ou i (.inl h2);dsimp only;by_cases hm:n<minRun' a₀.size a₀.size 0
  .rw[aq hm];refine aA (kj (fL ⟨rfl,?_⟩));refine aA (F5 hC (by lia) (by lia) Qt so fun s_ V0 Wq Dk=>?_);simp only[sK,kW,eZ];have Fc:SR κ a₀ key lo s_:=⟨pd,V0,SS.keep fun i _ h2=>Dk i (.inl h2),hl⟩
   refine aA (e_ ?_);cases hb:(pendingOf s_).back? with
   |none=>
    dsimp only;exact aA (eh (aG ⟨_,rfl,SR.push Fc (by lia) (by lia) Wq,by lia⟩))
   |some r=>
    obtain⟨s1,YX,YY⟩:=r;dsimp only;refine aA (cK (eQ (I:=fun _ c aM=>c=(none,())/\SR κ a₀ key lo aM/\So key (arrOf aM) lo (lo+min (a₀.size-lo) (minRun' a₀.size a₀.size 0))) (Q:=fun c aM=>c=(none,())/\SR κ a₀ key lo aM/\So key (arrOf aM) lo (lo+min (a₀.size-lo) (minRun' a₀.size a₀.size 0))) ?_ (fun c aM hh=>hh) ⟨rfl,Fc,Wq⟩) ?_)
    .rintro x c qu _ _ ⟨rfl,uc,Do⟩;refine aA (e_ ?_);by_cases hs:(pendingOf qu).size > 1
     .rw[aq hs,cF (pendingOf qu) ((pendingOf qu).size-2) (by lia)];generalize (pendingOf qu)[(pendingOf qu).size-2]=r4;obtain⟨_,_,NX⟩:=r4;dsimp only;split
      .exact aG ⟨rfl,uc,Do⟩
      .refine aA (ja hC uc (by lia) fun yW NY ou _=>?_);simp only[sK,kW,eZ];exact aG ⟨rfl,NY,Do.keep fun i h1 _=>ou i (.inr h1)⟩
     .rw[au hs];exact aG ⟨rfl,uc,Do⟩
    .rintro c qu ⟨rfl,uc,Do⟩;dsimp only;exact aA (eh (aA (eh (aG ⟨_,rfl,(uc.pw _ _).push (by lia) (by lia) Do,by lia⟩))))
  .rw[au hm];have Fc:SR κ a₀ key lo fU:=⟨pd,Qt,SS,hl⟩
   refine aA (e_ ?_);cases hb:(pendingOf fU).back? with
   |none=>
    dsimp only;exact aA (eh (aG ⟨_,rfl,SR.push Fc n1 (by lia) so,by lia⟩))
   |some r=>
    obtain⟨s1,YX,YY⟩:=r;dsimp only;refine aA (cK (eQ (I:=fun _ c aM=>c=(none,())/\SR κ a₀ key lo aM/\So key (arrOf aM) lo (lo+n)) (Q:=fun c aM=>c=(none,())/\SR κ a₀ key lo aM/\So key (arrOf aM) lo (lo+n)) ?_ (fun c aM hh=>hh) ⟨rfl,Fc,so⟩) ?_)
    .rintro x c qu _ _ ⟨rfl,uc,Do⟩;refine aA (e_ ?_);by_cases hs:(pendingOf qu).size > 1
     .rw[aq hs,cF (pendingOf qu) ((pendingOf qu).size-2) (by lia)];generalize (pendingOf qu)[(pendingOf qu).size-2]=r4;obtain⟨_,_,NX⟩:=r4;dsimp only;split
      .exact aG ⟨rfl,uc,Do⟩
      .refine aA (ja hC uc (by lia) fun yW NY ou _=>?_);simp only[sK,kW,eZ];exact aG ⟨rfl,NY,Do.keep fun i h1 _=>ou i (.inr h1)⟩
     .rw[au hs];exact aG ⟨rfl,uc,Do⟩
    .rintro c qu ⟨rfl,uc,Do⟩;dsimp only;exact aA (eh (aA (eh (aG ⟨_,rfl,(uc.pw _ _).push n1 (by lia) Do,by lia⟩))))
 .rintro c uT ⟨lo,rfl,hR,vj⟩;dsimp only;refine aA (cK (eQ (I:=fun i c aM=>c=(none,())/\SR κ a₀ key lo aM/\(pendingOf aM).size<=max 1 (a₀.size-i)) (Q:=fun c aM=>c=(none,())/\SR κ a₀ key lo aM/\(pendingOf aM).size<=1) ?_ ?_ ⟨rfl,hR,?_⟩) ?_)
  .rintro x c qu _ _ ⟨rfl,uc,hz⟩;refine aA (e_ ?_);by_cases hs:(pendingOf qu).size<=1
   .rw[aq hs];exact aG ⟨rfl,uc,hs⟩
   rw[au hs];refine aA (ja hC uc ?_ fun yW NY _ hz5=>?_)
   .exact du (Nat.succ_le_succ vQ) (show (pendingOf qu).size-2+1<(pendingOf qu).size by lia)
   .simp only[sK,kW,eZ];exact aG ⟨rfl,NY,by lia⟩
  .rintro c qu ⟨rfl,uc,hz⟩;exact⟨rfl,uc,by lia⟩
  .obtain⟨pd,hq,hr,hl⟩:=hR;have:=hr.le;rw[hq.pend];simp at this;lia
  .rintro c qu ⟨rfl,⟨pd,hq,hr,hl⟩,hz⟩;refine aG (h _ hq.perm hq.failed ?_);rw[hq.pend] at hz;have SD:pd.toList.length<=1:=by simpa using hz
   have e:lo=a₀.size:=by lia
   subst e;revert SD;revert hr;cases pd.toList with
   |nil=>intro hr _ i j _ _ hj;have:0=a₀.size:=hr;lia
   |cons r rs=>
    cases rs with
    |nil=>intro hr _;obtain⟨_,_,so,e⟩:=hr;have e:0+r.2.1=a₀.size:=e;rw[<-e];exact so
    |cons r2 rs=>intro _ hz;simp at hz
end
end PyProof.Rows
namespace L2
open PySem PySem.Spec PyProof.Rows PySem.W
def iu(h:Heap)(g:Addr->Int×Int)(vs:List Value):Prop:=∀v∈vs,∃a o n t u,v=Value.ref a/\h.get? a=some o/\o.cls=.type "tuple"/\o.data=.seq #[.int (g a).1 t,.int (g a).2 u] n/\0<=(g a).2/\(g a).2<64
def pk(u:Int×Int):Int:=64*u.1+u.2
def kv(g:Addr->Int×Int)(v:Value):Int:=match v with
 |.ref a=>pk (g a)
 |_=>0
theorem iu.ii:∀ {vs:List Value},iu h g vs->∃fs,KatTups h vs fs/\fs.length=vs.length/\∀v∈fs,∃n t,v=Value.int n t
 |[],_=>⟨[],trivial,rfl,fun v hv=>nomatch hv⟩
 |v::vs,hp=>by
  obtain⟨fs,k1,k2,k3⟩:=iu.ii (vs:=vs) fun b hb=>hp b (b8 _ hb);obtain⟨a,o,n,t,u,rfl,e,c,d,_⟩:=hp v ci;refine⟨.int (g a).1 t::fs,KatTups.cons e c d rfl k1,by simp[k2],fun v hv=>?_⟩;rcases bg.mp hv with z|z
  .exact⟨_,t,z⟩
  .exact k3 v z
section
variable {prog:Program} {w:World} {A:Around} {E:Value->Shared->Prop} {s:Shared} {g:Addr->Int×Int}
theorem A0(hp:iu s.heap g vs):tY prog w A s (tuples' true) (vs.toArray.zip vs.toArray) (fun x=>kv g x.1):=by
 have mem:∀x∈(vs.toArray.zip vs.toArray).toList,x.1∈vs:=by
  intro x hx;rw[xr] at hx;exact(l6 hx).1
 intro x y hx hy Q E' q;obtain⟨a,o,n,t1,t2,e1,eo,_,ed,a1,a2⟩:=hp x.1 (mem x hx);obtain⟨b,o',n',u1,u2,e2,YZ,_,Y0,b1,b2⟩:=hp y.1 (mem y hy);replace q:∀c,c=decide (kv g x.1<kv g y.1)->Q c s:=fun c e=>e ▸ q;rw[e1,e2] at q;rw[e1,e2];replace q:∀c,c=decide (64*(g a).1+(g a).2<64*(g b).1+(g b).2)->Q c s:=q;generalize (g a).1=x1 at *;generalize (g a).2=x2 at *;generalize (g b).1=y1 at *;generalize (g b).2=y2 at *;refine kat_lt eo ed YZ Y0 (kat_cons (xw ?_));by_cases h1:x1=y1
 .rw[fm.mpr h1];refine kat_yes (kat_cons (xw ?_));by_cases h2:x2=y2
  .rw[fm.mpr h2];exact kat_yes (kat_nil (q _ (by
    have e:decide (64*x1+x2<64*y1+y2)=false:=d6 (by lia);rw[e];rfl)))
  .rw[j6.mpr h2];exact kat_no (kat_one _ _ (lt_int (q _ (by congr 1;rw[eq_iff_iff];lia))))
 .rw[j6.mpr h1];exact kat_no (oneLt_int (q _ (by congr 1;rw[eq_iff_iff];lia)))
theorem Gc{vs:List Value}:((vs.toArray.zip vs.toArray).map (·.2)).toList=vs:=by
 rw[oM,xr];show (vs.zip vs).map (·.2)=vs;rw[<-List.unzip_snd,List.unzip_zip_right (a9 _)]
theorem Dp{l:List Value}{p:Value×Value}:p∈l.zip l->p.2=p.1:=by
 induction l with
 |nil=>intro h;cases h
 |cons x l ih=>
  intro h;rw[List.zip_cons_cons] at h;rcases bg.mp h with z|z
  .rw[z]
  .exact ih z
theorem nB(ho:s.heap.get? a=some (seqObj "list" vs.toArray n))(hp:iu s.heap g vs)(hz:vs.length<=4096)(h:∀ (out:Array Value),out.toList.Perm vs->out.toList.Pairwise (fun u v=>kv g u<=kv g v)->P (.done (.ret .none)) { s with heap:=sortedHeap s.heap a vs out }):
  wpAny (model prog w) A (Builtin.«list.sort» ⟨[.ref a],[]⟩) P E s:=by
 rw[list_sort_plain];have ha:a<s.heap.objs.size:=aQ ho;have LZ:vs.toArray.size<=sizeLine:=by rw[cs,iV];lia
 refine ap (listItems_at ho rfl ?_);refine ap (listUpdate_at ho rfl ?_ LZ (cN _));obtain⟨e1,L6⟩:∃e1,(s.heap.update a (Obj.mapSeq fun _=>#[])).get? a=some (seqObj "list" #[] e1):=⟨_,oZ ho (fun _=>#[])⟩
 refine ap (seqEpoch_at L6 rfl ?_);refine ap (wpAny_newTuple ?_ (by show vs.length<=_;rw[iV];lia));refine ap (wpAny_newList ?_ (cN _));refine fK ?_;have Iv:(((s.heap.update a (Obj.mapSeq fun _=>#[])).push (seqObj "tuple" vs.toArray 0)).push (seqObj "list" #[] 0)).get? a=some (seqObj "list" #[] e1):=by
  rw[d0 _ _ _ (by rw[fQ,fD];exact aT (cr ha)),d0 _ _ _ (by rw[fD];exact aT ha)];exact L6
 have Wr:iu (((s.heap.update a (Obj.mapSeq fun _=>#[])).push (seqObj "tuple" vs.toArray 0)).push (seqObj "list" #[] 0)) g vs:=by
  intro v hv;obtain⟨b,o,n,t,u,ev,e,c,d⟩:=hp v hv;have hb:b<s.heap.objs.size:=aQ e;have tK:b≠a:=by
   rintro rfl;rw[ho] at e;cases e;exact absurd (Value.type.inj c) (by decide)
  refine⟨b,o,n,t,u,ev,?_,c,d⟩;rw[d0 _ _ _ (by rw[fQ,fD];exact aT (cr hb)),d0 _ _ _ (by rw[fD];exact aT hb),mW _ _ _ _ tK];exact e
 show wpAny (model prog w) A _ P E { s with heap:=((s.heap.update a (Obj.mapSeq fun _=>#[])).push (seqObj "tuple" vs.toArray 0)).push (seqObj "list" #[] 0) };dsimp only;have fin:∀aM:SortSt,(arrOf aM).Perm (vs.toArray.zip vs.toArray)->So (fun x=>kv g x.1) (arrOf aM) 0 (arrOf aM).size->P (.done (.ret .none)) { s with heap:=sortedHeap s.heap a vs ((arrOf aM).map (·.2)) }:=by
  intro aM L7 so;refine h _ ?_ ?_
  .have:=(jN.mp L7).map (·.2);rw[<-oM,<-oM,Gc] at this;exact this
  .have same:∀p∈(arrOf aM).toList,p.2=p.1:=by
    intro p hp;have:=(jN.mp L7).mem_iff.mp hp;rw[xr] at this;exact Dp this
   rw[oM,f9];refine wF.mpr fun i j hi hj J5=>?_;rw[same _ (eM hi),same _ (eM hj)];have:=so i j (by lia) (by lia) (by simpa using hj);rw[cj (by simpa using hi),cj (by simpa using hj)] at this;simpa using this
 have SU:(vs.toArray.zip vs.toArray).size=vs.length:=by simp
 by_cases h2:vs.toArray.size<2
 .rw[aq h2,aq h2];refine ap (wpAny_pure ?_);rw[StateT.run_pure];refine ap (wpAny_pure ?_);dsimp only;refine ap (seqEpoch_at Iv rfl ?_);refine ap (listUpdate_at Iv rfl ?_ (cN _) (by show ((vs.toArray.zip vs.toArray).map (·.2)).size<=_;rw[hZ,SU,iV];lia));simp only[bne_self_eq_false,kW,eZ];exact wpAny_pure (fin (SortSt.mk' general' (vs.toArray.zip vs.toArray) #[] 7 none) (Array.Perm.refl _) fun i j _ h3 h4=>by
   have h4:j<(vs.toArray.zip vs.toArray).size:=h4;rw[SU] at h4;rw[cs] at h2;rw[show i=j by lia];exact iU _)
 .rw[au h2,au h2];have eD:2<=vs.length:=by rw[cs] at h2;lia
  obtain⟨fs,k1,k2,k3⟩:=Wr.ii;refine ap (kat_kind (T:=.type "int") k1 (by lia) (fun v hv=>?_) rfl ?_)
  .obtain⟨m,t,rfl⟩:=k3 v hv;exact .now
  refine ap (gw (AZ (a₀:=vs.toArray.zip vs.toArray) (κ:=tuples' true) (st:=SortSt.mk' (tuples' true) (vs.toArray.zip vs.toArray) #[] 7 none)
   (Q:=fun _ aM=>(arrOf aM).Perm (vs.toArray.zip vs.toArray)/\failedOf aM=none/\So (fun x=>kv g x.1) (arrOf aM) 0 (vs.toArray.zip vs.toArray).size) (A0 Wr) (Array.Perm.refl _) rfl rfl rfl fun aM b1 b2 b3=>⟨b1,b2,b3⟩) ?_ fun _ _ e=>e)
  rintro⟨⟨⟩,aM⟩ s' ⟨rfl,L7,hf,so⟩;dsimp only;refine ap (seqEpoch_at Iv rfl ?_);refine ap (listUpdate_at Iv rfl ?_ (cN _) (by refine aY (sL ((hZ ..).trans (L7.size_eq.trans SU))) ?_;rw[iV];lia));rw[hf];simp only[bne_self_eq_false,kW,eZ];exact wpAny_pure (fin aM L7 (by rw[L7.size_eq];exact so))
theorem ud(hl:s.heap.IsList l vs.toArray)(hp:iu s.heap g vs)(hz:vs.length<=4096)(h:∀ (out:Array Value),out.toList.Perm vs->out.toList.Pairwise (fun u v=>kv g u<=kv g v)->Q (.ref (s.heap.objs.size+1)) { s with heap:=sortedAll s.heap vs out }):
  wpAny (model prog w) A (call (.builtin "sorted") [.ref l]) Q E s:=by
 have LZ:vs.length<=sizeLine:=by rw[iV];lia
 refine Calls.call_function_entry kind_sorted plain_sorted entry_sorted (args_sorted1 _) ?_;unfold Builtin.«sorted»;refine ap (m:=checkCount "sorted" 1 1 _) (wpAny_pure ?_);refine ap (collect_list hl ?_ LZ);refine ap (wpAny_newList ?_ LZ);have kK:((s.heap.push (seqObj "list" #[] 0)).update s.heap.objs.size (Obj.mapSeq (·++vs.toArray))).objs.size=s.heap.objs.size+1:=by
  rw[fD,fQ]
 have Ak:(((s.heap.push (seqObj "list" #[] 0)).update s.heap.objs.size (Obj.mapSeq (·++vs.toArray))).push (seqObj "list" vs.toArray 0)).get? (s.heap.objs.size+1)=some (seqObj "list" vs.toArray 0):=by
  rw[<-kK];exact cC _ rfl
 have Y1:iu (((s.heap.push (seqObj "list" #[] 0)).update s.heap.objs.size (Obj.mapSeq (·++vs.toArray))).push (seqObj "list" vs.toArray 0)) g vs:=by
  intro v hv;obtain⟨b,o,n,t,u,ev,e,c,d⟩:=hp v hv;have hb:b<s.heap.objs.size:=aQ e;refine⟨b,o,n,t,u,ev,?_,c,d⟩;rw[d0 _ _ _ (by rw[kK];exact aT (cr hb)),mW _ _ _ _ (aT hb),d0 _ _ _ (aT hb)];exact e
 show wpAny _ _ _ _ _ { s with heap:=((s.heap.push (seqObj "list" #[] 0)).update s.heap.objs.size (Obj.mapSeq (·++vs.toArray))).push (seqObj "list" vs.toArray 0) };rw[kK];refine ap (fK (iS slot_list_sort ⟨_,Ak,rfl⟩ entry_list_sort (nB Ak Y1 hz fun out a1 a2=>⟨_,rfl,?_⟩) (args_list_sort _)));exact wpAny_pure ⟨_,rfl,h out a1 a2⟩
end
theorem vR:∀ {as:List Addr} {its:List Value},aP (as.map V.ref) its->its=as.map Value.ref
 |[],_,r=>by cases r;rfl
 |a::as,_,r=>by
  cases r with
  |cons r rr=>
   obtain rfl:=(show _=Value.ref a from r)
   rw[vR rr];rfl
theorem rn:∀ {as:List Addr},aP (as.map V.ref) (as.map Value.ref)
 |[]=>.nil
 |_::_=>.cons rfl rn
theorem A1(h:vs.Perm (as.map Value.ref)):∃uV:List Addr,vs=uV.map Value.ref/\uV.Perm as:=by
 let un:Value->Addr:=fun v=>match v with|.ref a=>a|_=>0
 refine⟨vs.map un,?_,?_⟩
 .rw[eO];have:∀v∈vs,(Value.ref ∘ un) v=v:=by
   intro v hv;obtain⟨a,_,rfl⟩:=bu.mp (h.mem_iff.mp hv);rfl
  conv=>lhs;rw[<-ic vs]
  exact kT fun v hv=>(this v hv).symm
 .have:=h.map un;rw[eO] at this;have e:as.map (un ∘ Value.ref)=as:=by
   conv=>rhs;rw[<-ic as]
   exact kT fun a _=>rfl
  rw[e] at this;exact this
def Dq(K:PySem.W.Frag):List V->Hp->VK->Prop:=fun xs H Q=>∃ (l:Addr) (as:List Addr) (g:Addr->Int×Int),xs=[.ref l]/\a_ K H l (as.map V.ref)/\(∀a∈as,cI K H a [.int (g a).1,.int (g a).2]/\0<=(g a).2/\(g a).2<64)/\as.length<=4096/\
 ∀ (D:Addr) (uV:List Addr),H D=none->uV.Perm as->uV.Pairwise (fun a b=>pk (g a)<=pk (g b))->Q (.ref D) (upd H D (.lst (uV.map V.ref)))
theorem yj:eR X (.builtin "sorted") (Dq X.K):=by
 intro ae s σ H xs us Q I r h;obtain⟨l,as,g,rfl,hl,hp,hz,q⟩:=h;obtain⟨u1,rfl,r1⟩:=r.one;obtain rfl:u1=Value.ref l:=r1;obtain⟨its,rv,pl,_⟩:=I.list hl;have JU:=vR rv;subst JU;have Y2:iu s.heap g (as.map Value.ref):=by
  intro v hv;obtain⟨a,ha,rfl⟩:=bu.mp hv;obtain⟨AX,b1,b2⟩:=hp a ha;obtain⟨its,r,⟨o,e,c,n,d⟩,_⟩:=I.tuple AX;obtain⟨u1,u2,rfl,r1,r2⟩:=r.two;obtain⟨t,rfl⟩:=r1;obtain⟨t',rfl⟩:=r2;exact⟨a,o,n,t,t',rfl,e,c,d,b1,b2⟩
 refine ud pl.isList Y2 (by rw[aZ];exact hz) fun out NZ N0=>?_;obtain⟨uV,eo,pa⟩:=A1 NZ;have AR:out=(uV.map Value.ref).toArray:=by rw[<-eo]
 subst AR;have ho:uV.Pairwise (fun a b=>pk (g a)<=pk (g b)):=by
  rw[eo,f9] at N0;exact N0
 have J9:((s.heap.push (seqObj "list" #[] 0)).update s.heap.objs.size (Obj.mapSeq (·++(as.map Value.ref).toArray))).objs.size=s.heap.objs.size+1:=by rw[fD,fQ]
 have k1:∀b u,s.heap.get? b=some u->(((s.heap.push (seqObj "list" #[] 0)).update s.heap.objs.size (Obj.mapSeq (·++(as.map Value.ref).toArray))).push (seqObj "list" (as.map Value.ref).toArray 0)).get? b=some u:=fun b u e=>by
  have hb:b<s.heap.objs.size:=aQ e;rw[d0 _ _ _ (by rw[J9];exact aT (cr hb)),mW _ _ _ _ (aT hb),d0 _ _ _ (aT hb)];exact e
 have Ak:(((s.heap.push (seqObj "list" #[] 0)).update s.heap.objs.size (Obj.mapSeq (·++(as.map Value.ref).toArray))).push (seqObj "list" (as.map Value.ref).toArray 0)).get? (s.heap.objs.size+1)=some (seqObj "list" (as.map Value.ref).toArray 0):=by
  rw[<-J9];exact cC _ rfl
 have A2:(((s.heap.push (seqObj "list" #[] 0)).update s.heap.objs.size (Obj.mapSeq (·++(as.map Value.ref).toArray))).push (seqObj "list" (as.map Value.ref).toArray 0)).objs.size=s.heap.objs.size+2:=by rw[fQ,J9]
 show EP X ae σ Q (.ref (s.heap.objs.size+1)) { s with heap:=sortedHeap (((s.heap.push (seqObj "list" #[] 0)).update s.heap.objs.size (Obj.mapSeq (·++(as.map Value.ref).toArray))).push (seqObj "list" (as.map Value.ref).toArray 0)) (s.heap.objs.size+1) (as.map Value.ref) (uV.map Value.ref).toArray };revert k1 Ak A2;generalize ((s.heap.push (seqObj "list" #[] 0)).update s.heap.objs.size (Obj.mapSeq (·++(as.map Value.ref).toArray))).push (seqObj "list" (as.map Value.ref).toArray 0)=h1;intro k1 Ak A2;obtain⟨e1,L6⟩:∃e1,(h1.update (s.heap.objs.size+1) (Obj.mapSeq fun _=>(#[]:Array Value))).get? (s.heap.objs.size+1)=some (seqObj "list" #[] e1):=⟨_,oZ Ak (fun _=>#[])⟩
 have Iv:(((h1.update (s.heap.objs.size+1) (Obj.mapSeq fun _=>(#[]:Array Value))).push (seqObj "tuple" (as.map Value.ref).toArray 0)).push (seqObj "list" #[] 0)).get? (s.heap.objs.size+1)=some (seqObj "list" #[] e1):=by
  rw[d0 _ _ _ (by rw[fQ,fD,A2];exact aT (cr (gR _))),d0 _ _ _ (by rw[fD,A2];exact aT (gR _))];exact L6
 obtain⟨e2,Y3⟩:∃e2,(sortedHeap h1 (s.heap.objs.size+1) (as.map Value.ref) (uV.map Value.ref).toArray).get? (s.heap.objs.size+1)=some (seqObj "list" (uV.map Value.ref).toArray e2):=⟨_,oZ Iv (fun _=>(uV.map Value.ref).toArray)⟩
 have keep:∀b u,s.heap.get? b=some u->(sortedHeap h1 (s.heap.objs.size+1) (as.map Value.ref) (uV.map Value.ref).toArray).get? b=some u:=fun b u e=>by
  have hb:b<s.heap.objs.size:=aQ e;unfold sortedHeap;rw[mW _ _ _ _ (aT (cr hb)),d0 _ _ _ (by rw[fQ,fD,A2];exact aT (cr (cr (cr hb)))),d0 _ _ _ (by rw[fD,A2];exact aT (cr (cr hb))),mW _ _ _ _ (aT (cr hb))];exact k1 b u e
 have vT:s.heap.get? (s.heap.objs.size+1)=none:=rX (by lia);refine⟨.ref (s.heap.objs.size+1),_,I.CM (t':=s.toks) (o:=.lst (uV.map V.ref)) keep vT ⟨?_,uV.map Value.ref,e2,rn,Y3⟩,rfl,q _ uV (I.bq.mB vT) pa ho⟩;rw[aZ,pa.length_eq];exact aY hz (by decide)
open PySem PySem.Spec PyProof.Rows
theorem bY(sb:Heap.SameBut c h h')(n:b≠c)(e:h.get? b=some o):h'.get? b=some o:=(sb.2 b n).trans e
section
variable {prog:Program} {w:World} {A:Around} {E:Value->Shared->Prop} {s:Shared}
end
theorem aF.Gd{X:Cx}{ae:List (Addr×Obj)}{σ:St}{H:Hp}{s:Shared}{h':Heap}{t':Nat}{ch:List Addr}(I:aF X ae σ H s)(fe:∀e∈ch,gW X ae H e)(k:∀b o,b∉ch->s.heap.get? b=some o->h'.get? b=some o):aF X ae σ H { s with heap:=h',toks:=t' }:=by
 have HU:∀b u,H b=some u->b∉ch:=fun b u e z=>by rw[(fe b z).1] at e;cases e
 refine I.step (g':=s.gens) (d':=s.drawn) (ch:=ch) (fun b hb=>?_) (fun b o _ _ hc e _=>k b o hc e) (fun b o _ _ hc e _=>⟨o.slots,k b o hc e⟩) (fun _ _ _ _ n=>n) (fun b o hc e=>⟨o,k b o hc e⟩) (fun _ _ e=>e) (fun _ _ _ e=>e) (fun b ps e=>⟨#[],by rw[e];simp⟩) (fun m hm=>?_) (fun b u e=>?_) I.bare
 .obtain⟨_,f1,_,f3,f4,f5⟩:=fe b hb;exact⟨f3,f1,f4,f5⟩
 .obtain⟨o,es,ep,ho,r⟩:=hm;exact⟨o,es,ep,k _ o (fun z=>(fe _ z).2.1 rfl) ho,r⟩
 .refine(I.bq b u e).km (fun c v hc q=>k c v ?_ q) (fun _ q=>q) fun _ _ q=>q;rcases hc with z|z
  .rw[z];exact HU b u e
  .exact HU c _ z
theorem aF.Ge{X:Cx}{ae:List (Addr×Obj)}{σ:St}{H:Hp}{s:Shared}{h':Heap}{p:Addr}{t':Nat}{ch:List Addr}{xs:List V}{its:List Value}(I:aF X ae σ H s)(fe:∀e∈ch,gW X ae H e)(k:∀b o,b∉ch->s.heap.get? b=some o->h'.get? b=some o)(hp:s.heap.objs.size<=p)(hl:xs.length<=sizeLine)(r:aP xs its)(ht:h'.get? p=some { cls:=.type "tuple",data:=.seq its.toArray }):aF X ae σ (upd H p (.tup xs)) { s with heap:=h',toks:=t' }:=by
 have hn:=I.bq.fresh hp;have ne:∀b o,s.heap.get? b=some o->b≠p:=fun b o q=>aT (bz (aQ q) hp);have HU:∀b u,H b=some u->b∉ch:=fun b u e z=>by rw[(fe b z).1] at e;cases e
 refine I.step (g':=s.gens) (d':=s.drawn) (ch:=ch) (fun b hb=>?_) (fun b o _ _ hb q _=>k b o hb q) (fun b o _ _ hb q _=>⟨o.slots,k b o hb q⟩) (fun b o hb q n=>by rw[ao (ne b o q)];exact n) (fun b o hb q=>⟨o,k b o hb q⟩)
  (fun b ys q=>by rw[ao (am q hn)];exact q) (fun b o u q=>by rw[ao (am q hn)];exact q) (fun b ps q=>⟨#[],by rw[ao (am q hn),q];simp⟩) (fun m hm=>?_) (fun b o q=>?_) I.bare
 .obtain⟨_,f1,_,f3,f4,f5⟩:=fe b hb;exact⟨f3,f1,f4,f5⟩
 .obtain⟨o,es,ep,q,d,r'⟩:=hm;exact⟨o,es,ep,k _ _ (fun z=>(fe _ z).2.1 rfl) q,d,r'⟩
 .by_cases hb:b=p
  .subst hb;rw[ag] at q;cases q;exact⟨hl,its,r,_,ht,rfl,_,rfl,rfl⟩
  .rw[ao hb] at q;refine(I.bq b o q).km (fun c u hc z=>k c u ?_ z) (fun c z=>by rw[ao (am z hn)];exact z) fun c ys z=>by rw[ao (am z hn)];exact z
   rcases hc with rfl|hc
   .exact HU _ _ q
   .exact HU _ _ hc
section
variable {X:Cx}
end
theorem vU{h:Heap}{vs:List Value}{out:Array Value}:(∃e,(sortedAll h vs out).get? (h.objs.size+1)=some (seqObj "list" out e))/\∀b u,h.get? b=some u->(sortedAll h vs out).get? b=some u:=by
 have J9:((h.push (seqObj "list" #[] 0)).update h.objs.size (Obj.mapSeq (·++vs.toArray))).objs.size=h.objs.size+1:=by rw[fD,fQ]
 have k1:∀b u,h.get? b=some u->(((h.push (seqObj "list" #[] 0)).update h.objs.size (Obj.mapSeq (·++vs.toArray))).push (seqObj "list" vs.toArray 0)).get? b=some u:=fun b u e=>by
  have hb:b<h.objs.size:=aQ e;rw[d0 _ _ _ (by rw[J9];exact aT (cr hb)),mW _ _ _ _ (aT hb),d0 _ _ _ (aT hb)];exact e
 have Ak:(((h.push (seqObj "list" #[] 0)).update h.objs.size (Obj.mapSeq (·++vs.toArray))).push (seqObj "list" vs.toArray 0)).get? (h.objs.size+1)=some (seqObj "list" vs.toArray 0):=by
  rw[<-J9];exact cC _ rfl
 have A2:(((h.push (seqObj "list" #[] 0)).update h.objs.size (Obj.mapSeq (·++vs.toArray))).push (seqObj "list" vs.toArray 0)).objs.size=h.objs.size+2:=by rw[fQ,J9]
 unfold sortedAll;revert k1 Ak A2;generalize ((h.push (seqObj "list" #[] 0)).update h.objs.size (Obj.mapSeq (·++vs.toArray))).push (seqObj "list" vs.toArray 0)=h1;intro k1 Ak A2;obtain⟨e1,L6⟩:∃e1,(h1.update (h.objs.size+1) (Obj.mapSeq fun _=>(#[]:Array Value))).get? (h.objs.size+1)=some (seqObj "list" #[] e1):=⟨_,oZ Ak (fun _=>#[])⟩
 have Iv:(((h1.update (h.objs.size+1) (Obj.mapSeq fun _=>(#[]:Array Value))).push (seqObj "tuple" vs.toArray 0)).push (seqObj "list" #[] 0)).get? (h.objs.size+1)=some (seqObj "list" #[] e1):=by
  rw[d0 _ _ _ (by rw[fQ,fD,A2];exact aT (cr (gR _))),d0 _ _ _ (by rw[fD,A2];exact aT (gR _))];exact L6
 refine⟨⟨_,oZ Iv (fun _=>out)⟩,fun b u e=>?_⟩;have hb:b<h.objs.size:=aQ e;unfold sortedHeap;rw[mW _ _ _ _ (aT (cr hb)),d0 _ _ _ (by rw[fQ,fD,A2];exact aT (cr (cr (cr hb)))),d0 _ _ _ (by rw[fD,A2];exact aT (cr (cr hb))),mW _ _ _ _ (aT (cr hb))];exact k1 b u e
end L2
namespace iI
abbrev Ts:=List (Int×Int)
def T(ts:Ts)(a b:Nat):Prop:=(((a:Nat):Int),((b:Nat):Int))∈ts
instance (ts:Ts) (a b:Nat):Decidable (T ts a b):=inferInstanceAs (Decidable (_∈_))
def eW(ts:Ts):Nat->Nat->Nat->Prop
 |0,a,b=>a=b
 |k+1,a,b=>∃c,eW ts k a c/\T ts c b
theorem eW.trans(h:eW ts k a b):∀ {l:Nat} {c:Nat},eW ts l b c->eW ts (k+l) a c
 |0,_,e=>by cases e;exact h
 |l+1,_,⟨d,w,t⟩=>⟨d,h.trans w,t⟩
theorem eW.one(h:T ts a b):eW ts 1 a b:=⟨a,rfl,h⟩
theorem eW.cons(h:T ts a b)(w:eW ts k b c):eW ts (k+1) a c:=by
 have:=(eW.one h).trans w;rwa [Nat.add_comm] at this
theorem eW.Dr{ts:Ts}:∀ {k:Nat} {a c:Nat},eW ts (k+1) a c->∃b,T ts a b/\eW ts k b c
 |0,a,c,⟨d,e,t⟩=>by cases e;exact⟨c,t,rfl⟩
 |k+1,a,c,⟨d,w,t⟩=>by
  obtain⟨b,t',w'⟩:=eW.Dr w;exact⟨b,t',d,w',t⟩
def rp(ts:Ts)(a b d:Nat):Prop:=eW ts d a b/\∀k,eW ts k a b->d<=k
theorem rp.uniq(h:rp ts a b d)(g:rp ts a b e):d=e:=Nat.le_antisymm (h.2 _ g.1) (g.2 _ h.1)
open Classical in
noncomputable def far(ts:Ts)(a b:Nat):Nat:=if h:∃d,rp ts a b d then h.choose else 0
theorem Ds(h:rp ts a b d):far ts a b=d:=by
 unfold far;have hx:∃d,rp ts a b d:=⟨d,h⟩
 rw[dif_pos hx];exact hx.choose_spec.uniq h
structure iJ(n:Nat)(ts:Ts):Prop where
 n1:2<=n
 n2:n<=32
 nd:ts.Nodup
 rg:∀t∈ts,(0<=t.1/\t.1<n)/\(0<=t.2/\t.2<n)
 ne:∀t∈ts,t.1≠t.2
 Y4:∀h:Int,(ts.filter fun t=>decide (t.1=h)).length=(ts.filter fun t=>decide (t.2=h)).length
 most:∀h:Int,(ts.filter fun t=>decide (t.1=h)).length<=8
 con:∀a b,a<n->b<n->∃k,eW ts k a b
theorem A3(f:α->Int):∀ (l:List α) (n:Nat),(∀x∈l,0<=f x/\f x<n)->(∀h:Int,(l.filter fun t=>decide (f t=h)).length<=8)->l.length<=8*n:=by
 intro l n;induction n generalizing l with
 |zero=>
  intro h _;cases l with
  |nil=>simp
  |cons x xs=>have:=h x ci;lia
 |succ n ih=>
  intro h h8;have e:l.length=(l.filter fun t=>decide (f t=(n:Int))).length+(l.filter fun t=>!decide (f t=(n:Int))).length:=by
   induction l with
   |nil=>rfl
   |cons x xs Y5=>
    have:=Y5 (fun y hy=>h y (b8 _ hy)) (fun hh=>aY (by rw[eN];split <;> simp) (h8 hh));by_cases q:f x=(n:Int) <;> simp[eN,q] <;> lia
  have i2:=ih (l.filter fun t=>!decide (f t=(n:Int))) (fun x hx=>by
   have a:=h x (fk.mp hx |>.1);have b:=(fk.mp hx).2;simp at b;lia) (fun hh=>by
   refine aY ?_ (h8 hh);exact(rV.filter _).length_le)
  have:=h8 (n:Int);lia
theorem iJ.len(F:iJ n ts):ts.length<=256:=by
 have:=A3 (·.1) ts n (fun t ht=>(F.rg t ht).1) F.most;have:=F.n2;lia
theorem iJ.QJ(F:iJ n ts)(h:T ts a b):a<n/\b<n/\a≠b:=by
 have q:=F.rg _ h;have q2:=F.ne _ h;refine⟨by have:=q.1;simp at this;lia,by have:=q.2;simp at this;lia,fun e=>q2 (by rw[e])⟩
def c_(n:Nat)(ts:Ts)(h:Nat):List Nat:=((List.range n).map fun s=>(h+s) % n).filter fun o=>decide (T ts h o)
theorem fX(F:iJ n ts)(hh:h<n):o∈c_ n ts h↔T ts h o:=by
 unfold c_;rw[fk,oI];refine⟨fun z=>z.2,fun z=>⟨?_,z⟩⟩;obtain⟨_,h2,_⟩:=F.QJ z;refine bu.mpr ⟨if h<=o then o-h else o+n-h,dv.mpr (by split <;> lia),?_⟩;split
 .rw[show h+(o-h)=o by lia,j9 h2]
 .rw[show h+(o+n-h)=o+n by lia,Nat.add_mod_right,j9 h2]
theorem lE(F:iJ n ts)(hh:h<n)(ho:o∈c_ n ts h):o<n:=(F.QJ ((fX F hh).mp ho)).2.1
def key(n h o:Nat):Int:=((o:Int)-(h:Int)) % (n:Int)
theorem Dt(hh:h<n)(hs:s<n):key n h ((h+s) % n)=(s:Int):=by
 unfold key;by_cases c:h+s<n
 .rw[j9 c,show (((h+s:Nat):Int)-(h:Int))=(s:Int) by lia];exact xi (by lia) (by lia)
 .have e:(h+s) % n=h+s-n:=by
   rw[Nat.mod_eq_sub_mod (by lia),j9 (by lia)]
  rw[e,show ((((h+s-n:Nat)):Int)-(h:Int))=(s:Int)-(n:Int) by lia,Int.sub_emod_right];exact xi (by lia) (by lia)
theorem ng(hh:h<n):(c_ n ts h).Pairwise fun a b=>key n h a<key n h b:=by
 unfold c_;refine List.Pairwise.filter _ ?_;refine f9.mpr ?_;refine List.Pairwise.imp_of_mem ?_ (List.pairwise_lt_range (n:=n));intro a b ha hb J_;rw[Dt hh (dv.mp ha),Dt hh (dv.mp hb)];lia
theorem gn{α:Type}{k:α->Int}:∀ {a b:List α},a.Pairwise (fun x y=>k x<k y)->b.Pairwise (fun x y=>k x<k y)->(∀x,x∈a↔x∈b)->a=b
 |[],[],_,_,_=>rfl
 |[],y::ys,_,_,h=>absurd ((h y).mpr ci) (by simp)
 |x::xs,[],_,_,h=>absurd ((h x).mp ci) (by simp)
 |x::xs,y::ys,ha,hb,h=>by
  obtain⟨a1,a2⟩:=List.pairwise_cons.mp ha;obtain⟨b1,b2⟩:=List.pairwise_cons.mp hb;have e:x=y:=by
   rcases bg.mp ((h x).mp ci) with z|z
   .exact z
   .rcases bg.mp ((h y).mpr ci) with z'|z'
    .exact z'.symm
    .have q1:=b1 x z;have q2:=a1 y z';lia
  subst e;refine congrArg (x::·) (gn a2 b2 fun z=>⟨fun hz=>?_,fun hz=>?_⟩)
  .rcases bg.mp ((h z).mp (b8 _ hz)) with q|q
   .subst q;exact absurd (a1 _ hz) (by lia)
   .exact q
  .rcases bg.mp ((h z).mpr (b8 _ hz)) with q|q
   .subst q;exact absurd (b1 _ hz) (by lia)
   .exact q
structure A4(n:Nat)(ts:Ts)(s i:Nat)(R:List Nat)(f:Nat->Nat):Prop where
 nd:R.Nodup
 lt:∀x∈R,x<n
 st:s∈R
 z:f s=0
 wk:∀x∈R,eW ts (f x) s x
 up:R.Pairwise fun a b=>f a<=f b
 bd:∀u,R[i]?=some u->∀x∈R,f x<=f u+1
 cl:∀j u,j<i->R[j]?=some u->∀v,T ts u v->v∈R/\f v<=f u+1
theorem A4.start(hs:s<n):A4 n ts s 0 [s] (fun _=>0):=
 ⟨by simp,fun x hx=>by simp at hx;lia,by simp,rfl,fun x hx=>by simp at hx;subst hx;rfl,by simp,fun u _ x _=>by lia,fun j u h=>absurd h (by lia)⟩
def put(f:Nat->Nat)(v k:Nat):Nat->Nat:=fun y=>if y=v then k else f y
theorem jb:put f v k v=k:=by simp[put]
theorem fh(h:x≠v):put f v k x=f x:=by simp[put,h]
theorem A4.add(B:A4 n ts s i R f)(hu:R[i]?=some u)(hv:v<n)(t:T ts u v)(hn:v∉R):A4 n ts s i (R++[v]) (put f v (f u+1)):=by
 have Ws:u∈R:=cT hu;have nv:∀x∈R,x≠v:=fun x hx e=>hn (e ▸ hx);have hi:i<R.length:=(cL.mp hu).1;refine⟨?_,fun x hx=>?_,gO _ B.st,by rw[fh (nv s B.st)];exact B.z,fun x hx=>?_,?_,fun w hw x hx=>?_,fun j w hj hw x hx=>?_⟩
 .rw[xf];exact⟨B.nd,by simp,fun a ha b hb e=>by simp at hb;subst hb;exact hn (e ▸ ha)⟩
 .rcases cf.mp hx with z|z
  .exact B.lt x z
  .simp at z;lia
 .rcases cf.mp hx with z|z
  .rw[fh (nv x z)];exact B.wk x z
  .simp at z;subst z;rw[jb];exact⟨u,B.wk u Ws,t⟩
 .rw[rP];refine⟨B.up.imp_of_mem fun {a b} ha hb h=>by rw[fh (nv a ha),fh (nv b hb)];exact h,by simp,fun a ha b hb=>?_⟩;simp at hb;subst hb;rw[fh (nv a ha),jb];exact B.bd u hu a ha
 .have Fe:w=u:=by
   rw[gN hi,hu] at hw;exact(bt hw).symm
  subst Fe;rw[fh (nv w Ws)];rcases cf.mp hx with z|z
  .rw[fh (nv x z)];exact B.bd w hu x z
  .simp at z;subst z;rw[jb];exact a9 _
 .rw[gN (by lia)] at hw;obtain⟨a,b⟩:=B.cl j w hj hw x hx;refine⟨gO _ a,?_⟩;rw[fh (nv x a),fh (nv w (cT hw))];exact b
theorem A4.next(B:A4 n ts s i R f)(hu:R[i]?=some u)(h:∀v,T ts u v->v∈R/\f v<=f u+1):A4 n ts s (i+1) R f:=by
 refine⟨B.nd,B.lt,B.st,B.z,B.wk,B.up,fun w hw x hx=>?_,fun j w hj hw v hv=>?_⟩
 .have h1:=B.bd u hu x hx;have h2:f u<=f w:=by
   have hi:i<R.length:=(cL.mp hu).1;have qt:i+1<R.length:=(cL.mp hw).1;have:=wF.mp B.up i (i+1) hi qt (by lia);rw[cV hi] at hu;rw[cV qt] at hw;rw[bt hu,bt hw] at this;exact this
  lia
 .by_cases e:j=i
  .subst e;rw[hu] at hw;cases hw;exact h v hv
  .exact B.cl j w (by lia) hw v hv
theorem iw:∀ {n:Nat} {R:List Nat},R.Nodup->(∀x∈R,x<n)->R.length<=n:=by
 intro n R hn hl;have key:∀ (a b:List Nat),a.Nodup->(∀x∈a,x∈b)->a.length<=b.length:=by
  intro a;induction a with
  |nil=>intro b _ _;exact cN _
  |cons x xs ih=>
   intro b hn hs;obtain⟨h1,h2⟩:=iC.mp hn;have hx:x∈b:=hs x ci;have:=ih (b.erase x) h2 fun y hy=>(List.mem_erase_of_ne (fun (e:y=x)=>h1 (e ▸ hy))).mpr (hs y (b8 _ hy));rw[BU hx] at this;have:0<b.length:=List.length_pos_of_mem hx;rw[cM];lia
 have:=key R (List.range n) hn fun x hx=>dv.mpr (hl x hx);rwa [kX] at this
theorem A4.done(B:A4 n ts s i R f)(F:iJ n ts)(hi:R.length<=i)(hx:x<n):x∈R/\f x=far ts s x:=by
 have cl:∀u∈R,∀v,T ts u v->v∈R/\f v<=f u+1:=fun u hu v hv=>by
  obtain⟨j,hj,e⟩:=oG.mp hu;exact B.cl j u (by lia) (by rw[cV hj,e]) v hv
 have walk:∀k x,eW ts k s x->x∈R/\f x<=k:=by
  intro k;induction k with
  |zero=>intro x e;cases e;exact⟨B.st,by rw[B.z];exact a9 _⟩
  |succ k ih=>
   rintro x ⟨c,w,t⟩;obtain⟨c1,c2⟩:=ih c w;obtain⟨d1,d2⟩:=cl c c1 x t;exact⟨d1,by lia⟩
 obtain⟨k,w⟩:=F.con s x (B.lt s B.st) hx;obtain⟨m,_⟩:=walk k x w;exact⟨m,(Ds ⟨B.wk x m,fun k w=>(walk k x w).2⟩).symm⟩
end iI
namespace L2
open PySem PySem.Spec PyProof.Rows
section
variable {X:Cx}
end
end L2
namespace iI
abbrev zO(u:Int×Int):Int×Int:=(u.2,u.1)
def kM(ps:Ts):Ts:=ps.flatMap fun u=>[u,zO u]
theorem yk:kM (ps++qs)=kM ps++kM qs:=List.flatMap_append
theorem jc:∀ {ps:Ts},(kM ps).Perm (ps++ps.map zO)
 |[]=>List.Perm.refl _
 |u::ps=>by
  have ih:=jc (ps:=ps);show (u::zO u::kM ps).Perm (u::(ps++zO u::ps.map zO));refine List.Perm.cons _ ?_;exact(ih.cons _).trans List.perm_middle.symm
theorem ue:∀ {ps:Ts},(kM ps).length=2*ps.length
 |[]=>rfl
 |u::ps=>by
  have ih:=ue (ps:=ps);show (kM ps).length+2=2*(ps.length+1);lia
theorem Gf(h:u∈kM ps):zO u∈kM ps:=by
 obtain⟨v,hv,hu⟩:=xp.mp h;refine xp.mpr ⟨v,hv,?_⟩;rcases bg.mp hu with e|e
 .rw[e];exact b8 _ (cX.mpr rfl)
 .rw[cX.mp e];exact ci
theorem uf:u∈kM ps↔u∈ps\/zO u∈ps:=by
 rw[(jc (ps:=ps)).mem_iff,cf];refine or_congr Iff.rfl ⟨fun h=>?_,fun h=>bu.mpr ⟨_,h,rfl⟩⟩;obtain⟨v,hv,rfl⟩:=bu.mp h;exact hv
theorem Gg:((kM ps).map zO).Perm (kM ps):=by
 refine((jc (ps:=ps)).map zO).trans (List.Perm.trans ?_ (jc (ps:=ps)).symm);rw[dI,eO];have e:ps.map (zO ∘ zO)=ps:=(kT fun u _=>rfl).trans (ic ps);rw[e];exact oy
abbrev n_(q:Nat×Nat):Int×Int:=((q.1:Int),(q.2:Int))
def b1(b:Bool):Nat:=cond b 1 0
def kF(h:Nat):List (Nat×Nat)->Nat
 |[]=>0
 |q::qs=>b1 (Nat.beq q.1 h)+(b1 (Nat.beq q.2 h)+kF h qs)
theorem zP{h:Nat}:∀ {qs:List (Nat×Nat)},((kM (qs.map n_)).filter fun t=>decide (t.1=(h:Int))).length=kF h qs
 |[]=>rfl
 |q::qs=>by
  have ih:=zP (h:=h) (qs:=qs);have e:∀a:Nat,(if decide ((a:Int)=(h:Int))=true then 1 else 0)=b1 (Nat.beq a h):=fun a=>by
   by_cases c:a=h
   .subst c;rw[aq (by simp),Nat.beq_refl];rfl
   .rw[au (by simp;lia),show Nat.beq a h=false from xj.mpr fun z=>c (Nat.eq_of_beq_eq_true z)];rfl
  show ((n_ q::zO (n_ q)::kM (qs.map n_)).filter _).length=b1 (Nat.beq q.1 h)+(b1 (Nat.beq q.2 h)+kF h qs);rw[<-ih,<-e q.1,<-e q.2,eN,eN];split <;> split <;> simp <;> lia
def pr:List Nat->Nat
 |[]=>1
 |n::ns=>n*pr ns
def qJ(m st n:Nat):List (Nat×Nat):=((List.range m).filter fun h=>decide (h / st % n+1<n)).map fun h=>(h,h+st)
def bx(m:Nat):Nat->List Nat->List (Nat×Nat)
 |_,[]=>[]
 |st,n::ns=>qJ m st n++bx m (st*n) ns
def ix(ns:List Nat):List (Nat×Nat):=bx (pr ns) 1 ns
def Gh:Nat->List Nat->Nat->Nat->Prop
 |_,[],_,_=>False
 |st,n::ns,a,b=>(a / st % n+1<n/\b=a+st)\/Gh (st*n) ns a b
theorem zR:q∈qJ m st n↔q.1<m/\q.1 / st % n+1<n/\q.2=q.1+st:=by
 unfold qJ;rw[bu];constructor
 .rintro⟨h,hh,rfl⟩;obtain⟨h1,h2⟩:=fk.mp hh;exact⟨dv.mp h1,dH h2,rfl⟩
 .rintro⟨h1,h2,h3⟩;exact⟨q.1,fk.mpr ⟨dv.mpr h1,bJ h2⟩,ig rfl h3.symm⟩
theorem pU:∀ {ns:List Nat} {st:Nat},q∈bx m st ns↔q.1<m/\Gh st ns q.1 q.2
 |[],st=>⟨fun h=>(nomatch h),fun h=>h.2.elim⟩
 |n::ns,st=>by
  unfold bx Gh;rw[cf,zR,pU (ns:=ns)];constructor
  .rintro(⟨a,b,c⟩|⟨a,b⟩)
   .exact⟨a,.inl ⟨b,c⟩⟩
   .exact⟨a,.inr b⟩
  .rintro⟨a,⟨b,c⟩|b⟩
   .exact .inl ⟨a,b,c⟩
   .exact .inr ⟨a,b⟩
abbrev U(ns:List Nat):Nat->Nat->Prop:=Gh 1 ns
theorem ug:∀ {ns:List Nat} {st a b:Nat},0<st->(∀n∈ns,0<n)->(Gh st ns a b↔a % st=b % st/\U ns (a / st) (b / st))
 |[],st,a,b,h,_=>⟨fun z=>z.elim,fun z=>z.2.elim⟩
 |n::ns,st,a,b,h,hn=>by
  have E_:=hn n ci;have yd:∀n∈ns,0<n:=fun x hx=>hn x (b8 _ hx);show (_\/Gh (st*n) ns a b)↔a % st=b % st/\(_\/Gh (1*n) ns (a / st) (b / st))
  rw[sQ,ug (l9 h E_) yd,ug E_ yd,o4,lT a st n,lT b st n,Nat.mod_mul,Nat.mod_mul];have e1:=hX a st;have e2:=hX b st;constructor
  .rintro(⟨c,rfl⟩|⟨c,d⟩)
   .refine⟨by rw[Nat.add_mod_right],.inl ⟨c,by rw[Nat.add_div_right _ h]⟩⟩
   .have m1:a % st=b % st:=by
     have:=congrArg (· % st) c;simp only[BS,Nat.mod_mod] at this;exact this
    refine⟨m1,.inr ⟨?_,d⟩⟩;rw[m1] at c;exact Nat.eq_of_mul_eq_mul_left h (Nat.add_left_cancel c)
  .rintro⟨m1,⟨c,d⟩|⟨c,d⟩⟩
   .refine .inl ⟨c,?_⟩;rw[<-e2,d,<-m1,o3,l_,Nat.add_right_comm,e1]
   .exact .inr ⟨by rw[m1,c],d⟩
theorem uh(h:∀x∈n::ns,0<x):U (n::ns) a b↔(a % n+1<n/\b=a+1)\/(a % n=b % n/\U ns (a / n) (b / n)):=by
 show (_\/Gh (1*n) ns a b)↔_;rw[sQ,ug (h n ci) fun x hx=>h x (b8 _ hx),o4]
theorem eG(h:a % n+1<n):(a+1) / n=a / n/\(a+1) % n=a % n+1:=by
 have e:=hX a n;have e2:a+1=n*(a / n)+(a % n+1):=by lia
 have hn:0<n:=by lia
 rw[e2,Nat.mul_add_div hn,Nat.mul_add_mod,xn h,j9 h];exact⟨rfl,rfl⟩
theorem N3:∀ {ns:List Nat} {a b:Nat},(∀x∈ns,0<x)->U ns a b->a<pr ns->a<b/\b<pr ns
 |[],a,b,_,h,_=>h.elim
 |n::ns,a,b,hn,h,ha=>by
  have E_:=hn n ci;have yd:∀n∈ns,0<n:=fun x hx=>hn x (b8 _ hx);have FN:a<n*pr ns:=ha;have hq:a / n<pr ns:=mR FN;show a<b/\b<n*pr ns;rcases(uh hn).mp h with ⟨c,rfl⟩|⟨c,d⟩
  .refine⟨by lia,?_⟩;have e:=hX a n;have:=mU n hq;rw[Nat.succ_eq_add_one,o3,l_] at this;lia
  .obtain⟨i1,i2⟩:=N3 yd d hq;refine⟨?_,?_⟩
   .have e1:=hX a n;have e2:=hX b n;have:=BR i1 E_;lia
   .have e2:=hX b n;have hm:=ie b E_;have:=mU n i2;rw[Nat.succ_eq_add_one,o3,l_] at this;lia
def jX(a b:Nat):Nat:=(a-b)+(b-a)
theorem Du:∀ {ns:List Nat} {v:Nat},(∀x∈ns,0<x)->0<v->v<pr ns->∃u,u<v/\U ns u v
 |[],v,_,h1,h2=>by have h2:v<1:=h2;lia
 |n::ns,v,hn,h1,h2=>by
  have E_:=hn n ci;have yd:∀n∈ns,0<n:=fun x hx=>hn x (b8 _ hx);have lv:=ie v E_;have ev:=hX v n;by_cases c:v % n=0
  .have hq:0<v / n:=by
    rcases xa (v / n) with z|z
    .rw[z,c] at ev;simp at ev;lia
    .exact z
   obtain⟨u,hu,uu⟩:=Du (v:=v / n) yd hq (mR h2);refine⟨n*u,?_,(uh hn).mpr (.inr ⟨by rw[Nat.mul_mod_right,c],by rw[Nat.mul_div_cancel_left _ E_];exact uu⟩)⟩;have:=BR hu E_;lia
  .have hv:v-1=n*(v / n)+(v % n-1):=by lia
   have hm:(v-1) % n=v % n-1:=by rw[hv,Nat.mul_add_mod,j9 (by lia)]
   exact⟨v-1,by lia,(uh hn).mpr (.inl ⟨by lia,by lia⟩)⟩
theorem zS:∀ {ns:List Nat} {st a b:Nat},(∀x∈ns,0<x)->Gh st ns a b->a+st<=b
 |[],st,a,b,_,h=>h.elim
 |n::ns,st,a,b,hn,h=>by
  rcases h with ⟨_,rfl⟩|h
  .exact a9 _
  .have:=zS (fun x hx=>hn x (b8 _ hx)) h;have h1:=wM st (hn n ci);lia
theorem A5:(qJ m st n).Nodup:=by
 unfold qJ;refine on.mpr (f9.mpr ?_);exact(on.mp (si.sublist rV)).imp fun {a b} h e=>h (congrArg Prod.fst e)
theorem vV:∀ {ns:List Nat} {st:Nat},0<st->(∀x∈ns,2<=x)->(bx m st ns).Nodup
 |[],_,_,_=>xv
 |n::ns,st,h,hn=>by
  have LY:=hn n ci;have yd:∀x∈ns,2<=x:=fun x hx=>hn x (b8 _ hx);refine xf.mpr ⟨A5,vV (l9 h (by lia)) yd,fun x hx y hy e=>?_⟩;subst e;have h1:=(zR.mp hx).2.2;have h2:=zS (fun x hx=>by have:=yd x hx;lia) (pU.mp hy).2;have h3:=mU st LY;lia
theorem A6(nd:ps.Nodup)(h:∀u∈ps,u.1<u.2):(kM ps).Nodup:=by
 refine(jc (ps:=ps)).nodup_iff.mpr (xf.mpr ⟨nd,?_,fun x hx y hy e=>?_⟩)
 .refine on.mpr (f9.mpr ((on.mp nd).imp fun {a b} J_ e=>J_ ?_));exact ig (congrArg Prod.snd e) (congrArg Prod.fst e)
 .subst e;obtain⟨u,hu,rfl⟩:=bu.mp hy;have h1:=h _ hx;have h2:=h u hu;have h1:u.2<u.1:=h1;lia
theorem A7{qs:List (Nat×Nat)}(h:qs.Nodup):(qs.map n_).Nodup:=by
 refine on.mpr (f9.mpr ((on.mp h).imp fun {a b} J_ e=>J_ ?_));exact ig (iD (congrArg Prod.fst e)) (iD (congrArg Prod.snd e))
theorem nh:∀ {a b:List (Nat×Nat)},kF h (a++b)=kF h a+kF h b
 |[],b=>by show kF h b=0+_;lia
 |q::a,b=>by
  have:=nh (h:=h) (a:=a) (b:=b);show b1 _+(b1 _+kF h (a++b))=b1 _+(b1 _+kF h a)+kF h b;lia
theorem Iw:b1 (Nat.beq a b)=if a=b then 1 else 0:=by
 by_cases c:a=b
 .subst c;rw[aq rfl,Nat.beq_refl];rfl
 .rw[au c,show Nat.beq a b=false from xj.mpr fun z=>c (Nat.eq_of_beq_eq_true z)];rfl
theorem zT:∀ {L:List Nat},L.Nodup->kF h (L.map fun x=>(x,x+st))<=(if h∈L then 1 else 0)+(if st<=h/\h-st∈L then 1 else 0)
 |[],_=>cN _
 |x::L,nd=>by
  obtain⟨n1,n2⟩:=iC.mp nd;have ih:=zT (h:=h) (st:=st) n2;show b1 (Nat.beq x h)+(b1 (Nat.beq (x+st) h)+kF h (L.map fun x=>(x,x+st)))<=_;rw[Iw,Iw];have e1:(if h∈x::L then 1 else 0)=(if x=h then 1 else 0)+(if h∈L then 1 else 0):=by
   by_cases c:x=h
   .subst c;rw[aq ci,aq rfl,au n1]
   .rw[au c];by_cases d:h∈L
    .rw[aq (b8 _ d),aq d]
    .rw[au d,au (fun z=>(bg.mp z).elim (fun z=>c z.symm) d)]
  have e2:(if st<=h/\h-st∈x::L then 1 else 0)=(if x+st=h then 1 else 0)+(if st<=h/\h-st∈L then 1 else 0):=by
   by_cases c:x+st=h
   .have e:h-st=x:=by lia
    rw[aq c,e,aq ⟨by lia,ci⟩,au (fun z=>n1 z.2)]
   .rw[au c];by_cases d:st<=h/\h-st∈L
    .rw[aq d,aq ⟨d.1,b8 _ d.2⟩]
    .rw[au d,au];rintro⟨z1,z2⟩;rcases bg.mp z2 with z|z
     .lia
     .exact d ⟨z1,z⟩
  rw[e1,e2];lia
def wt:List Nat->Nat
 |[]=>0
 |n::ns=>(if n=2 then 1 else 2)+wt ns
theorem Gi(hs:0<st):kF h (qJ m st n)<=if n=2 then 1 else 2:=by
 have c:=zT (h:=h) (st:=st) (L:=(List.range m).filter fun h=>decide (h / st % n+1<n)) (si.sublist rV);refine aY c ?_;by_cases e:n=2
 .rw[aq e];by_cases c1:h∈(List.range m).filter fun h=>decide (h / st % n+1<n)
  .rw[aq c1,au]
   .lia
   .rintro⟨z1,z2⟩;have d1:h / st % n+1<n:=dH (fk.mp c1).2;have d2:(h-st) / st % n+1<n:=dH (fk.mp z2).2;have d3:h / st=(h-st) / st+1:=by
     have:=Nat.add_div_right (h-st) hs;rw[show h-st+st=h by lia] at this;exact this
    obtain⟨_,d4⟩:=eG d2;rw[<-d3] at d4;lia
  .rw[au c1];split <;> lia
 .rw[au e];split <;> split <;> lia
theorem Dv:∀ {ns:List Nat} {st:Nat},0<st->(∀x∈ns,0<x)->kF h (bx m st ns)<=wt ns
 |[],_,_,_=>a9 _
 |n::ns,st,hs,hn=>by
  show kF h (qJ m st n++bx m (st*n) ns)<=_+wt ns;rw[nh];have h1:=Gi (m:=m) (n:=n) (h:=h) hs;have h2:=Dv (m:=m) (h:=h) (ns:=ns) (st:=st*n) (l9 hs (hn n ci)) fun x hx=>hn x (b8 _ hx);lia
theorem Dw:∀ {ns:List Nat},(∀x∈ns,2<=x)->3 ^ wt ns<=pr ns*pr ns
 |[],_=>a9 _
 |n::ns,hn=>by
  have ih:=Dw (ns:=ns) fun x hx=>hn x (b8 _ hx);have h2:=hn n ci;show 3 ^ ((if n=2 then 1 else 2)+wt ns)<=n*pr ns*(n*pr ns);rw[Nat.pow_add,Nat.mul_mul_mul_comm];refine oQ ?_ ih;by_cases c:n=2
  .rw[aq c,c];decide
  .rw[au c];have:3<=n:=by lia
   exact oQ this this
theorem N4(hn:∀x∈ns,2<=x)(hp:pr ns<=32):wt ns<=8:=by
 refine rN fun z=>?_;have h1:3 ^ 9<=3 ^ wt ns:=Nat.pow_le_pow_right (by decide) (by lia);have h2:=Dw hn;have h3:pr ns*pr ns<=32*32:=oQ hp hp;have h4:(3:Nat) ^ 9=19683:=by decide
 lia
theorem Dx{ns:List Nat}(hn:∀x∈ns,2<=x)(h0:ns≠[])(hp:pr ns<=32):iJ (pr ns) (kM ((ix ns).map n_)):=by
 have vt:∀x∈ns,0<x:=fun x hx=>by have:=hn x hx;lia
 have q:∀q∈ix ns,q.1<q.2/\q.2<pr ns:=fun q hq=>by
  obtain⟨a,b⟩:=pU.mp hq;exact N3 vt b a
 have n1:2<=pr ns:=by
  cases ns with
  |nil=>exact absurd rfl h0
  |cons n ns=>
   have h2:=hn n ci;have:∀ {l:List Nat},(∀x∈l,2<=x)->1<=pr l:=fun {l}=>by
    induction l with
    |nil=>intro _;exact a9 _
    |cons x l ih=>intro hl;exact l9 (by have:=hl x ci;lia) (ih fun y hy=>hl y (b8 _ hy))
   have h3:=this (l:=ns) fun x hx=>hn x (b8 _ hx);show 2<=n*pr ns;exact aY h2 (wM n h3)
 have mem:∀t∈kM ((ix ns).map n_),∃q∈ix ns,t=n_ q\/t=zO (n_ q):=fun t ht=>by
  rcases uf.mp ht with z|z
  .obtain⟨q,hq,e⟩:=bu.mp z;exact⟨q,hq,.inl e.symm⟩
  .obtain⟨q,hq,e⟩:=bu.mp z;exact⟨q,hq,.inr (by rw[e])⟩
 have rg:∀t∈kM ((ix ns).map n_),((0<=t.1/\t.1<pr ns)/\(0<=t.2/\t.2<pr ns))/\t.1≠t.2:=fun t ht=>by
  obtain⟨p,hq,e⟩:=mem t ht;obtain⟨a,b⟩:=q p hq;rcases e with rfl|rfl
  .exact⟨⟨⟨by show (0:Int)<=(p.1:Int);lia,by show (p.1:Int)<(pr ns:Int);lia⟩,by show (0:Int)<=(p.2:Int);lia,by show (p.2:Int)<(pr ns:Int);lia⟩,by show ((p.1:Nat):Int)≠(p.2:Nat);lia⟩
  .exact⟨⟨⟨by show (0:Int)<=(p.2:Int);lia,by show (p.2:Int)<(pr ns:Int);lia⟩,by show (0:Int)<=(p.1:Int);lia,by show (p.1:Int)<(pr ns:Int);lia⟩,by show ((p.2:Nat):Int)≠(p.1:Nat);lia⟩
 have nd:(kM ((ix ns).map n_)).Nodup:=A6 (A7 (vV (by decide) hn)) fun u hu=>by
  obtain⟨p,hq,rfl⟩:=bu.mp hu;have:=(q p hq).1;show (p.1:Int)<(p.2:Int);lia
 refine⟨n1,hp,nd,fun t ht=>(rg t ht).1,fun t ht=>(rg t ht).2,fun h=>?_,fun h=>?_,fun a b ha hb=>?_⟩
 .rw[<-(Gg (ps:=(ix ns).map n_)).filter (fun t=>decide (t.1=h)) |>.length_eq,List.filter_map,aZ];rfl
 .by_cases c:0<=h/\h<pr ns
  .have:=Dv (m:=pr ns) (h:=h.toNat) (ns:=ns) (st:=1) (by decide) vt;have e:=zP (h:=h.toNat) (qs:=ix ns);rw[rW c.1] at e;rw[e];exact aY this (N4 hn hp)
  .have e:(kM ((ix ns).map n_)).filter (fun t=>decide (t.1=h))=[]:=List.filter_eq_nil_iff.mpr fun t ht e=>c ((show t.1=h from dH e) ▸ (rg t ht).1.1);rw[e];exact cN _
 .have FP:∀v,v<pr ns->(∃k,eW (kM ((ix ns).map n_)) k 0 v)/\∃k,eW (kM ((ix ns).map n_)) k v 0:=by
   intro v;induction v using Nat.strongRecOn with
   |ind v ih=>
    intro hv;rcases xa v with e|e
    .subst e;exact⟨⟨0,rfl⟩,0,rfl⟩
    .obtain⟨u,hu,uu⟩:=Du vt e hv;obtain⟨⟨k,w⟩,l,w'⟩:=ih u hu (by lia);have t:T (kM ((ix ns).map n_)) u v:=uf.mpr (.inl (bu.mpr ⟨(u,v),pU.mpr ⟨by show u<pr ns;lia,uu⟩,rfl⟩));have t':T (kM ((ix ns).map n_)) v u:=Gf t;exact⟨⟨k+1,u,w,t⟩,l+1,eW.cons t' w'⟩
  obtain⟨_,k,w⟩:=FP a ha;obtain⟨⟨l,w'⟩,_⟩:=FP b hb;exact⟨_,w.trans w'⟩
end iI
namespace pV
open PySem L2
def gK(i:Nat):Stmt:=PySem.Challenge.pw_neverwait_k41_places.main.body.getD i (.Pass ⟨0,0,0,0⟩)
abbrev yl:Stmt:=gK 16
abbrev ui:Stmt:=gK 17
abbrev ym:Stmt:=gK 18
abbrev Ka:Stmt:=gK 20
structure Bl(mg:Str->Option Value):Prop where
 rq:mg "isinstance"=none
 int:mg "int"=none
 bool:mg "bool"=none
 tup:mg "tuple"=none
 lst:mg "list"=none
 str:mg "str"=none
 set:mg "set"=none
 len:mg "len"=none
 range:mg "range"=none
 sorted:mg "sorted"=none
 any:mg "any"=none
 max:mg "max"=none
 min:mg "min"=none
 N5:mg "ValueError"=none
 all:mg "all"=none
def Dy(K:PySem.W.Frag)(H:Hp)(x:V):Prop:=∃t,JK K H x t/\(PySem.W.kitOne K t (.type "int")=some false\/(PySem.W.kitOne K t (.type "int")=some true/\PySem.W.kitOne K t (.type "bool")=some true))
theorem vW:PySem.W.kitOne K (.type "int") (.type "int")=some true:=by kernel_rfl
theorem uj:PySem.W.kitOne K (.type "int") (.type "bool")=some false:=by kernel_rfl
inductive Wh (K:PySem.W.Frag) (H:Hp):V->Option Int->Prop where
 |int (i:Int):Wh K H (.int i) (some i)
 |no {x:V} (h:Dy K H x):Wh K H x none
def uk(K:PySem.W.Frag):Sp:=fun vs H Q _=>∃x o,vs=[x]/\Wh K H x o/\Q (.bl o.isSome) H
section
variable {P:Program} {w:World} {K:PySem.W.Frag} {mg:Str->Option Value} {base:Heap}
theorem Gj:aE ["thing"] ["thing"] (aj yl):=⟨rfl,rfl,rfl,by decide +kernel,rfl,by decide +kernel,by decide +kernel⟩
theorem Dz(F:eJ K "is_whole" "is_whole" yl f fd)(B:Bl mg):be P w K mg base br 1 f fd ["thing"] (uk K):=by
 refine F.ok Gj (fun vs H Q E h=>?_) (fun cm A outer s H vs Q E hr h=>?_)
 .obtain⟨x,o,rfl,_⟩:=h;rfl
 .obtain⟨x,o,rfl,W,k⟩:=h;refine⟨_,ak (aN (mf (av eT (by rfl) B.rq dG (aa (pv 0) (aa (gh (v:=.ty "int") rfl B.int PyProof.Rows.boot_int rfl) af)))
   (pe (Jk (av eT (by rfl) B.rq dG (aa (pv 0) (aa (gh (v:=.ty "bool") rfl B.bool PyProof.Rows.boot_bool rfl) af))))))),?_⟩
  cases W with
  |int i=>
   refine⟨_,rfl,_,_,_,.type "int",true,rfl,⟨rfl,vW⟩,.of (.int _),true,rfl,?_⟩;exact⟨_,rfl,_,_,_,.type "int",false,rfl,⟨rfl,uj⟩,.of (.int _),false,rfl,k⟩
  |no h=>
   obtain⟨t,ty,h|⟨h1,h2⟩⟩:=h
   .exact⟨_,rfl,_,_,_,t,false,rfl,⟨rfl,h⟩,ty,false,rfl,k⟩
   .refine⟨_,rfl,_,_,_,t,true,rfl,⟨rfl,h1⟩,ty,true,rfl,?_⟩;exact⟨_,rfl,_,_,_,t,true,rfl,⟨rfl,h2⟩,ty,true,rfl,k⟩
def aJ(o:Option Int)(lo hi:Int):Bool:=match o with
 |some i=>decide (lo<=i)&&decide (i<=hi)
 |none=>false
def jd(K:PySem.W.Frag):Sp:=fun vs H Q _=>∃x o lo hi,vs=[x,.int lo,.int hi]/\Wh K H x o/\Q (.bl (aJ o lo hi)) H
theorem DA:aE ["thing","least","most"] ["thing","least","most"] (aj ui):=⟨rfl,rfl,rfl,by decide +kernel,rfl,by decide +kernel,by decide +kernel⟩
theorem A8(F:eJ K "is_whole_within" "is_whole_within" ui f fd)(W:cP P w K mg base br 1 "is_whole" ["thing"] (uk K)):be P w K mg base br 2 f fd ["thing","least","most"] (jd K):=by
 refine F.ok DA (fun vs H Q E h=>?_) (fun cm A outer s H vs Q E hr h=>?_)
 .obtain⟨x,o,lo,hi,rfl,_⟩:=h;rfl
 .obtain⟨x,o,lo,hi,rfl,wh,k⟩:=h;refine⟨_,ak (aN (mf (aH W hr aO (aa (pv 0) af)) (pe (Cm H_ H_ (pv 1) (pv 0) (pv 2))))),?_⟩;refine⟨_,rfl,x,o,rfl,wh,?_⟩;cases wh with
  |no h=>exact⟨false,rfl,k⟩
  |int i=>
   refine⟨true,rfl,_,rfl,_,rfl,_,_,rfl,rfl,_,rfl,?_⟩;show if decide (lo<=i)=true then _ else _
   have k':Q (.bl (decide (lo<=i)&&decide (i<=hi))) H:=k;by_cases h:lo<=i
   .rw[bJ h] at k' |-;exact⟨_,rfl,_,_,rfl,rfl,k'⟩
   .rw[d6 h] at k' |-;exact k'
def lF(K:PySem.W.Frag):Sp:=fun vs H Q _=>∃x o n,vs=[.int n,x]/\Wh K H x o/\Q (.bl (aJ o 0 (n-1))) H
theorem Gk:aE ["many","thing"] ["many","thing"] (aj ym):=⟨rfl,rfl,rfl,by decide +kernel,rfl,by decide +kernel,by decide +kernel⟩
theorem DB(F:eJ K "is_house" "is_house" ym f fd)(W:cP P w K mg base br 2 "is_whole_within" ["thing","least","most"] (jd K)):be P w K mg base br 3 f fd ["many","thing"] (lF K):=by
 refine F.ok Gk (fun vs H Q E h=>?_) (fun cm A outer s H vs Q E hr h=>?_)
 .obtain⟨x,o,n,rfl,_⟩:=h;rfl
 .obtain⟨x,o,n,rfl,wh,k⟩:=h;refine⟨_,ak (aN (aH W hr aO (aa (pv 1) (aa az (aa (aR gC (pv 0) az) af))))),?_⟩;exact⟨_,rfl,_,rfl,_,_,rfl,rfl,x,o,0,n-1,rfl,wh,k⟩
inductive Rw (K:PySem.W.Frag) (H:Hp):V->Option (List V)->Prop where
 |tup {p:Addr} {xs:List V} (h:H p=some (.tup xs)):Rw K H (.ref p) (some xs)
 |no {x:V} {t:Value} (ty:JK K H x t) (h:PySem.W.kitOne K t (.type "tuple")=some false):Rw K H x none
def Ix(o:Option (List V))(m:Int):Bool:=match o with
 |some xs=>decide ((xs.length:Int)=m)
 |none=>false
theorem zU:PySem.W.kitOne K (.type "tuple") (.type "tuple")=some true:=by kernel_rfl
def vX(K:PySem.W.Frag):Sp:=fun vs H Q _=>∃x o m,vs=[x,.int m]/\Rw K H x o/\Q (.bl (Ix o m)) H
theorem N6:aE ["thing","length"] ["thing","length"] (aj Ka):=⟨rfl,rfl,rfl,by decide +kernel,rfl,by decide +kernel,by decide +kernel⟩
theorem Kb(F:eJ K "is_row" "is_row" Ka f fd)(B:Bl mg):be P w K mg base br 1 f fd ["thing","length"] (vX K):=by
 refine F.ok N6 (fun vs H Q E h=>?_) (fun cm A outer s H vs Q E hr h=>?_)
 .obtain⟨x,o,m,rfl,_⟩:=h;rfl
 .obtain⟨x,o,m,rfl,W,k⟩:=h;refine⟨_,ak (aN (mf (av eT (by rfl) B.rq dG (aa (pv 0) (aa (gh (v:=.ty "tuple") rfl B.tup oo rfl) af)))
   (pe (lh lg (av aS (by rfl) B.len d9 (aa (pv 0) af)) (pv 1) (bb _))))),?_⟩
  cases W with
  |@tup p xs h=>
   refine⟨_,rfl,_,_,_,.type "tuple",true,rfl,⟨rfl,zU⟩,.of (.tup h),true,rfl,?_⟩;refine⟨_,rfl,_,_,rfl,.inr (cI.of h),_,rfl,rfl,?_⟩;have e:decide (V.int ((xs.length:Nat):Int)=V.int m)=decide (((xs.length:Nat):Int)=m):=by simp
   rw[e];exact k
  |no ty h=>exact⟨_,rfl,_,_,_,_,false,rfl,⟨rfl,h⟩,ty,false,rfl,k⟩
end
theorem cH(s:aV H H')(hD:H D=none):aV H (upd H' D o):=fun b u e=>by rw[ao (am e hD)];exact s b u e
abbrev IV(ns:List Int):List V:=ns.map V.int
abbrev NV(ns:List Nat):List V:=ns.map fun (x:Nat)=>V.int (x:Int)
theorem Iy(G:St->Hp->Prop)(hr:∀σ H,G σ H->u D σ H)(ht:∀N:St->Hp->Prop,(∀σ H,G σ H->N σ H)->t { D with nx:=N } σ H):ME t u D σ H:=ht _ hr
abbrev Zs:=List (Addr×(Int×Int))
abbrev L8(u:Int×Int):HO:=.tup [.int u.1,.int u.2]
def zr(zs:Zs):List V:=zs.map fun z=>V.ref z.1
def zp(zs:Zs):List (Int×Int):=zs.map (·.2)
def PO(H:Hp)(zs:Zs):Prop:=∀z∈zs,H z.1=some (L8 z.2)
theorem rA:zr (a++b)=zr a++zr b:=dI
theorem rB:zp (a++b)=zp a++zp b:=dI
theorem eH:(zr a).length=a.length:=aZ _
theorem bD:(zp a).length=a.length:=aZ _
theorem ul:zr a=(a.map (·.1)).map V.ref:=by unfold zr;rw[eO];rfl
theorem pW{zs:Zs}{i:Nat}{x:V}(h:(zr zs)[i]?=some x):∃z,zs[i]?=some z/\x=.ref z.1:=by
 unfold zr at h;rw[bi] at h;cases e:zs[i]? with
 |none=>rw[e] at h;cases h
 |some z=>rw[e] at h;exact⟨z,rfl,(bt h).symm⟩
theorem PO.nil:PO H []:=fun z hz=>(nomatch hz)
theorem PO.same(h:PO H zs)(s:aV H H'):PO H' zs:=fun z hz=>s _ _ (h z hz)
theorem PO.putL(h:PO H zs)(e:H D=some (.lst xs)):PO (upd H D o) zs:=fun z hz=>by
 have:=h z hz;rw[ao (by rintro rfl;rw[e] at this;cases this)];exact this
theorem PO.putN(h:PO H zs)(e:H D=none):PO (upd H D o) zs:=h.same (ai e)
theorem PO.append(h:PO H a)(h':PO H b):PO H (a++b):=fun z hz=>(cf.mp hz).elim (h z) (h' z)
theorem PO.one(h:H p=some (L8 u)):PO H [(p,u)]:=fun z hz=>by rw[cX.mp hz];exact h
theorem DC{zs:Zs}{i:Nat}(h:i<zs.length):(zs.map (·.1)).getD i 0=zs[i].1:=by
 rw[dY,bi,cV h];rfl
theorem Gm(h:i<zs.length):(zp zs).getD i (0,0)=zs[i].2:=by
 unfold zp;rw[dY,bi,cV h];rfl
theorem A9{H:Hp}{zs:Zs}(ho:PO H zs):∃g:Addr->Int×Int,(∀z∈zs,g z.1=z.2)/\∀ {as:List Addr},as.Perm (zs.map (·.1))->∃BG:Zs,BG.Perm zs/\as=BG.map (·.1):=by
 classical
 let f:Addr->Int×Int:=fun a=>match H a with
  |some (.tup [.int x,.int y])=>(x,y)
  |_=>(0,0)
 have e2:∀z∈zs,f z.1=z.2:=fun z hz=>by
  show (match H z.1 with|some (.tup [.int x,.int y])=>(x,y)|_=>(0,0))=z.2;rw[ho z hz]
 have e:(zs.map (·.1)).map (fun a=>(a,f a))=zs:=by
  rw[eO];conv=>rhs;rw[<-ic zs]
  refine kT fun z hz=>?_;show (z.1,f z.1)=z;rw[e2 z hz]
 refine⟨f,e2,fun {as} h=>⟨as.map fun a=>(a,f a),?_,?_⟩⟩
 .have:=h.map (fun a=>(a,f a));rw[e] at this;exact this
 .rw[eO];exact(ic as).symm
abbrev Kc(us:List (Int×Int)):Prop:=us.Pairwise fun u v=>pk u<=pk v
theorem Gn{K:PySem.W.Frag}{H:Hp}{l:Addr}{zs:Zs}{Q:VK}(hl:H l=some (.lst (zr zs)))(ho:PO H zs)(hz:zs.length<=4096)(hb:∀u∈zp zs,0<=u.2/\u.2<64)(q:∀ (D:Addr) (BG:Zs),H D=none->BG.Perm zs->Kc (zp BG)->Q (.ref D) (upd H D (.lst (zr BG)))):Dq K [.ref l] H Q:=by
 obtain⟨g,hg,SV⟩:=A9 ho;refine⟨l,zs.map (·.1),g,rfl,a_.of (by rw[<-ul];exact hl),fun a ha=>?_,by rw[aZ];exact hz,fun D uV hD hp so=>?_⟩
 .obtain⟨z,hz,rfl⟩:=bu.mp ha;rw[hg z hz];exact⟨cI.of (ho z hz),hb _ (bu.mpr ⟨z,hz,rfl⟩)⟩
 .obtain⟨BG,h1,rfl⟩:=SV hp;rw[<-ul];refine q D BG hD h1 ?_;unfold zp Kc;rw[f9] at so |-;refine so.imp_of_mem fun {a b} ha hb h=>?_;rw[hg a (h1.mem_iff.mp ha),hg b (h1.mem_iff.mp hb)] at h;exact h
theorem DD{K:PySem.W.Frag}{a D:Addr}{Ff:Zs}{g:TG}{tt:TT}{te:TE}{fin:Hp->Prop}{σB:St}{H0:Hp}(F:Int×Int->Int×Int)(zV:St->Prop)(ha:H0 a=some (.lst (zr Ff)))(Y6:PO H0 Ff)(hD:H0 D=none)(hn:Ff.length<=100000)(h0:zV σB)(hs:∀z σ H (R:V->St->Hp->Prop) (Kf:St->Hp->Prop),z∈Ff->zV σ->H z.1=some (L8 z.2)->(∀σ2 p,zV σ2->H p=none->R (.ref p) σ2 (upd H p (L8 (F z.2))))->g (.ref z.1) σ H fun σ2 H2=>tt σ2 H2 fun b H3=>if b=true then te σ2 H3 fun v H4=>R v σ2 H4 else Kf σ2 H3)(hd:∀zs H,aV H0 H->H D=some (.lst (zr zs))->PO H zs->zp zs=(zp Ff).map F->(∀z∈zs,H0 z.1=none)->fin H):jS (HZ K a) g tt te D fin σB (upd H0 D (.lst [])):=by
 refine eE (xs:=zr Ff) (fun i ys σ H=>zV σ/\aV H0 H/\H D=some (.lst ys)/\∃zs:Zs,ys=zr zs/\PO H zs/\zp zs=((zp Ff).take i).map F/\∀z∈zs,H0 z.1=none) ⟨h0,ai hD,ag,[],rfl,PO.nil,rfl,fun z hz=>nomatch hz⟩ (fun i ys σ H _ z=>a_.of (z.2.1 _ _ ha)) ?_ ?_
 .rintro i x ys σ H Kt Kf hx ⟨sh,sm,N8,zs,rfl,po,ep,fr⟩ kt kf;obtain⟨z,hz,rfl⟩:=pW hx;have hi:i<Ff.length:=(cL.mp hz).1;have Iz:z∈Ff:=cT hz;have hl:zs.length=i:=by rw[<-bD,ep,aZ,fA,bD];lia
  refine hs z σ H Kt Kf Iz sh (sm _ _ (Y6 z Iz)) (fun σ2 p Y7 hp=>?_)
  .have nD:D≠p:=am N8 hp;refine kt _ _ _ (by rw[ao nD];exact N8) (by rw[eH,hl];exact bz hi (aY hn (by decide))) ⟨Y7,cH (sm.trans (ai hp)) hD,ag,zs++[(p,F z.2)],?_,?_,?_,?_⟩
   .rw[rA];rfl
   .refine PO.putL (xs:=zr zs) ?_ (by rw[ao nD];exact N8);exact(po.putN hp).append (PO.one ag)
   .have e2:(zp Ff)[i]?=some z.2:=by unfold zp;rw[bi,hz];rfl
    rw[rB,ep,eL,e2,Option.toList_some,dI];rfl
   .intro z hz;rcases cf.mp hz with z'|z'
    .exact fr z z'
    .rw[cX.mp z'];exact sm.free hp
 .rintro ys σ H ⟨_,sm,N8,zs,rfl,po,ep,fr⟩;rw[eH,<-bD,fz] at ep;exact hd zs H sm N8 po ep fr
open iI
abbrev zW:Stmt:=dB (gK 25) 0
abbrev DE:Stmt:=dB (gK 25) 1
abbrev DG:Stmt:=dB (gK 25) 2
abbrev Kd:Stmt:=dB (gK 25) 3
abbrev Ke:Stmt:=dB (gK 25) 4
abbrev DH:Stmt:=dB (gK 25) 6
abbrev yn:Stmt:=dB (gK 25) 8
structure Er(K:PySem.W.Frag)(mg:Str->Option Value)(x:Str)(C:Addr):Prop where
 at_:mg x=some (.ref C)
 ok:jL K C
theorem Y8:¬ (("house_count":Str)="tie_list"):=by decide +kernel
theorem Y9:¬ (("house_count":Str)="out_lists"):=by decide +kernel
theorem Y_:¬ (("house_count":Str)="distances"):=by decide +kernel
theorem Za:¬ (("tie_list":Str)="out_lists"):=by decide +kernel
theorem Zb:¬ (("tie_list":Str)="distances"):=by decide +kernel
theorem Zc:¬ (("out_lists":Str)="distances"):=by decide +kernel
def je(n:Int)(tl ol ds:Addr):List (Str×V):=cx "distances" (.ref ds) (cx "out_lists" (.ref ol) (cx "tie_list" (.ref tl) (cx "house_count" (.int n) [])))
theorem zX(n:Int)(tl ol ds:Addr):(je n tl ol ds).lookup ("house_count":Str)=some (.int n):=by
 unfold je;rw[aI,au Y_,aI,au Y9,aI,au Y8,aI,aq rfl]
theorem Go(n:Int)(tl ol ds:Addr):(je n tl ol ds).lookup ("tie_list":Str)=some (.ref tl):=by
 unfold je;rw[aI,au Zb,aI,au Za,aI,aq rfl]
theorem jx(n:Int)(tl ol ds:Addr){m:Str}(h1:¬ m="house_count")(h2:¬ m="tie_list")(h3:¬ m="out_lists")(h4:¬ m="distances"):(je n tl ol ds).lookup m=none:=by
 unfold je;rw[aI,au h4,aI,au h3,aI,au h2,aI,au h1];all_goals rfl
theorem zY(n:Int)(tl ol ds:Addr):(je n tl ol ds).lookup ("out_lists":Str)=some (.ref ol):=by
 unfold je;rw[aI,au Zc,aI,aq rfl]
theorem zZ(n:Int)(tl ol ds:Addr):(je n tl ol ds).lookup ("distances":Str)=some (.ref ds):=by
 unfold je;rw[aI,aq rfl]
def gJ(H:Hp)(L:Addr->Prop)(l:Addr)(n:Nat)(r:Nat->List Nat):Prop:=∃bs:List Addr,H l=some (.lst (bs.map V.ref))/\(∀b∈bs,L b)/\Holds H bs n (fun h=>.lst (NV (r h)))
theorem gJ.keep(R:gJ H L l n r)(hl:L l)(k:∀b o,L b->H b=some o->H' b=some o):gJ H' L l n r:=
 let ⟨bs,a,b,c⟩:=R
 ⟨bs,k _ _ hl a,b,c.mono fun j hj e=>k _ _ (b _ (by rw[dY,cV (by rw[c.1];exact hj)];exact eM _)) e⟩
theorem gJ.row(R:gJ H L l n r)(hh:h<n):∃ (bs:List Addr) (b:Addr),H l=some (.lst (bs.map V.ref))/\(bs.map V.ref)[h]?=some (V.ref b)/\H b=some (.lst (NV (r h)))/\L b:=by
 obtain⟨bs,a,b,c⟩:=R;have hl:h<bs.length:=by rw[c.1];exact hh
 refine⟨bs,bs[h],a,by rw[bi,cV hl];rfl,?_,b _ (eM _)⟩;have:=c.2 h hh;rw[dY,cV hl] at this;exact this
def Gp(H:Hp)(L:Addr->Prop)(tl:Addr)(ts:Ts):Prop:=L tl/\∃zs:Zs,H tl=some (.lst (zr zs))/\PO H zs/\(∀z∈zs,L z.1)/\(zp zs).Perm ts/\Kc (zp zs)
theorem Gp.keep(h:Gp H L tl ts)(k:∀b o,L b->H b=some o->H' b=some o):Gp H' L tl ts:=
 let ⟨a,zs,b,c,d,e⟩:=h;⟨a,zs,k _ _ a b,fun z hz=>k _ _ (d z hz) (c z hz),d,e⟩
structure dL(C:Addr)(H:Hp)(L:Addr->Prop)(p:Addr)(n:Nat)(ts:Ts):Prop where
 qK:iJ n ts
 ob:∃dx tl ol ds,H p=some (.ins C dx (je n tl ol ds))/\L ol/\L ds/\gJ H L ol n (c_ n ts)/\gJ H L ds n (fun h=>(List.range n).map (far ts h))/\Gp H L tl ts
theorem dL.keep(N:dL C H L p n ts)(k:∀b o,L b->H b=some o->H' b=some o)(kp:∀o,H p=some o->H' p=some o):dL C H' L p n ts:=
 let ⟨dx,tl,ol,ds,a,l1,l2,b,c,d⟩:=N.ob
 ⟨N.qK,dx,tl,ol,ds,kp _ a,l1,l2,b.keep l1 k,c.keep l2 k,d.keep k⟩
theorem dL.same(N:dL C H L p n ts)(s:aV H H'):dL C H' L p n ts:=N.keep (fun b o _ e=>s b o e) (fun o e=>s _ o e)
structure NT(K:PySem.W.Frag)(mg:Str->Option Value)(C:Addr):Prop where
 cl:As K C
 nH:fc K C "house_count"
 nT:fc K C "tie_list"
 nO:fc K C "out_lists"
 nD:fc K C "distances"
 QK:mg "Net"=some (.ref C)
structure eX(P:Program)(w:World)(K:PySem.W.Frag)(mg:Str->Option Value)(base:Heap)(CX:nu)(k:Nat)(C:Addr)(x:Str)(ps:List Str)(sp:Sp):Prop where
 ex:∃f fd,Cp K C x f/\dJ K fd ps []/\be P w K mg base CX k f fd ps sp
section
variable {P:Program} {w:World} {K:PySem.W.Frag} {mg:Str->Option Value} {base:Heap}
theorem Gq:aE ["self","thing"] ["self","thing"] (aj yn):=⟨rfl,rfl,rfl,by decide +kernel,rfl,by decide +kernel,by decide +kernel⟩
def lG(K:PySem.W.Frag)(C CE:Addr):Sp:=fun vs H Q E=>∃ (L:Addr->Prop) (p:Addr) (n:Nat) (ts:Ts) (x:V) (o:Option Int),vs=[.ref p,x]/\dL C H L p n ts/\Wh K H x o/\(aJ o 0 ((n:Int)-1)=false->E (.ref CE) none H)/\(aJ o 0 ((n:Int)-1)=true->Q .bV H)
theorem DI{f C CE:Addr}{fd:FuncData}(F:eJ K "check_house" "Net.check_house" yn f fd)(T:NT K mg C)(e:Er K mg "NoHouse" CE)(HH:cP P w K mg base br 3 "is_house" ["many","thing"] (lF K)):
  be P w K mg base (dZ P w) 4 f fd ["self","thing"] (lG K C CE):=by
 refine F.FT Gq (fun vs H Q E h=>?_) (fun cm A outer s H vs Q E hr h=>?_)
 .obtain⟨L,p,n,ts,x,o,rfl,_⟩:=h;rfl
 .obtain⟨L,p,n,ts,x,o,rfl,N,wh,k1,k2⟩:=h;obtain⟨dx,tl,ol,ds,h1,_⟩:=N.ob;refine⟨_,ak (bZ (et (dE (aH HH hr aO (aa (dF (pv 0) rfl) (aa (pv 1) af))))) (ak (g9 (q:=fun H1=>E (.ref CE) none H1) rfl e.ok rfl e.at_ (aa kn af) (fun _ _ _ _ _ _ _ I m q=>g7 I m q))) aX),?_⟩;refine⟨_,rfl,p,C,dx,_,_,rfl,h1,T.cl,T.nH,zX _ _ _ _,_,rfl,x,o,n,rfl,wh,_,rfl,?_⟩;cases hw:aJ o 0 ((n:Int)-1) with
  |false=>exact Az ⟨by show 1<=sizeLine;decide,k1 hw⟩
  |true=>exact ku (k2 hw)
theorem Gr(n:Int)(tl ol ds:Addr):(je n tl ol ds).lookup ("check_house":Str)=none:=jx n tl ol ds (by decide +kernel) (by decide +kernel) (by decide +kernel) (by decide +kernel)
theorem N_(n:Int)(tl ol ds:Addr):(je n tl ol ds).lookup ("far":Str)=none:=jx n tl ol ds (by decide +kernel) (by decide +kernel) (by decide +kernel) (by decide +kernel)
theorem aW:(NV xs).length=xs.length:=aZ _
theorem fY{o:Option Int}{n:Nat}(h:aJ o 0 ((n:Int)-1)=true):∃i:Nat,i<n/\o=some (i:Int):=by
 cases o with
 |none=>cases h
 |some i=>
  unfold aJ at h;simp at h;exact⟨i.toNat,by lia,by congr 1;lia⟩
theorem cR{i n:Nat}(h:i<n):aJ (some (i:Int)) 0 ((n:Int)-1)=true:=by unfold aJ;simp;lia
def DJ(K:PySem.W.Frag)(C CE:Addr)(Zd:Hp->Nat->Ts->Nat->VK->Prop):Sp:=fun vs H Q E=>∃ (L:Addr->Prop) (p:Addr) (n:Nat) (ts:Ts) (x:V) (o:Option Int),vs=[.ref p,x]/\dL C H L p n ts/\Wh K H x o/\(aJ o 0 ((n:Int)-1)=false->E (.ref CE) none H)/\∀i:Nat,i<n->o=some (i:Int)->Zd H n ts i Q
theorem Oa:aE ["self","house"] ["self","house"] (aj Kd):=⟨rfl,rfl,rfl,by decide +kernel,rfl,by decide +kernel,by decide +kernel⟩
def Kg:Hp->Nat->Ts->Nat->VK->Prop:=fun H n ts i Q=>∀r H',aV H H'->H r=none->H' r=some (.lst (NV (c_ n ts i)))->Q (.ref r) H'
theorem jf{H:Hp}{x:V}{i:Int}(h:Wh K H x (some i)):x=.int i:=by cases h;rfl
theorem Kh{f C CE:Addr}{fd:FuncData}(F:eJ K "out" "Net.out" Kd f fd)(T:NT K mg C)(B:Bl mg)(M:eX P w K mg base (dZ P w) 4 C "check_house" ["self","thing"] (lG K C CE)):
  be P w K mg base (dZ P w) 5 f fd ["self","house"] (DJ K C CE Kg):=by
 obtain⟨fM,QL,mM,bM,GM⟩:=M.ex;refine F.FT Oa (fun vs H Q E h=>?_) (fun cm A outer s H vs Q E hr h=>?_)
 .obtain⟨L,p,n,ts,x,o,rfl,_⟩:=h;rfl
 .obtain⟨L,p,n,ts,x,o,rfl,N,wh,k1,k2⟩:=h;obtain⟨dx,tl,ol,ds,h1,_,_,R,_⟩:=N.ob;refine⟨_,ah (b_ (dQ (pv 0) T.cl mM GM hr bM .nil (pI (E':=E) fun _ _ _ z=>z) (aa (pv 1) af)))
   (ak (aN (di ik (by rfl) B.lst oB (aa (cy bj (dF (pv 0) rfl) (pv 1) (fun _ _=>rfl)) af)))),?_⟩
  refine⟨_,rfl,p,dx,_,rfl,h1,Gr _ _ _ _,_,rfl,L,p,n,ts,x,o,rfl,N,wh,k1,fun hw=>?_⟩;obtain⟨i,hi,rfl⟩:=fY hw;obtain rfl:=jf wh;obtain⟨bs,b,r1,r2,r3,_⟩:=R.row hi;exact⟨_,rfl,p,C,dx,_,_,rfl,h1,T.cl,T.nO,zY _ _ _ _,_,rfl,ol,_,_,_,rfl,rfl,a_.of r1,bf r2,b,_,rfl,.inl (a_.of r3),fun l hl=>k2 i hi rfl l _ (ai hl) hl ag⟩
theorem Ob:aE ["self","one","other"] ["self","one","other"] (aj Ke):=⟨rfl,rfl,rfl,by decide +kernel,rfl,by decide +kernel,by decide +kernel⟩
def z0(K:PySem.W.Frag)(C CE:Addr):Sp:=fun vs H Q E=>∃ (L:Addr->Prop) (p:Addr) (n:Nat) (ts:Ts) (x:V) (o:Option Int) (y:V) (o':Option Int),vs=[.ref p,x,y]/\dL C H L p n ts/\Wh K H x o/\Wh K H y o'/\(aJ o 0 ((n:Int)-1)=false\/aJ o' 0 ((n:Int)-1)=false->E (.ref CE) none H)/\∀i j:Nat,i<n->j<n->o=some (i:Int)->o'=some (j:Int)->Q (.int (far ts i j:Nat)) H
theorem Ki{f C CE:Addr}{fd:FuncData}(F:eJ K "far" "Net.far" Ke f fd)(T:NT K mg C)(M:eX P w K mg base (dZ P w) 4 C "check_house" ["self","thing"] (lG K C CE)):
  be P w K mg base (dZ P w) 5 f fd ["self","one","other"] (z0 K C CE):=by
 obtain⟨fM,QL,mM,bM,GM⟩:=M.ex;refine F.FT Ob (fun vs H Q E h=>?_) (fun cm A outer s H vs Q E hr h=>?_)
 .obtain⟨L,p,n,ts,x,o,y,o',rfl,_⟩:=h;rfl
 .obtain⟨L,p,n,ts,x,o,y,o',rfl,N,wh,Oc,k1,k2⟩:=h;obtain⟨dx,tl,ol,ds,h1,_,_,_,R,_⟩:=N.ob;refine⟨_,ah (b_ (dQ (pv 0) T.cl mM GM hr bM .nil (pI (E':=E) fun _ _ _ z=>z) (aa (pv 1) af)))
   (ah (b_ (dQ (pv 0) T.cl mM GM hr bM .nil (pI (E':=E) fun _ _ _ z=>z) (aa (pv 2) af)))
   (ak (aN (cy bj (cy bj (dF (pv 0) rfl) (pv 1) (fun _ _=>rfl)) (pv 2) (fun _ _=>rfl))))),?_⟩
  refine⟨_,rfl,p,dx,_,rfl,h1,Gr _ _ _ _,_,rfl,L,p,n,ts,x,o,rfl,N,wh,fun z=>k1 (.inl z),fun hw=>?_⟩;refine⟨_,rfl,p,dx,_,rfl,h1,Gr _ _ _ _,_,rfl,L,p,n,ts,y,o',rfl,N,Oc,fun z=>k1 (.inr z),fun Fe=>?_⟩;obtain⟨i,hi,rfl⟩:=fY hw;obtain⟨j,hj,rfl⟩:=fY Fe;obtain rfl:=jf wh;obtain rfl:=jf Oc;obtain⟨bs,b,r1,r2,r3,_⟩:=R.row hi;have hg:(NV ((List.range n).map (far ts i)))[j]?=some (.int (far ts i j:Nat)):=by
   rw[bi,bi,rT hj];rfl
  exact⟨_,rfl,p,C,dx,_,_,rfl,h1,T.cl,T.nD,zZ _ _ _ _,_,rfl,ds,_,_,_,rfl,rfl,a_.of r1,bf r2,_,rfl,b,_,_,_,rfl,rfl,a_.of r3,bf hg,k2 i j hi hj rfl rfl⟩
end
open PySem L2 iI
abbrev yo:Stmt:=gK 26
abbrev Kj:Stmt:=gK 27
abbrev Kk:Stmt:=gK 28
section
variable {P:Program} {w:World} {K:PySem.W.Frag} {mg:Str->Option Value} {base:Heap}
abbrev Kl:Stmt:=gK 19
theorem Od:aE ["many","one","other"] ["many","one","other"] (aj Kl):=⟨rfl,rfl,rfl,by decide +kernel,rfl,by decide +kernel,by decide +kernel⟩
def DK:Sp:=fun vs H Q _=>∃ (n a b:Int),vs=[.int n,.int a,.int b]/\0<=a/\a<n/\0<=b/\b<n/\a≠b/\Q (.bl true) H
theorem Km(F:eJ K "are_unlike_houses" "are_unlike_houses" Kl f fd)(HH:cP P w K mg base br 3 "is_house" ["many","thing"] (lF K)):
  be P w K mg base br 4 f fd ["many","one","other"] DK:=by
 refine F.ok Od (fun vs H Q E h=>?_) (fun cm A outer s H vs Q E hr h=>?_)
 .obtain⟨n,a,b,rfl,_⟩:=h;rfl
 .obtain⟨n,a,b,rfl,a1,a2,b1,b2,tK,k⟩:=h;refine⟨_,ak (aN (mf (aH HH hr aO (aa (pv 0) (aa (pv 1) af))) (mf (aH HH hr aO (aa (pv 0) (aa (pv 2) af))) (pe (lh pj (pv 1) (pv 2) (bb _)))))),?_⟩;refine⟨_,rfl,_,rfl,_,_,n,rfl,.int a,_,rfl,?_⟩;rw[aq (show aJ (some a) 0 (n-1)=true by unfold aJ;simp;lia)];refine⟨_,rfl,_,rfl,_,_,n,rfl,.int b,_,rfl,?_⟩;rw[aq (show aJ (some b) 0 (n-1)=true by unfold aJ;simp;lia)];refine⟨_,rfl,_,rfl,rfl,?_⟩;have e:(!decide (V.int a=V.int b))=true:=by simp[tK]
  rw[e];exact k
theorem Oe:aE ["many","thing"] ["many","thing"] (aj Kj):=⟨rfl,rfl,rfl,by decide +kernel,rfl,by decide +kernel,by decide +kernel⟩
def DL:Sp:=fun vs H Q _=>∃ (n:Int) (p:Addr) (a b:Int),vs=[.int n,.ref p]/\H p=some (.tup [.int a,.int b])/\0<=a/\a<n/\0<=b/\b<n/\a≠b/\Q (.bl true) H
theorem Kn(F:eJ K "is_tie" "is_tie" Kj f fd)(R:cP P w K mg base br 1 "is_row" ["thing","length"] (vX K))(U:cP P w K mg base br 4 "are_unlike_houses" ["many","one","other"] DK):
  be P w K mg base br 5 f fd ["many","thing"] DL:=by
 refine F.ok Oe (fun vs H Q E h=>?_) (fun cm A outer s H vs Q E hr h=>?_)
 .obtain⟨n,p,a,b,rfl,_⟩:=h;rfl
 .obtain⟨n,p,a,b,rfl,hp,a1,a2,b1,b2,tK,k⟩:=h;refine⟨_,ak (aN (mf (aH R (hr.mono (by decide)) aO (aa (pv 1) (aa az af)))
   (pe (aH U hr aO (aa (pv 0) (aa (cy tE (pv 1) az (fun _ _=>rfl)) (aa (cy tE (pv 1) az (fun _ _=>rfl)) af))))))),?_⟩
  refine⟨_,rfl,_,_,_,rfl,.tup hp,true,rfl,?_⟩;exact⟨_,rfl,_,rfl,p,_,_,_,rfl,rfl,cI.of hp,bf (j:=0) rfl,_,rfl,p,_,_,_,rfl,rfl,cI.of hp,bf (j:=1) rfl,n,a,b,rfl,a1,a2,b1,b2,tK,k⟩
theorem z5:aE ["many","ties","tie"] ["many","ties"] (aj yo):=⟨rfl,rfl,rfl,by decide +kernel,rfl,by decide +kernel,by decide +kernel⟩
theorem vY:PySem.W.kitOne K (.type "list") (.type "list")=some true:=by kernel_rfl
structure eI(H:Hp)(l:Addr)(n:Nat)(zs:Zs):Prop where
 qK:iJ n (zp zs)
 at_:H l=some (.lst (zr zs))
 po:PO H zs
theorem eI.same(h:eI H l n zs)(s:aV H H'):eI H' l n zs:=⟨h.qK,s _ _ h.at_,h.po.same s⟩
def jy:Sp:=fun vs H Q _=>∃ (n:Nat) (l:Addr) (zs:Zs),vs=[.int n,.ref l]/\eI H l n zs/\∀H',aV H H'->Q .bV H'
theorem DM(F:eJ K "check_ties" "check_ties" yo f fd)(B:Bl mg)(gF:∃t,mg "FEWEST_HOUSES"=some (.int 2 t))(gM:∃t,mg "MOST_HOUSES"=some (.int 32 t))(W:cP P w K mg base br 2 "is_whole_within" ["thing","least","most"] (jd K))(T:cP P w K mg base br 5 "is_tie" ["many","thing"] DL):
  be P w K mg base br 6 f fd ["many","ties"] jy:=by
 obtain⟨tF,gF⟩:=gF;obtain⟨tM,gM⟩:=gM;refine F.ok z5 (fun vs H Q E h=>?_) (fun cm A outer s H vs Q E hr h=>?_)
 .obtain⟨n,l,zs,rfl,_⟩:=h;rfl
 .refine⟨_,ah (bZ (et (dE (aH W (hr.mono (by decide)) aO (aa (pv 0) (aa (bW (v:=.int 2) rfl gF ⟨_,rfl⟩) (aa (bW (v:=.int 32) rfl gM ⟨_,rfl⟩) af)))))) dg aX)
   (ah (bZ (et (dE (av eT (by rfl) B.rq dG (aa (pv 1) (aa (gh (v:=.ty "list") rfl B.lst oB rfl) af))))) dg aX)
   (ah (cG d8 rfl (dh (pv 1)) (aB (i:=2) z5.nd rfl (Or.inl rfl)) (ak (bZ (et (dE (aH T hr aO (aa (pv 0) (aa (pv 2) af))))) dg aX)))
   (ak (bZ (a8 pj (av vB (by rfl) B.len d9 (aa (di (AM rfl (by have:=hr.un;show (A.deeper _).units+8<_;lia)) (by rfl) B.set PyProof.Rows.boot_set (aa (pv 1) af)) af)) (av aS (by rfl) B.len d9 (aa (pv 1) af)) (bb _)) dg aX)))),?_⟩
  obtain⟨n,l,zs,rfl,tt,k⟩:=h;obtain⟨fi,hl,po⟩:=id tt;have n1:=fi.n1;have n2:=fi.n2;refine⟨_,rfl,_,_,2,32,rfl,.int n,_,rfl,?_⟩;rw[show aJ (some (n:Int)) 2 32=true by unfold aJ;simp;lia];refine ku ?_;refine⟨_,rfl,_,_,_,.type "list",true,rfl,⟨rfl,vY⟩,.of (.lst hl),_,rfl,ku ?_⟩;refine⟨_,rfl,l,rfl,⟨_,a_.of hl⟩,lf (K:=K) (a:=l) (xs:=zr zs) (fun i σ H2=>H2=H/\∃v,σ=[some (.int n),some (.ref l),v]) ⟨rfl,none,rfl⟩ (fun i σ H2 _ ⟨e,_⟩=>by rw[e];exact a_.of hl) ?_ ?_⟩
  .rintro i x σ H2 hx ⟨rfl,v,rfl⟩;obtain⟨z,hz,rfl⟩:=pW hx;have Iz:z∈zs:=cT hz;have Wt:z.2∈zp zs:=bu.mpr ⟨z,Iz,rfl⟩;have r:=fi.rg _ Wt;exact⟨_,rfl,_,rfl,n,_,_,_,rfl,po z Iz,r.1.1,r.1.2,r.2.1,r.2.2,fi.ne _ Wt,_,rfl,ku ⟨rfl,_,rfl⟩⟩
  .rintro σ H2 ⟨rfl,v,rfl⟩;have eD:(zp zs).length<=256:=fi.len;refine⟨_,rfl,l,zs.map (·.1),zp zs,rfl,a_.of (by rw[<-ul];exact hl),by rw[aZ,bD],fun i hi=>?_,fi.nd,fun y hy=>?_,by lia,fun D hD=>?_⟩
   .rw[bD] at hi;rw[DC hi,Gm hi];exact cI.of (po _ (eM hi))
   .have r:=fi.rg _ hy;lia
   .have nl:l≠D:=am hl hD;refine⟨D,_,rfl,ag,by lia,_,rfl,l,zr zs,rfl,.inl (a_.of (by rw[ao nl];exact hl)),rfl,_,rfl,?_⟩;have ez:(!decide (V.int (((zp zs).length:Nat):Int)=V.int (((zr zs).length:Nat):Int)))=false:=by rw[bD,eH];simp
    rw[ez];exact ku (k _ (ai hD))
end
abbrev vZ:Stmt:=gK 29
section
variable {P:Program} {w:World} {K:PySem.W.Frag} {mg:Str->Option Value} {base:Heap}
theorem mE(S:St->Prop)(p q:Int×Int->Int)(h:Int)(hD:H D=none)(hl:H l=some (.lst (zr zs)))(po:PO H zs)(hn:zs.length<=1000)(s0:S σB)(hg:∀z σ H2 (Kt:V->St->Hp->Prop) (Kf:St->Hp->Prop),z∈zs->S σ->H2 z.1=some (L8 z.2)->(∀σ2,S σ2->p z.2=h->Kt (.int (q z.2)) σ2 H2)->(∀σ2,S σ2->p z.2≠h->Kf σ2 H2)->
   g (.ref z.1) σ H2 fun σ2 H2=>tt σ2 H2 fun b H3=>if b=true then te σ2 H3 fun v H4=>Kt v σ2 H4 else Kf σ2 H3)(hd:fin (upd H D (.lst (IV (((zp zs).filter fun y=>decide (p y=h)).map q))))):jS (HZ K l) g tt te D fin σB (upd H D (.lst [])):=by
 have nl:l≠D:=am hl hD;have tk:∀ {i:Nat} {z:Addr×(Int×Int)},zs[i]?=some z->(zp zs).take (i+1)=(zp zs).take i++[z.2]:=fun {i z} hz=>by
  rw[eL,show (zp zs)[i]?=some z.2 by unfold zp;rw[bi,hz];rfl];rfl
 refine eE (xs:=zr zs) (fun i ys σ H2=>S σ/\ys=IV ((((zp zs).take i).filter fun y=>decide (p y=h)).map q)/\H2=upd H D (.lst ys)) ⟨s0,by simp,rfl⟩ (fun i ys σ H2 _ ⟨_,_,e⟩=>by rw[e];exact a_.of (by rw[ao nl];exact hl)) ?_ ?_
 .rintro i x ys σ H2 Kt Kf hx ⟨hS,ey,rfl⟩ kt kf;obtain⟨z,hz,rfl⟩:=pW hx;have Iz:z∈zs:=cT hz;have hp:=po z Iz;have na:z.1≠D:=am hp hD;have hi:i<zs.length:=(cL.mp hz).1;refine hg z σ _ Kt Kf Iz hS (by rw[ao na];exact hp) (fun σ2 s2 e=>?_) (fun σ2 s2 e=>?_)
  .refine kt _ _ _ ag ?_ ⟨s2,?_,?_⟩
   .rw[ey,aZ,aZ];exact du (iN _ _) (du (List.length_take_le _ _) (bz (show i<1000 by lia) (by decide)))
   .rw[ey,tk hz,iO,dI];have:decide (p z.2=h)=true:=by simp[e]
    simp[eN,this]
   .rw[k_]
  .refine kf _ _ ⟨s2,?_,rfl⟩;have:decide (p z.2=h)=false:=by simp[e]
   rw[ey,tk hz,iO];simp[eN,this]
 .rintro ys σ H2 ⟨_,ey,rfl⟩;rw[eH,<-bD,fz] at ey;rw[ey];exact hd
theorem L9:(["one","other","house"]:List Str).Nodup:=by decide +kernel
theorem z6:aE ["many","ties","house","leading_out","leading_in"] ["many","ties"] (aj Kk):=⟨rfl,rfl,rfl,by decide +kernel,rfl,by decide +kernel,by decide +kernel⟩
theorem Ko(F:eJ K "check_balance" "check_balance" Kk f fd)(B:Bl mg)(gM:∃t,mg "MOST_TIES_OUT"=some (.int 8 t)):
  be P w K mg base br 1 f fd ["many","ties"] jy:=by
 obtain⟨tM,gM⟩:=gM;refine F.ok z6 (fun vs H Q E h=>?_) (fun cm A outer s H vs Q E hr h=>?_)
 .obtain⟨n,l,zs,rfl,_⟩:=h;rfl
 .obtain⟨n,l,zs,rfl,T,k⟩:=h;have fi:=T.qK;have n1:=fi.n1;have n2:=fi.n2;have eD:zs.length<=256:=by have:=fi.len;rw[bD] at this;exact this
  refine'⟨_,ak (cG d8 rfl (ck rfl B.range (aa (pv 0) af)) (aB (i:=2) z6.nd rfl (Or.inr rfl))
   (ah (aK (i:=3) z6.nd rfl (Or.inl rfl) (av aS (by rfl) B.len d9 (aa ?c1 af)))
   (ah (aK (i:=4) z6.nd rfl (Or.inl rfl) (av aS (by rfl) B.len d9 (aa ?c2 af)))
   (ah (bZ (a8 pj (pv 3) (pv 4) (bb _)) dg aX)
   (ak (bZ (a8 Ck (pv 3) (bW (v:=.int 8) rfl gM ⟨_,rfl⟩) (bb _)) dg aX)))))),?_⟩
  case c1=>
   refine' dC (g:=qD K 2 (dN (bp 0) (dN (bp 1) qC))) (NB:=["one","other","house"]) (src:=[none,none,some 2]) (cS (by kernel_rfl)) rfl (dh (pv 1)) ?g ?t ?e;case g=>exact fun cl C s₃ H₃ fp=>dO (n:=2) rfl (aU (aB (i:=0) L9 rfl (Or.inl rfl) (Or.inr rfl)) (aU (aB (i:=1) L9 rfl (Or.inl rfl) (Or.inr rfl)) cU))
   case t=>exact fun cl C s₃ H₃ fp=>jv (a8 lg (pv 0) (pv 2) (bb _))
   case e=>exact fun cl C s₃ H₃ fp=>pv 0
  case c2=>
   refine' dC (g:=qD K 2 (dN (bp 0) (dN (bp 1) qC))) (NB:=["one","other","house"]) (src:=[none,none,some 2]) (cS (by kernel_rfl)) rfl (dh (pv 1)) ?g ?t ?e;case g=>exact fun cl C s₃ H₃ fp=>dO (n:=2) rfl (aU (aB (i:=0) L9 rfl (Or.inl rfl) (Or.inr rfl)) (aU (aB (i:=1) L9 rfl (Or.inl rfl) (Or.inr rfl)) cU))
   case t=>exact fun cl C s₃ H₃ fp=>jv (a8 lg (pv 1) (pv 2) (bb _))
   case e=>exact fun cl C s₃ H₃ fp=>pv 1
  refine⟨_,rfl,n,rfl,by lia,by lia,eA (n:=n) (lo:=0) (fun i σ H2=>aV H H2/\∃a b c,σ=[some (.int n),some (.ref l),a,b,c]) ⟨aV.refl _,none,none,none,rfl⟩ ?_ ?_⟩
  .rintro i σ H2 hi ⟨sm,a,b,c,rfl⟩;have T2:=T.same sm;refine⟨_,rfl,l,rfl,⟨_,a_.of T2.at_⟩,fun D hD=>mE (fun σ=>∃a b,σ=[a,b,some (.int (0+(i:Int)))]) (·.1) (·.1) (0+(i:Int)) hD T2.at_ T2.po (by lia) ⟨_,_,rfl⟩ ?_ ?_⟩
   .rintro z σ H3 Kt Kf hj ⟨x,y,rfl⟩ ha kt kf;refine⟨z.1,_,rfl,cI.of ha,rfl,_,_,rfl,_,_,rfl,rfl,?_⟩;refine⟨_,rfl,_,rfl,rfl,_,rfl,?_⟩;refine mx (fun e=>?_) (fun e=>?_)
    .exact⟨_,rfl,kt _ ⟨_,_,rfl⟩ (by simpa using e)⟩
    .exact kf _ ⟨_,_,rfl⟩ (by simpa using e)
   .refine⟨D,_,rfl,.inl (a_.of ag),?_⟩;have A_:=cH (o:=.lst (IV (((zp zs).filter fun y=>decide (y.1=0+(i:Int))).map (·.1)))) (sm.trans (aV.refl _)) (H:=H) (by cases z:H D with|none=>rfl|some o=>rw[sm _ _ z] at hD;cases hD);have T3:=T.same A_;refine⟨_,rfl,l,rfl,⟨_,a_.of T3.at_⟩,fun D' QM=>mE (fun σ=>∃a b,σ=[a,b,some (.int (0+(i:Int)))]) (·.2) (·.2) (0+(i:Int)) QM T3.at_ T3.po (by lia) ⟨_,_,rfl⟩ ?_ ?_⟩
    .rintro z σ H3 Kt Kf hj ⟨x,y,rfl⟩ ha kt kf;refine⟨z.1,_,rfl,cI.of ha,rfl,_,_,rfl,_,_,rfl,rfl,?_⟩;refine⟨_,rfl,_,rfl,rfl,_,rfl,?_⟩;refine mx (fun e=>?_) (fun e=>?_)
     .exact⟨_,rfl,kt _ ⟨_,_,rfl⟩ (by simpa using e)⟩
     .exact kf _ ⟨_,_,rfl⟩ (by simpa using e)
    .refine⟨D',_,rfl,.inl (a_.of ag),?_⟩;rw[gv] at *;have q1:(IV (((zp zs).filter fun y=>decide (y.1=(i:Int))).map (·.1))).length=(IV (((zp zs).filter fun y=>decide (y.2=(i:Int))).map (·.2))).length:=by
      rw[aZ,aZ,aZ,aZ];exact fi.Y4 i
     have q2:(IV (((zp zs).filter fun y=>decide (y.1=(i:Int))).map (·.1))).length<=8:=by
      rw[aZ,aZ];exact fi.most i
     refine⟨_,rfl,_,rfl,rfl,_,rfl,?_⟩;rw[<-q1];rw[show (!decide (V.int (((IV (((zp zs).filter fun y=>decide (y.1=(i:Int))).map (·.1))).length:Nat):Int)=V.int (((IV (((zp zs).filter fun y=>decide (y.1=(i:Int))).map (·.1))).length:Nat):Int)))=false by simp];refine ku ?_;refine⟨_,rfl,_,_,rfl,rfl,_,rfl,?_⟩;rw[show decide ((((IV (((zp zs).filter fun y=>decide (y.1=(i:Int))).map (·.1))).length:Nat):Int) > 8)=false by rw[decide_eq_false_iff_not];lia];exact ku ⟨A_.trans (ai QM),_,_,_,rfl⟩
  .rintro σ H2 ⟨sm,a,b,c,rfl⟩;exact k H2 sm
end
def Gs:Expr:=match (bh vZ).getD 1 (.Pass ⟨0,0,0,0⟩) with
 |.Return (some (.Call _ _ (k::_) _)) _=>k.value
 |_=>.Name "x" ⟨0,0,0,0⟩
def Gu:Arguments:=match Gs with
 |.Lambda a _ _ _=>a
 |_=>{ posonlyargs:=[],args:=[],vararg:=none,kwonlyargs:=[],kw_defaults:=[],kwarg:=none,defaults:=[] }
def Gv:Expr:=match Gs with
 |.Lambda _ b _ _=>b
 |e=>e
def Of:Scope:=match Gs with
 |.Lambda _ _ s _=>s
 |_=>{ kind:=.function,names:=[],isGenerator:=false,isCoroutine:=false }
def Kp:Pos:=match Gs with
 |.Lambda _ _ _ p=>p
 |_=>⟨0,0,0,0⟩
def IA:Str:=("houses_out":Str)++".<locals>."++"<lambda>"
abbrev iL(Pt:Addr)(H:Hp):Prop:=rh Kp IA Pt H
def ni(Pt:Addr)(H H':Hp):Prop:=∀b o,H b=some o->b≠Pt->H' b=some o
theorem ni.of(a:aV H H'):ni Pt H H':=fun c o h _=>a c o h
theorem iL.not(t:iL Pt H)(h:H b=some o)(n:∀ps,o≠.nQ ps):b≠Pt:=by
 rintro rfl;rcases t with z|⟨c,z,_⟩ <;> · rw[h] at z;exact n _ (bt z)
theorem iL.same(t:iL Pt H)(e:aV H H'):iL Pt H':=by
 rcases t with z|⟨c,z,y⟩
 .exact .inl (e _ _ z)
 .exact .inr ⟨c,e _ _ z,e _ _ y⟩
theorem Gw{n a b h:Int}(hn:0<n)(a0:0<=a)(a1:a<n)(b0:0<=b)(b1:b<n)(e:(a-h) % n=(b-h) % n):a=b:=by
 have h1:=Int.emod_emod_of_dvd (a-h) (Int.dvd_refl n);have q:(a-b) % n=0:=by
  have:a-b=(a-h)-(b-h):=by lia
  rw[this,Int.sub_emod,e,Int.sub_self,Int.zero_emod]
 obtain⟨c,hc⟩:=Int.dvd_of_emod_eq_zero q;have c0:c=0:=by
  rcases Int.lt_trichotomy c 0 with z|z|z
  .have:n*c<=n*(-1):=BO (by lia) (by lia);lia
  .exact z
  .have:n*1<=n*c:=BO (by lia) (by lia);lia
 rw[c0] at hc;lia
theorem qL{ts:Ts}{h:Int}(nd:ts.Nodup):((ts.filter fun y=>decide (y.1=h)).map (·.2)).Nodup:=by
 refine L2.mD (nd.filter _) fun x hx y hy e=>?_;have a:=(fk.mp hx).2;have b:=(fk.mp hy).2;simp at a b;exact ig (a.trans b.symm) e
theorem Ba{n:Nat}{ts:Ts}{h:Nat}(F:iJ n ts)(hh:h<n){out:List Int}(ko:JW (h:Int) (n:Int) ((ts.filter fun y=>decide (y.1=(h:Int))).map (·.2)) out):out.map V.int=NV (c_ n ts h):=by
 obtain⟨ps,hp,rfl,hs⟩:=ko;have AR:(ps.map (·.2)).Perm ((ts.filter fun y=>decide (y.1=(h:Int))).map (·.2)):=by
  have:=hp.map (·.2);rw[eO] at this;refine this.trans (sC ?_);conv=>rhs;rw[<-ic ((ts.filter fun y=>decide (y.1=(h:Int))).map (·.2))]
  rfl
 have mem:∀z,z∈ps.map (·.2)↔((h:Int),z)∈ts:=fun z=>by
  rw[AR.mem_iff,bu];constructor
  .rintro⟨y,hy,rfl⟩;obtain⟨y1,y2⟩:=fk.mp hy;have:y.1=(h:Int):=by simpa using y2
   rw[<-this];exact y1
  .intro hz;exact⟨_,fk.mpr ⟨hz,by simp⟩,rfl⟩
 have nd:(ps.map (·.2)).Nodup:=AR.nodup_iff.mpr (qL F.nd);have key:∀q∈ps,q.1=(q.2-(h:Int)) % (n:Int):=fun q hq=>by
  obtain⟨z,_,e⟩:=bu.mp (hp.mem_iff.mp hq);rw[<-e]
 have hn:(0:Int)<n:=by have:=F.n1;lia
 have sorted:(ps.map (·.2)).Pairwise fun x y=>(x-(h:Int)) % (n:Int)<(y-(h:Int)) % (n:Int):=by
  refine f9.mpr ?_;have Ze:=f9.mp nd;refine(hs.and Ze).imp_of_mem fun {x y} hx hy AX=>?_;have l1:=AX.1;rw[key x hx,key y hy] at l1;have ax:=F.rg _ ((mem x.2).mp (bu.mpr ⟨x,hx,rfl⟩));have ay:=F.rg _ ((mem y.2).mp (bu.mpr ⟨y,hy,rfl⟩));have ne:(x.2-(h:Int)) % (n:Int)≠(y.2-(h:Int)) % (n:Int):=fun z=>AX.2 (Gw hn ax.2.1 ax.2.2 ay.2.1 ay.2.2 z);lia
 have e:ps.map (·.2)=(c_ n ts h).map fun (o:Nat)=>(o:Int):=by
  refine gn (k:=fun z=>(z-(h:Int)) % (n:Int)) sorted ?_ fun z=>?_
  .refine f9.mpr ?_;exact ng hh
  .rw[mem,bu];constructor
   .intro hz;have r:=F.rg _ hz;refine⟨z.toNat,(fX F hh).mpr ?_,by lia⟩;show (((h:Nat):Int),((z.toNat:Nat):Int))∈ts;rw[show ((z.toNat:Nat):Int)=z by lia];exact hz
   .rintro⟨o,ho,rfl⟩;exact(fX F hh).mp ho
 rw[e,eO];rfl
section
variable {P:Program} {w:World} {K:PySem.W.Frag} {mg:Str->Option Value} {base:Heap}
theorem DN:aE ["many","ties","house","others"] ["many","ties","house"] (aj vZ):=⟨rfl,rfl,rfl,by decide +kernel,rfl,by decide +kernel,by decide +kernel⟩
def um(Pt:Addr):Sp:=fun vs H Q _=>∃ (n:Nat) (l:Addr) (h:Nat) (zs:Zs),vs=[.int n,.ref l,.int h]/\h<n/\eI H l n zs/\iL Pt H/\
 ∀ (r:Addr) (H':Hp),iL Pt H'->ni Pt H H'->H r=none->H' r=some (.lst (NV (c_ n (zp zs) h)))->Q (.ref r) H'
theorem Gx(F:ye K "houses_out" "houses_out" vZ f fd c)(B:Bl mg)(kb:K.In base)(hb:tW mg base)(hc:PySem.W.codeHdIn K c Pt=true):
  be P w K mg base br 1 f fd ["many","ties","house"] (um Pt):=by
 refine F.ok DN (fun vs H Q E h=>?_) (fun A outer s H vs Q E hr h=>?_)
 .obtain⟨n,l,h,zs,rfl,_⟩:=h;rfl
 .obtain⟨n,l,h,zs,rfl,hh,T,tb,k⟩:=h;have fi:=T.qK;have n1:=fi.n1;have eD:zs.length<=256:=by have:=fi.len;rw[bD] at this;exact this
  have LS:NC (gX br P w K mg base ["many","ties","house","others"] "houses_out" (aj vZ) f (.ref c) A outer s H E).E4 IA Gu Gv Of "other" "house" "many" 2 0:=
   ⟨⟨_,_,_,_,_,rfl⟩,fun _ _ _ _ _=>rfl,rfl,rfl,rfl,rfl,rfl,rfl,rfl,by decide +kernel,by decide +kernel,by decide +kernel,rfl,rfl,rfl,by decide,⟨by decide,by decide⟩,⟨by decide,by decide⟩⟩
  refine'⟨_,ah (im (i:=3) (g:=qD K 2 (dN (bp 0) (dN (bp 1) qC))) (NB:=["one","other","house"]) (src:=[none,none,some 2]) (cS (by kernel_rfl)) rfl (dh (pv 1)) ?g ?t ?e DN.nd rfl rfl rfl)
   (ak (aN (AQ (yc LS hr) rfl B.sorted wJ (aa (pv 3) af) (Fz (JV (NB:=["other","house","many"]) (src:=[none,some 2,some 0]) (F3 kb hb hc) (cS (by kernel_rfl))) Jw)))),?_⟩
  case g=>exact fun cl C s₃ H₃ fp=>dO (n:=2) rfl (aU (aB (i:=0) L9 rfl (Or.inl rfl) (Or.inr rfl)) (aU (aB (i:=1) L9 rfl (Or.inl rfl) (Or.inr rfl)) cU))
  case t=>exact fun cl C s₃ H₃ fp=>jv (a8 lg (pv 0) (pv 2) (bb _))
  case e=>exact fun cl C s₃ H₃ fp=>pv 1
  refine⟨_,rfl,l,rfl,⟨_,a_.of T.at_⟩,fun D hD=>mE (fun σ=>∃a b,σ=[a,b,some (.int (h:Int))]) (·.1) (·.2) (h:Int) hD T.at_ T.po (by lia) ⟨_,_,rfl⟩ ?_ ?_⟩
  .rintro z σ H3 Kt Kf hj ⟨x,y,rfl⟩ ha kt kf;refine⟨z.1,_,rfl,cI.of ha,rfl,_,_,rfl,_,_,rfl,rfl,?_⟩;refine⟨_,rfl,_,rfl,rfl,_,rfl,?_⟩;refine mx (fun e=>?_) (fun e=>?_)
   .exact⟨_,rfl,kt _ ⟨_,_,rfl⟩ (by simpa using e)⟩
   .exact kf _ ⟨_,_,rfl⟩ (by simpa using e)
  .generalize E8:((zp zs).filter fun y=>decide (y.1=(h:Int))).map (·.2)=os;have Im:os.length<=8:=by rw[<-E8,aZ];exact fi.most h
   have sm:aV H (upd H D (.lst (IV os))):=ai hD;refine⟨_,rfl,tb.same sm,fun f' c' H2 Zf kY Ji FX=>?_⟩;have t2:iL Pt H2:=Zf;have oa:H2 D=some (.lst (IV os)):=kY _ _ ag ((tb.same sm).not ag (by intro ps z;cases z));refine⟨D,f',c',os,h,n,rfl,rfl,a_.of oa,(by lia),FX,Ji,rfl,rfl,by lia,fun r out BF ko=>?_⟩;rw[<-E8] at ko;rw[Ba fi hh ko];have A_:aV H2 (upd H2 r (.lst (NV (c_ n (zp zs) h)))):=ai BF;refine k r _ (t2.same A_) (fun b o e hb=>A_ _ _ (kY b o (sm _ _ e) hb)) ?_ ag;cases z:H r with
   |none=>rfl
   |some o=>
    by_cases hP:r=Pt
    .rcases t2 with q|⟨_,q,_⟩ <;> · rw[<-hP,BF] at q;cases q
    .rw[kY r o (sm _ _ z) hP] at BF;cases BF
end
abbrev DO:Stmt:=gK 30
abbrev yp:Stmt:=gK 31
def jM(n:Nat)(R:List Nat)(f:Nat->Nat):List V:=(List.range n).map fun x=>if x∈R then V.int ((f x:Nat):Int) else .bV
theorem jg:(jM n R f).length=n:=by unfold jM;rw[aZ,kX]
theorem jh(h:x<n):(jM n R f)[x]?=some (if x∈R then V.int ((f x:Nat):Int) else .bV):=by
 unfold jM;rw[bi,rT h];rfl
theorem yq(hs:s<n):(List.replicate n V.bV).set s (V.int 0)=jM n [s] (fun _=>0):=by
 apply xg;intro x;by_cases hx:x<n
 .rw[jh hx];by_cases e:x=s
  .subst e;rw[ot (by rw[oz];exact hx),aq (by simp)];rfl
  .rw[lV (fun z=>e z.symm),wN,aq hx,au (by simp[e])]
 .rw[lU (by rw[sw,oz];lia),lU (by rw[jg];lia)]
theorem DP(hv:v<n):(jM n R f).set v (V.int ((k:Nat):Int))=jM n (R++[v]) (put f v k):=by
 apply xg;intro x;by_cases hx:x<n
 .rw[jh hx];by_cases e:x=v
  .subst e;rw[ot (by rw[jg];exact hx),aq (by simp),jb]
  .rw[lV (fun z=>e z.symm),jh hx,fh e];by_cases h:x∈R
   .rw[aq h,aq (gO _ h)]
   .rw[au h,au (fun z=>(cf.mp z).elim h fun z=>e (by simpa using z))]
 .rw[lU (by rw[sw,jg];lia),lU (by rw[jg];lia)]
def Og(σ:St):Nat:=match σ[4]? with
 |some (some (V.int z))=>z.toNat
 |_=>0
theorem Zg:(["others"]:List Str).Nodup:=by decide +kernel
def pX(H:Hp)(ol:Addr)(n:Nat)(ts:Ts):Prop:=∃bs:List Addr,H ol=some (.lst (bs.map V.ref))/\Holds H bs n (fun h=>.lst (NV (c_ n ts h)))
theorem pX.same(x:pX H ol n ts)(e:aV H H'):pX H' ol n ts:=let ⟨bs,a,b⟩:=x;⟨bs,e _ _ a,b.mono fun _ _ z=>e _ _ z⟩
theorem z7{as:List Addr}{i:Nat}{x:V}(h:(as.map V.ref)[i]?=some x):i<as.length/\x=.ref (as.getD i 0):=by
 rw[bi] at h;cases e:as[i]? with
 |none=>rw[e] at h;cases h
 |some a=>
  rw[e] at h;refine⟨(cL.mp e).1,?_⟩;rw[dY,e];exact(bt h).symm
section
variable {P:Program} {w:World} {K:PySem.W.Frag} {mg:Str->Option Value} {base:Heap}
theorem kG:aE ["out_lists","start","distances","reached","at","house","other"] ["out_lists","start"] (aj DO):=⟨rfl,rfl,rfl,by decide +kernel,rfl,by decide +kernel,by decide +kernel⟩
def uo:Sp:=fun vs H Q _=>∃ (ol:Addr) (n s:Nat) (ts:Ts),vs=[.ref ol,.int s]/\iJ n ts/\s<n/\pX H ol n ts/\
 ∀ (r:Addr) (H':Hp),aV H H'->H r=none->H' r=some (.lst (NV ((List.range n).map (far ts s))))->Q (.ref r) H'
theorem Gy{f:Addr}{fd:FuncData}(F:eJ K "distances_from" "distances_from" DO f fd)(B:Bl mg):be P w K mg base br 1 f fd ["out_lists","start"] uo:=by
 refine F.ok kG (fun vs H Q E h=>?_) (fun cm A outer s H vs Q E hr h=>?_)
 .obtain⟨ol,n,s,ts,rfl,_⟩:=h;rfl
 .obtain⟨ol,n,st,ts,rfl,fi,hs,O,k⟩:=h;have n1:=fi.n1;have n2:=fi.n2;refine'⟨_,ah (im (i:=2) (g:=bp 0) (NB:=["others"]) (src:=[none]) (cS (by kernel_rfl)) rfl (dh (pv 0)) ?g ?t ?e kG.nd rfl rfl rfl)
   (ah (mh az (sZ (pv 2) (pv 1) ln))
   (ah (aK (i:=3) kG.nd rfl (Or.inl rfl) (bX (aa (pv 1) af)))
   (ah (aK (i:=4) kG.nd rfl (Or.inl rfl) az)
   (ah (B7 d8 (a8 vd (pv 4) (av aS (by rfl) B.len d9 (aa (pv 3) af)) (bb _))
    (ah (aK (i:=5) kG.nd rfl (Or.inl rfl) (cy bj (pv 3) (pv 4) (fun _ _=>rfl)))
    (ah (cG d8 rfl (dh (cy bj (pv 0) (pv 5) (fun _ _=>rfl))) (aB (i:=6) kG.nd rfl (Or.inl rfl))
     (ak (bZ (a8 Jr (cy bj (pv 2) (pv 6) (fun _ _=>rfl)) sY (bb _))
      (ah (mh (aR dP (cy bj (pv 2) (pv 5) (fun _ _=>rfl)) az) (sZ (pv 2) (pv 6) ln))
      (ak (b_ (lr kQ kP kO cQ (pv 3) (aa (pv 6) af))))) aX)))
    (ak (mi (i:=4) kG.nd rfl (Or.inl rfl) az B5)))))
   (ak (aN (pv 2))))))),?_⟩
  case g=>exact fun cl C s₃ H₃ fp=>aB (i:=0) Zg rfl (Or.inl rfl) (Or.inr rfl)
  case t=>exact fun cl C s₃ H₃ fp=>dR
  case e=>exact fun cl C s₃ H₃ fp=>sY
  obtain⟨bs,Im,SW,L3⟩:=id O;refine⟨_,rfl,ol,rfl,⟨_,a_.of Im⟩,fun D hD=>?_⟩;have Zh:ol≠D:=am Im hD;refine eE (xs:=bs.map V.ref) (fun i ys σ H2=>(∃a,σ=[a])/\ys=List.replicate i V.bV/\H2=upd H D (.lst ys)) ⟨⟨_,rfl⟩,rfl,rfl⟩ (fun i ys σ H2 _ ⟨_,_,e⟩=>by rw[e];exact a_.of (by rw[ao Zh];exact Im)) ?_ ?_
  .rintro i x ys σ H2 Kt Kf hx ⟨⟨a,rfl⟩,rfl,rfl⟩ kt kf;have hi:=(z7 hx).1;refine kt _ _ _ ag ?_ ⟨⟨_,rfl⟩,?_,by rw[k_]⟩
   .rw[oz];exact bz hi (by rw[SW];exact aY n2 (by decide))
   .rw[List.replicate_succ']
  .rintro ys σ H2 ⟨_,rfl,rfl⟩;rw[aZ,SW];refine⟨_,rfl,_,rfl,D,_,st,st,rfl,rfl,ag,by rw[oz];exact nZ hs,?_⟩;rw[k_,yq hs];refine⟨_,rfl,by show 1<=sizeLine;decide,fun R hR=>?_⟩;have QN:D≠R:=am (H:=upd H D (.lst (jM n [st] (fun _=>0)))) ag hR;have SX:H R=none:=by rw[ao QN.symm] at hR;exact hR
   refine Cd (fun σ H2=>∃ (i:Nat) (Rs:List Nat) (f:Nat->Nat),i<=Rs.length/\A4 n ts st i Rs f/\(∃a b,σ=[some (.ref ol),some (.int st),some (.ref D),some (.ref R),some (.int (i:Int)),a,b])/\aV H H2/\H2 D=some (.lst (jM n Rs f))/\H2 R=some (.lst (NV Rs)))
    (fun σ _=>n-Og σ) ⟨0,[st],fun _=>0,cN _,A4.start hs,⟨none,none,rfl⟩,cH (ai hD) SX,?_,ag⟩ ?_ ?_
   .rw[ao QN,ag]
   .rintro σ H2 ⟨i,Rs,f,hi,Bf,⟨a,b,rfl⟩,sm,oa,SY⟩;have hRn:Rs.length<=n:=iw Bf.nd Bf.lt;refine⟨_,rfl,_,rfl,R,_,rfl,.inl (a_.of SY),_,_,rfl,rfl,_,rfl,?_⟩;rw[aW];by_cases m_:i<Rs.length
    .rw[show decide ((i:Int)<((Rs.length:Nat):Int))=true by simp;lia];refine Az ?_;have hu:Rs[i]?=some Rs[i]:=cV m_;generalize Rs[i]=u at hu;have Gz:u<n:=Bf.lt u (cT hu);have Zi:(NV Rs)[i]?=some (.int (u:Int)):=by rw[bi,hu];rfl
     refine⟨_,rfl,_,rfl,R,_,_,_,rfl,rfl,a_.of SY,bf Zi,?_⟩;have Kq:(bs.map V.ref)[u]?=some (.ref (bs.getD u 0)):=by
      rw[bi,dY,cV (by rw[SW];exact Gz)];rfl
     have Bb:=sm _ _ (L3 _ Gz);refine⟨_,rfl,_,rfl,ol,_,_,_,rfl,rfl,a_.of (sm _ _ Im),bf Kq,_,rfl,⟨_,a_.of Bb⟩,?_⟩;have nbD:bs.getD u 0≠D:=am (L3 _ Gz) hD;have nbR:bs.getD u 0≠R:=am (L3 _ Gz) SX;refine lf (K:=K) (xs:=NV (c_ n ts u)) (fun j σ H3=>∃ (nC:List Nat) (f':Nat->Nat),A4 n ts st i nC f'/\nC[i]?=some u/\(∀v∈(c_ n ts u).take j,v∈nC/\f' v<=f' u+1)/\
      (∃b,σ=[some (.ref ol),some (.int st),some (.ref D),some (.ref R),some (.int (i:Int)),some (.int (u:Int)),b])/\aV H H3/\H3 D=some (.lst (jM n nC f'))/\H3 R=some (.lst (NV nC)))
      ⟨Rs,f,Bf,hu,fun v hv=>by simp at hv,⟨_,rfl⟩,sm,oa,SY⟩ (fun j σ H3 _ ⟨_,_,_,_,_,_,IC,_⟩=>a_.of (IC _ _ (L3 _ Gz))) ?_ ?_
     .rintro j x σ H3 hx ⟨nC,f',GA,CW,dn,⟨b',rfl⟩,IC,yr,Fc⟩;rw[bi] at hx;cases hv:(c_ n ts u)[j]? with
      |none=>rw[hv] at hx;cases hx
      |some v=>
       rw[hv] at hx;obtain rfl:V.int ((v:Nat):Int)=x:=bt hx;have QO:v∈c_ n ts u:=cT hv;have L_:v<n:=lE fi Gz QO;have Zj:T ts u v:=(fX fi Gz).mp QO;have tk:(c_ n ts u).take (j+1)=(c_ n ts u).take j++[v]:=by rw[eL,hv];rfl
       have Oh:u∈nC:=cT CW;refine⟨_,rfl,_,rfl,D,_,_,_,rfl,rfl,a_.of yr,bf (jh L_),rfl,_,rfl,?_⟩;by_cases Kr:v∈nC
       .rw[aq Kr];refine ku ⟨nC,f',GA,CW,fun x hx=>?_,⟨_,rfl⟩,IC,yr,Fc⟩;rw[tk] at hx;rcases cf.mp hx with z|z
        .exact dn x z
        .simp at z;subst z;exact⟨Kr,GA.bd u CW _ Kr⟩
       .rw[au Kr];refine Az ?_;have Zk:(jM n nC f')[u]?=some (.int ((f' u:Nat):Int)):=by rw[jh Gz,aq Oh]
        refine⟨_,rfl,_,rfl,D,_,_,_,rfl,rfl,a_.of yr,bf Zk,_,_,rfl,rfl,_,rfl,_,rfl,D,_,_,_,rfl,rfl,yr,by rw[jg];exact nZ L_,?_⟩;have e1:(jM n nC f').set v (.int (((f' u:Nat):Int)+1))=jM n (nC++[v]) (put f' v (f' u+1)):=by
         rw[show ((f' u:Nat):Int)+1=((f' u+1:Nat):Int) by lia,DP L_]
        rw[e1];have uc:(upd H3 D (.lst (jM n (nC++[v]) (put f' v (f' u+1))))) R=some (.lst (NV nC)):=by rw[ao QN.symm];exact Fc
        have Oi:nC.length<=n:=iw GA.nd GA.lt;refine⟨_,rfl,.inl ⟨rfl,_,a_.of uc⟩,_,rfl,R,_,_,rfl,rfl,uc,by rw[aW];exact bz (show nC.length<33 by lia) (by decide),?_⟩;have qt:i<nC.length:=(cL.mp CW).1;have Zl:u≠v:=fun z=>Kr (z ▸ Oh);refine⟨nC++[v],put f' v (f' u+1),GA.add CW L_ Zj Kr,by rw[gN qt];exact CW,fun x hx=>?_,⟨_,rfl⟩,cH (cH IC hD) SX,?_,?_⟩
        .rw[fh Zl];rw[tk] at hx;rcases cf.mp hx with z|z
         .obtain⟨q1,q2⟩:=dn x z;exact⟨gO _ q1,by rw[fh (fun (z:x=v)=>Kr (z ▸ q1))];exact q2⟩
         .simp at z;subst z;exact⟨by simp,by rw[jb];exact a9 _⟩
        .rw[ao QN,ag]
        .rw[ag];show _=some (HO.lst (NV (nC++[v])));rw[show NV (nC++[v])=NV nC++[.int (v:Int)] by unfold NV;rw[dI];rfl]
     .rintro σ H3 ⟨nC,f',GA,CW,dn,⟨b',rfl⟩,IC,yr,Fc⟩;rw[aW,fz] at dn;have qt:i<nC.length:=(cL.mp CW).1;have Oi:nC.length<=n:=iw GA.nd GA.lt;refine⟨_,rfl,_,_,rfl,rfl,⟨⟨i+1,nC,f',qt,GA.next CW (fun v t=>dn v ((fX fi Gz).mpr t)),⟨_,_,rfl⟩,IC,yr,Fc⟩,?_⟩⟩;show n-((i:Int)+1).toNat<n-(i:Int).toNat;lia
    .rw[show decide ((i:Int)<((Rs.length:Nat):Int))=false by rw[decide_eq_false_iff_not];lia];have e:jM n Rs f=NV ((List.range n).map (far ts st)):=by
      unfold jM NV;rw[eO];refine kT fun x hx=>?_;obtain⟨q1,q2⟩:=Bf.done fi (by lia) (dv.mp hx);rw[aq q1,q2];rfl
     rw[e] at oa;refine ku ⟨_,rfl,k D H2 sm hD oa⟩
   .rintro σ H2 Q1 Q2 imp ⟨v,e1,v2,e2,p,ys,e3,e4,i1,i2,e5,e6,kk,e7,q⟩;exact⟨v,e1,v2,e2,p,ys,e3,e4,i1,i2,e5,e6,kk,e7,imp _ _ q⟩
end
theorem Oj:(["row"]:List Str).Nodup:=by decide +kernel
section
variable {P:Program} {w:World} {K:PySem.W.Frag} {mg:Str->Option Value} {base:Heap}
theorem GC:aE ["distances"] ["distances"] (aj yp):=⟨rfl,rfl,rfl,by decide +kernel,rfl,by decide +kernel,by decide +kernel⟩
def uq:Sp:=fun vs H Q _=>∃ (l:Addr) (ds:List Addr) (n:Nat) (o:Nat->List V),vs=[.ref l]/\H l=some (.lst (ds.map V.ref))/\n<=32/\Holds H ds n (fun j=>.lst (o j))/\(∀j,j<n->∀x∈o j,∃i,x=.int i)/\∀H',aV H H'->Q .bV H'
theorem DQ(F:eJ K "check_reached" "check_reached" yp f fd)(B:Bl mg):be P w K mg base br 1 f fd ["distances"] uq:=by
 refine F.ok GC (fun vs H Q E h=>?_) (fun cm A outer s H vs Q E hr h=>?_)
 .obtain⟨l,ds,n,o,rfl,_⟩:=h;rfl
 .obtain⟨l,ds,n,o,rfl,hl,n2,hh,hx,k⟩:=h;refine'⟨_,ak (bZ (dE (av (AN rfl) (by rfl) B.any PyProof.Rows.boot_any (aa ?c af))) dg aX),?_⟩;case c=>
   refine' dC (g:=bp 0) (te:=qE (VL K false) (tC .bV) (bU 0)) (NB:=["row"]) (src:=[none]) (cS (by kernel_rfl)) rfl (dh (pv 0)) ?g ?t ?e;case g=>exact fun cl C s₃ H₃ fp=>aB (i:=0) Oj rfl (Or.inl rfl) (Or.inr rfl)
   case t=>exact fun cl C s₃ H₃ fp=>dR
   case e=>exact fun cl C s₃ H₃ fp=>lh Aw sY (pv 0) rfl
  refine⟨_,rfl,l,rfl,⟨_,a_.of hl⟩,fun D hD=>?_⟩;have nl:l≠D:=am hl hD;refine eE (xs:=ds.map V.ref) (fun i ys σ H2=>(∃a,σ=[a])/\ys=(List.replicate i false).map V.bl/\H2=upd H D (.lst ys)) ⟨⟨_,rfl⟩,rfl,rfl⟩ (fun i ys σ H2 _ ⟨_,_,e⟩=>by rw[e];exact a_.of (by rw[ao nl];exact hl)) ?_ ?_
  .rintro i x ys σ H2 Kt Kf Zm ⟨⟨a,rfl⟩,rfl,rfl⟩ kt kf;obtain⟨hi,rfl⟩:=z7 Zm;rw[hh.1] at hi;have hd:=hh.2 i hi;have nd:ds.getD i 0≠D:=am hd hD;have q1:(o i).all lq=true:=iQ.mpr fun x AJ=>by obtain⟨z,rfl⟩:=hx i hi x AJ;rfl
   have q2:Qr .bV (o i)=false:=by
    unfold Qr;rw[xh];intro x AJ;obtain⟨z,rfl⟩:=hx i hi x AJ;exact fun z=>by cases z
   refine⟨_,rfl,_,_,rfl,.inl (a_.of (by rw[ao nd];exact hd)),rfl,q1,?_⟩;refine kt _ _ _ ag ?_ ⟨⟨_,rfl⟩,?_,by rw[k_]⟩
   .rw[aZ,oz];exact bz hi (aY n2 (by decide))
   .rw[List.replicate_succ',dI,q2];rfl
  .rintro ys σ H2 ⟨_,rfl,rfl⟩;refine⟨D,_,rfl,a_.of ag,_,rfl,?_⟩;have e:(List.replicate (ds.map V.ref).length false).any id=false:=by
    rw[xh];intro x AJ;rw[(List.mem_replicate.mp AJ).2];decide
   rw[e];exact ku (k _ (ai hD))
end
theorem Wu:(["one","other"]:List Str).Nodup:=by decide +kernel
theorem Ol:(["house","many","ties"]:List Str).Nodup:=by decide +kernel
theorem SZ:(["house","self"]:List Str).Nodup:=by decide +kernel
def jY(p Pt:Addr)(H H':Hp):Prop:=∀b o,H b=some o->b≠p->b≠Pt->H' b=some o
theorem eI.mono(h:eI H l n zs)(e:jY p Pt H H')(hp:H p=some (.ins C dx fs))(tb:iL Pt H):eI H' l n zs:=
 ⟨h.qK,e _ _ h.at_ (dM h.at_ hp (by intro z;cases z)) (tb.not h.at_ (by intro ps z;cases z)),fun z hz=>e _ _ (h.po z hz) (dM (h.po z hz) hp (by intro z;cases z)) (tb.not (h.po z hz) (by intro ps z;cases z))⟩
theorem iL.mono(t:iL Pt H)(e:∀b o,H b=some o->b≠p->H' b=some o)(hp:H p=some (.ins C dx fs)):iL Pt H':=by
 rcases t with z|⟨c,z,y⟩
 .exact .inl (e _ _ z (dM z hp (by intro q;cases q)))
 .exact .inr ⟨c,e _ _ z (dM z hp (by intro q;cases q)),e _ _ y (dM y hp (by intro q;cases q))⟩
theorem iL.full(t:iL Pt H):H Pt≠none:=by
 rcases t with z|⟨c,z,y⟩ <;> rw[z] <;> intro q <;> cases q
theorem jY.free(s:jY p Pt H H')(hp:H' p≠none)(tb:iL Pt H')(h:H' r=none):H r=none:=by
 cases z:H r with
 |none=>rfl
 |some o=>
  by_cases e1:r=p
  .subst e1;exact absurd h hp
  .by_cases e2:r=Pt
   .subst e2;exact absurd h tb.full
   .rw[s r o z e1 e2] at h;cases h
theorem Om(h:k [] H):eC σ H k:=h
theorem jz{H:Hp}{p:Addr}{o:HO}(h:H p=some o):H p≠none:=by rw[h];intro z;cases z
section
variable {P:Program} {w:World} {K:PySem.W.Frag} {mg:Str->Option Value} {base:Heap}
theorem Ks:aE ["self","many","ties"] ["self","many","ties"] (aj zW):=⟨rfl,rfl,rfl,by decide +kernel,rfl,by decide +kernel,by decide +kernel⟩
def yt(C Pt:Addr):Sp:=fun vs H Q E=>∃ (p dx:Addr) (n:Nat) (l:Addr) (zs:Zs),vs=[.ref p,.int n,.ref l]/\H p=some (.ins C dx [])/\eI H l n zs/\iL Pt H/\
  ∀H',dL C H' (fun a=>H a=none) p n (zp zs)->iL Pt H'->jY p Pt H H'->Q .bV H'
theorem GD{f C Pt:Addr}{fd:FuncData}(F:eJ K "__init__" "Net.__init__" zW f fd)(T:NT K mg C)(B:Bl mg)(CT:cP P w K mg base br 6 "check_ties" ["many","ties"] jy)(CB:cP P w K mg base br 1 "check_balance" ["many","ties"] jy)(Zn:cP P w K mg base br 1 "houses_out" ["many","ties","house"] (um Pt))(DF:cP P w K mg base br 1 "distances_from" ["out_lists","start"] uo)(CR:cP P w K mg base br 1 "check_reached" ["distances"] uq):
  be P w K mg base br 7 f fd ["self","many","ties"] (yt C Pt):=by
 refine F.ok Ks (fun vs H Q E h=>?_) (fun cm A outer s H vs Q E hr h=>?_)
 .obtain⟨p,dx,n,l,zs,rfl,_⟩:=h;rfl
 .have QP:bK 1 _:=hr.mono (by decide);refine'⟨_,ah (b_ (aH CT hr aO (aa (pv 1) (aa (pv 2) af))))
   (ah (b_ (aH CB QP aO (aa (pv 1) (aa (pv 2) af))))
   (ah (mm (pv 0) (pv 1) rfl)
   (ah (mm (pv 0) (av yj (by rfl) B.sorted wJ (aa ?c1 af)) rfl)
   (ah (mm (pv 0) ?c2 rfl)
   (ah (mm (pv 0) ?c3 rfl)
   (ak (b_ (aH CR QP aO (aa (dF (pv 0) rfl) af))))))))),?_⟩
  case c1=>
   refine' dC (g:=qD K 2 (dN (bp 0) (dN (bp 1) qC))) (te:=Jv (bQ (bU 0) (bQ (bU 1) eC))) (NB:=["one","other"]) (src:=[none,none]) (cS (by kernel_rfl)) rfl (dh (pv 2)) ?g ?t ?e;case g=>exact fun cl C s₃ H₃ fp=>dO (n:=2) rfl (aU (aB (i:=0) Wu rfl (Or.inl rfl) (Or.inr rfl)) (aU (aB (i:=1) Wu rfl (Or.inl rfl) (Or.inr rfl)) cU))
   case t=>exact fun cl C s₃ H₃ fp=>dR
   case e=>exact fun cl C s₃ H₃ fp=>fV (aa (pv 0) (aa (pv 1) af))
  case c2=>
   refine' dC (g:=bp 0) (te:=pz (um Pt) [] E0 (bQ (bU 1) (bQ (bU 2) (bQ (bU 0) eC)))) (NB:=["house","many","ties"]) (src:=[none,some 1,some 2]) (cS (by kernel_rfl)) rfl (ck rfl B.range (aa (pv 1) af)) ?g ?t ?e;case g=>exact fun cl C s₃ H₃ fp=>aB (i:=0) Ol rfl (Or.inl rfl) (Or.inr rfl)
   case t=>exact fun cl C s₃ H₃ fp=>dR
   case e=>exact fun cl C s₃ H₃ fp=>aH Zn QP aO (aa (pv 1) (aa (pv 2) (aa (pv 0) af)))
  case c3=>
   refine' dC (g:=bp 0) (te:=pz uo [] E0 (bQ (Ju K (bU 1) "out_lists") (bQ (bU 0) eC))) (NB:=["house","self"]) (src:=[none,some 0]) (cS (by kernel_rfl)) rfl (ck rfl B.range (aa (pv 1) af)) ?g ?t ?e;case g=>exact fun cl C s₃ H₃ fp=>aB (i:=0) SZ rfl (Or.inl rfl) (Or.inr rfl)
   case t=>exact fun cl C s₃ H₃ fp=>dR
   case e=>exact fun cl C s₃ H₃ fp=>aH DF QP aO (aa (dF (pv 1) rfl) (aa (pv 0) af))
  obtain⟨p,dx,n,l,zs,rfl,hp,TT,tb,k⟩:=h;have fi:=TT.qK;have n1:=fi.n1;have n2:=fi.n2;have eD:zs.length<=256:=by have:=fi.len;rw[bD] at this;exact this
  refine⟨_,rfl,_,rfl,n,l,zs,rfl,TT,fun H1 s1=>?_⟩;refine⟨_,rfl,_,rfl,n,l,zs,rfl,TT.same s1,fun H2 s2=>?_⟩;have ur:aV H H2:=s1.trans s2;refine⟨_,rfl,_,rfl,p,C,dx,[],rfl,ur _ _ hp,T.cl,T.nH,(by show 0<1000;decide),?_⟩
  let G1:Hp:=upd H2 p (.ins C dx (cx "house_count" (.int n) []))
  have d1:jY p Pt H G1:=fun b o e h1 _=>by show upd _ _ _ _=_;rw[ao h1];exact ur _ _ e
  have QQ:G1 p=some (.ins C dx (cx "house_count" (.int n) [])):=ag;have S0:eI G1 l n zs:=TT.mono d1 hp tb;have S7:iL Pt G1:=tb.mono (fun b o e h1=>by show upd _ _ _ _=_;rw[ao h1];exact ur _ _ e) hp;refine⟨_,rfl,l,rfl,⟨_,a_.of S0.at_⟩,fun D hD=>?_⟩;refine DD (fun y=>y) (fun σ=>∃a b,σ=[a,b]) S0.at_ S0.po hD (by lia) ⟨_,_,rfl⟩ ?_ ?_
  .rintro z σ H3 R Kf hz ⟨a,b,rfl⟩ ha kk;refine⟨_,_,rfl,cI.of ha,rfl,_,_,rfl,_,_,rfl,rfl,?_⟩;exact⟨_,rfl,_,rfl,by show 2<=sizeLine;decide,fun t ht=>kk _ _ ⟨_,_,rfl⟩ ht⟩
  .intro Wv H3 sm yr Ku ez Zo;rw[List.map_id'] at ez;have JC:Wv.length=zs.length:=by rw[<-bD,ez,bD]
   refine Om ?_;refine Gn yr Ku (by lia) (fun u hu=>by have:=(fi.rg u (ez ▸ hu)).2;lia) fun tl Ma S8 pm Zp=>?_;have S9:H tl=none:=d1.free (jz QQ) S7 (sm.free S8);have Jn:∀z∈Ma,H z.1=none:=fun z hz=>d1.free (jz QQ) S7 (Zo z (pm.mem_iff.mp hz));have S_:H3 p=some (.ins C dx (cx "house_count" (.int n) [])):=sm _ _ QQ;have Kv:p≠tl:=am S_ S8;refine⟨_,rfl,p,C,dx,_,rfl,by rw[ao Kv];exact S_,T.cl,T.nT,by show 1<1000;decide,?_⟩
   let G2:Hp:=upd (upd H3 tl (.lst (zr Ma))) p (.ins C dx (cx "tie_list" (.ref tl) (cx "house_count" (.int n) [])))
   have q2:∀b o,H3 b=some o->b≠p->G2 b=some o:=fun b o e h1=>by
    show upd _ _ _ _=_;rw[ao h1,ao (am e S8)];exact e
   have d2:jY p Pt H G2:=fun b o e h1 h2=>q2 _ _ (sm _ _ (d1 _ _ e h1 h2)) h1;have Ww:G2 tl=some (.lst (zr Ma)):=by show upd _ _ _ _=_;rw[ao Kv.symm,ag]
   have Ta:PO G2 Ma:=fun z hz=>q2 _ _ (Ku z (pm.mem_iff.mp hz)) (dM (Ku z (pm.mem_iff.mp hz)) S_ (by intro z;cases z));have Kw:G2 p=some (.ins C dx (cx "tie_list" (.ref tl) (cx "house_count" (.int n) []))):=ag;have Zq:eI G2 l n zs:=TT.mono d2 hp tb;have Kx:iL Pt G2:=S7.mono (fun b o e h1=>q2 _ _ (sm _ _ e) h1) QQ;refine⟨_,rfl,n,rfl,by lia,by lia,fun D2 oa=>?_⟩;refine ip (n:=n) (lo:=0) (fun i ys σ H4=>(∃a,σ=[a,some (.int n),some (.ref l)])/\∃bs:List Addr,ys=bs.map V.ref/\(∀b∈bs,H b=none)/\Holds H4 bs i (fun h=>.lst (NV (c_ n (zp zs) h)))/\ni Pt G2 H4/\iL Pt H4/\H4 D2=some (.lst ys)/\∀b∈bs,b≠D2)
    ⟨⟨_,rfl⟩,[],rfl,(fun _ h=>nomatch h),Holds.nil,ni.of (ai oa),Kx.same (ai oa),ag,(fun _ h=>nomatch h)⟩ ?_ ?_
   .rintro i ys σ H4 Kt Kf hi ⟨⟨a,rfl⟩,bs,rfl,Tb,hb,AE,Mb,Mc,Tc⟩ kt kf;have Zr:eI H4 l n zs:=Zq.mono (p:=p) (fun b o e _ h2=>AE _ _ e h2) Kw Kx;have Md:=AE _ _ Kw (Kx.not Kw (by intro ps z;cases z));refine⟨_,rfl,_,rfl,_,rfl,n,l,i,zs,by rw[gv];rfl,hi,Zr,Mb,fun r H5 t5 yW On Zt=>?_⟩;have Td:H r=none:=jY.free (fun b o e h1 h2=>AE _ _ (d2 _ _ e h1 h2) h2) (jz Md) Mb On;have QR:H5 D2=some (.lst (bs.map V.ref)):=yW _ _ Mc (Mb.not Mc (by intro ps z;cases z));have Ky:r≠D2:=by rintro rfl;rw[Mc] at On;cases On
    have jZ:∀b o vD,H5 b=some o->b≠D2->(upd H5 D2 vD) b=some o:=fun b o vD e h=>by rw[ao h];exact e
    refine kt _ _ _ QR (by rw[aZ,hb.1];exact bz hi (aY n2 (by decide))) ⟨⟨_,rfl⟩,bs++[r],by rw[dI];rfl,?_,?_,?_,?_,ag,?_⟩
    .intro b qF;rcases cf.mp qF with z|z
     .exact Tb b z
     .rw[cX.mp z];exact Td
    .refine Holds.snoc (hb.mono fun j hj e=>?_) (jZ _ _ _ Zt Ky);refine jZ _ _ _ (yW _ _ e (Mb.not e (by intro ps z;cases z))) (Tc _ ?_);rw[dY,cV (by rw[hb.1];exact hj)];exact eM _
    .intro b o e h;exact jZ _ _ _ (yW _ _ (AE _ _ e h) h) (am e oa)
    .rcases t5 with z|⟨c,z,y⟩
     .exact .inl (jZ _ _ _ z (dM z QR (by intro q;cases q)))
     .exact .inr ⟨c,jZ _ _ _ z (dM z QR (by intro q;cases q)),jZ _ _ _ y (dM y QR (by intro q;cases q))⟩
    .intro b qF;rcases cf.mp qF with z|z
     .exact Tc b z
     .rw[cX.mp z];exact Ky
   .rintro ys σ H4 ⟨_,bs,rfl,Tb,hb,AE,Mb,Mc,Tc⟩;have Md:H4 p=some (.ins C dx (cx "tie_list" (.ref tl) (cx "house_count" (.int n) []))):=AE _ _ Kw (Kx.not Kw (by intro ps z;cases z));have Tf:H D2=none:=d2.free (jz Kw) Kx oa;refine⟨_,rfl,p,C,dx,_,rfl,Md,T.cl,T.nO,by have h1:=cZ "tie_list" (V.ref tl) (cx "house_count" (V.int n) []);have h2:=cZ "house_count" (V.int n) [];simp at h2;lia,?_⟩
    let G3:Hp:=upd H4 p (.ins C dx (cx "out_lists" (.ref D2) (cx "tie_list" (.ref tl) (cx "house_count" (.int n) []))))
    have q3:∀b o,H4 b=some o->b≠p->G3 b=some o:=fun b o e h1=>by show upd _ _ _ _=_;rw[ao h1];exact e
    have Kz:G3 p=some (.ins C dx (cx "out_lists" (.ref D2) (cx "tie_list" (.ref tl) (cx "house_count" (.int n) [])))):=ag;have d3:jY p Pt H G3:=fun b o e h1 h2=>q3 _ _ (AE _ _ (d2 _ _ e h1 h2) h2) h1;have Tg:iL Pt G3:=Mb.mono q3 Md;have QS:Holds G3 bs n (fun h=>.lst (NV (c_ n (zp zs) h))):=hb.mono fun j hj e=>q3 _ _ e (dM e Md (by intro z;cases z));have Th:G3 D2=some (.lst (bs.map V.ref)):=q3 _ _ Mc (dM Mc Md (by intro z;cases z));have O3:pX G3 D2 n (zp zs):=⟨bs,Th,QS⟩
    refine⟨_,rfl,n,rfl,by lia,by lia,fun D3 KA=>?_⟩;refine ip (n:=n) (lo:=0) (fun i ys σ H6=>(∃a,σ=[a,some (.ref p)])/\∃ds:List Addr,ys=ds.map V.ref/\(∀b∈ds,H b=none)/\Holds H6 ds i (fun s=>.lst (NV ((List.range n).map (far (zp zs) s))))/\aV G3 H6/\H6 D3=some (.lst ys)/\∀b∈ds,b≠D3)
     ⟨⟨_,rfl⟩,[],rfl,(fun _ h=>nomatch h),Holds.nil,ai KA,ag,(fun _ h=>nomatch h)⟩ ?_ ?_
    .rintro i ys σ H6 Kt Kf hi ⟨⟨a,rfl⟩,ds,rfl,Ti,hd,CP,uW,MZ⟩ kt kf;refine⟨_,rfl,p,C,dx,_,_,rfl,CP _ _ Kz,T.cl,T.nO,by rw[aI,aq rfl],_,rfl,D2,n,i,zp zs,by rw[gv];rfl,fi,hi,O3.same CP,fun r H7 Tj Bc Tk=>?_⟩;have Zu:H7 D3=some (.lst (ds.map V.ref)):=Tj _ _ uW;have Ky:r≠D3:=by rintro rfl;rw[uW] at Bc;cases Bc
     have Td:H r=none:=jY.free (fun b o e h1 h2=>CP _ _ (d3 _ _ e h1 h2)) (jz (CP _ _ Kz)) (Tg.same CP) Bc;have jZ:∀b o vD,H7 b=some o->b≠D3->(upd H7 D3 vD) b=some o:=fun b o vD e h=>by rw[ao h];exact e
     refine kt _ _ _ Zu (by rw[aZ,hd.1];exact bz hi (aY n2 (by decide))) ⟨⟨_,rfl⟩,ds++[r],by rw[dI];rfl,?_,?_,?_,ag,?_⟩
     .intro b qF;rcases cf.mp qF with z|z
      .exact Ti b z
      .rw[cX.mp z];exact Td
     .refine Holds.snoc (hd.mono fun j hj e=>?_) (jZ _ _ _ Tk Ky);refine jZ _ _ _ (Tj _ _ e) (MZ _ ?_);rw[dY,cV (by rw[hd.1];exact hj)];exact eM _
     .intro b o e;exact jZ _ _ _ (Tj _ _ (CP _ _ e)) (am e KA)
     .intro b qF;rcases cf.mp qF with z|z
      .exact MZ b z
      .rw[cX.mp z];exact Ky
    .rintro ys σ H6 ⟨_,ds,rfl,Ti,hd,CP,uW,MZ⟩;have Oo:=CP _ _ Kz;refine⟨_,rfl,p,C,dx,_,rfl,Oo,T.cl,T.nD,by have h1:=cZ "tie_list" (V.ref tl) (cx "house_count" (V.int n) []);have h2:=cZ "house_count" (V.int n) [];have h3:=cZ "out_lists" (V.ref D2) (cx "tie_list" (V.ref tl) (cx "house_count" (V.int n) []));simp at h2;lia,?_⟩;have q4:∀b o u,H6 b=some o->b≠p->(upd H6 p u) b=some o:=fun b o u e h1=>by rw[ao h1];exact e
     refine⟨_,rfl,p,C,dx,_,_,rfl,ag,T.cl,T.nD,by rw[aI,aq rfl],D3,ds,n,fun s=>NV ((List.range n).map (far (zp zs) s)),rfl,q4 _ _ _ uW (dM uW Oo (by intro z;cases z)),n2,hd.mono fun j hj e=>q4 _ _ _ e (dM e Oo (by intro z;cases z)),fun j hj x hx=>?_,fun H8 s8=>?_⟩
     .obtain⟨y,hy,rfl⟩:=bu.mp hx;exact⟨_,rfl⟩
     .have up:∀b o,G3 b=some o->b≠p->H8 b=some o:=fun b o e h1=>s8 _ _ (q4 _ _ _ (CP _ _ e) h1);have Tl:H D3=none:=d3.free (jz Kz) Tg KA;have Wx:∀b o,G2 b=some o->b≠p->b≠Pt->H8 b=some o:=fun b o e h1 h2=>up _ _ (q3 _ _ (AE _ _ e h2) h1) h1;refine k H8 ⟨fi,dx,tl,D2,D3,s8 _ _ ag,Tf,Tl,⟨bs,up _ _ Th (dM Th Kz (by intro z;cases z)),Tb,QS.mono fun j hj e=>up _ _ e (dM e Kz (by intro z;cases z))⟩,
       ⟨ds,s8 _ _ (q4 _ _ _ uW (dM uW Oo (by intro z;cases z))),Ti,hd.mono fun j hj e=>s8 _ _ (q4 _ _ _ e (dM e Oo (by intro z;cases z)))⟩,
       ⟨S9,Ma,Wx _ _ Ww Kv.symm (Kx.not Ww (by intro ps z;cases z)),fun z hz=>Wx _ _ (Ta z hz) (dM (Ta z hz) Kw (by intro z;cases z)) (Kx.not (Ta z hz) (by intro ps z;cases z)),Jn,((show (zp Ma).Perm (zp Wv) from pm.map _).trans (sC ez)),Zp⟩⟩ ?_ fun b o e h1 h2=>up _ _ (d3 _ _ e h1 h2) h1
      exact Tg.mono up Kz
end
noncomputable def DS(n:Nat)(ts:Ts)(i j:Nat):List Nat:=(c_ n ts i).filter fun o=>decide (far ts o j<far ts i j)
theorem Zv:(["other","self","home","own"]:List Str).Nodup:=by decide +kernel
theorem iy:NV xs++[.int (x:Int)]=NV (xs++[x]):=by unfold NV;rw[dI];rfl
theorem iG{xs:List Nat}{i:Nat}{x:V}(h:(NV xs)[i]?=some x):∃y,xs[i]?=some y/\x=.int (y:Int):=by
 unfold NV at h;rw[bi] at h;cases e:xs[i]? with
 |none=>rw[e] at h;cases h
 |some z=>rw[e] at h;exact⟨z,rfl,(bt h).symm⟩
section
variable {P:Program} {w:World} {K:PySem.W.Frag} {mg:Str->Option Value} {base:Heap}
theorem DT:aE ["self","house","home","own"] ["self","house","home"] (aj DH):=⟨rfl,rfl,rfl,by decide +kernel,rfl,by decide +kernel,by decide +kernel⟩
def yu(K:PySem.W.Frag)(C CE:Addr):Sp:=fun vs H Q E=>∃ (L:Addr->Prop) (p:Addr) (n:Nat) (ts:Ts) (x:V) (o:Option Int) (y:V) (o':Option Int),vs=[.ref p,x,y]/\dL C H L p n ts/\Wh K H x o/\Wh K H y o'/\(aJ o 0 ((n:Int)-1)=false\/aJ o' 0 ((n:Int)-1)=false->E (.ref CE) none H)/\
 ∀i j:Nat,i<n->j<n->o=some (i:Int)->o'=some (j:Int)->∀r H',aV H H'->H r=none->H' r=some (.lst (NV (DS n ts i j)))->Q (.ref r) H'
theorem GE{f C CE:Addr}{fd:FuncData}(F:eJ K "good" "Net.good" DH f fd)(T:NT K mg C)(M:eX P w K mg base (dZ P w) 5 C "far" ["self","one","other"] (z0 K C CE)):
  be P w K mg base (dZ P w) 6 f fd ["self","house","home"] (yu K C CE):=by
 obtain⟨fM,QL,mM,bM,GM⟩:=M.ex;refine F.FT DT (fun vs H Q E h=>?_) (fun cm A outer s H vs Q E hr h=>?_)
 .obtain⟨L,p,n,ts,x,o,y,o',rfl,_⟩:=h;rfl
 .obtain⟨L,p,n,ts,x,o,y,o',rfl,N,wh,Oc,k1,k2⟩:=h;obtain⟨dx,tl,ol,ds,h1,_,_,RO,R,_⟩:=N.ob;have fi:=N.qK;have n2:=fi.n2;refine'⟨_,ah (aK (i:=3) DT.nd rfl (Or.inr rfl) (dQ (pv 0) T.cl mM GM hr bM .nil (pI (E':=E) fun _ _ _ z=>z) (aa (pv 1) (aa (pv 2) af))))
   (ak (aN ?c)),?_⟩
  case c=>
   refine' dC (g:=bp 0) (tt:=y4 (qE (yX fun i j=>.bl (decide (i<j))) (qE (FF K) (qE (FF K) (Ju K (bU 1) "distances") (bU 0)) (bU 2)) (bU 3))) (te:=bU 0) (NB:=["other","self","home","own"]) (src:=[none,some 0,some 2,some 3]) (cS (by kernel_rfl)) rfl (dh (cy bj (dF (pv 0) rfl) (pv 1) (fun _ _=>rfl))) ?g ?t ?e;case g=>exact fun cl C s₃ H₃ fp=>aB (i:=0) Zv rfl (Or.inl rfl) (Or.inr rfl)
   case t=>exact fun cl C s₃ H₃ fp=>jv (a8 vd (cy bj (cy bj (dF (pv 1) rfl) (pv 0) (fun _ _=>rfl)) (pv 2) (fun _ _=>rfl)) (pv 3) (bb _))
   case e=>exact fun cl C s₃ H₃ fp=>pv 0
  refine⟨_,rfl,p,dx,_,rfl,h1,N_ _ _ _ _,_,rfl,_,rfl,L,p,n,ts,x,o,y,o',rfl,N,wh,Oc,k1,fun i j hi hj ei ej=>?_⟩;subst ei;subst ej;obtain rfl:=jf wh;obtain rfl:=jf Oc;obtain⟨bs,b,r1,r2,r3,_⟩:=RO.row hi;refine⟨_,rfl,p,C,dx,_,_,rfl,h1,T.cl,T.nO,zY _ _ _ _,_,rfl,ol,_,_,_,rfl,rfl,a_.of r1,bf r2,b,rfl,⟨_,a_.of r3⟩,fun D hD=>?_⟩;have nb:b≠D:=am r3 hD;refine eE (xs:=NV (c_ n ts i)) (fun m ys σ H2=>(∃a,σ=[a,some (.ref p),some (.int (j:Int)),some (.int ((far ts i j:Nat):Int))])/\ys=NV (((c_ n ts i).take m).filter fun o=>decide (far ts o j<far ts i j))/\H2=upd H D (.lst ys)) ⟨⟨_,rfl⟩,by simp,rfl⟩ (fun m ys σ H2 _ ⟨_,_,e⟩=>by rw[e];exact a_.of (by rw[ao nb];exact r3)) ?_ ?_
  .rintro m x ys σ H2 Kt Kf hx ⟨⟨a,rfl⟩,ey,rfl⟩ kt kf;obtain⟨v,hv,rfl⟩:=iG hx;have QO:v∈c_ n ts i:=cT hv;have L_:v<n:=lE fi hi QO;have sm:aV H (upd H D (.lst ys)):=ai hD;obtain⟨bs2,b2,q1,q2,q3,_⟩:=R.row L_;have hg:(NV ((List.range n).map (far ts v)))[j]?=some (.int (far ts v j:Nat)):=by
    rw[bi,bi,rT hj];rfl
   have tk:(c_ n ts i).take (m+1)=(c_ n ts i).take m++[v]:=by rw[eL,hv];rfl
   have hm:m<(c_ n ts i).length:=(cL.mp hv).1;refine⟨_,rfl,p,C,dx,_,_,rfl,sm _ _ h1,T.cl,T.nD,zZ _ _ _ _,_,rfl,ds,_,_,_,rfl,rfl,a_.of (sm _ _ q1),bf q2,_,rfl,b2,_,_,_,rfl,rfl,a_.of (sm _ _ q3),bf hg,_,rfl,_,_,rfl,rfl,_,rfl,?_⟩;refine mx (fun e=>?_) (fun e=>?_)
   .refine⟨_,rfl,kt _ _ _ ag ?_ ⟨⟨_,rfl⟩,?_,by rw[k_]⟩⟩
    .rw[ey,aW];refine du (iN _ _) (du (List.length_take_le _ _) (bz (show m<33 from ?_) (by decide)));have:(c_ n ts i).length<=n:=aY (iN _ _) (by simp);lia
    .have:decide (far ts v j<far ts i j)=true:=by simp at e |-;lia
     rw[ey,tk,iO,iy];simp[eN,this]
   .refine kf _ _ ⟨⟨_,rfl⟩,?_,rfl⟩;have:decide (far ts v j<far ts i j)=false:=by simp at e |-;lia
    rw[ey,tk,iO];simp[eN,this]
  .rintro ys σ H2 ⟨_,ey,rfl⟩;rw[aW,fz] at ey;refine k2 i j hi hj rfl rfl D _ (ai hD) hD ?_;rw[ag,ey];rfl
end
end pV
namespace L2
open PySem PySem.Spec PyProof.Rows
section
variable {X:Cx}
def Fg(X:Cx)(H:Hp)(d:Nat)(x y:V):Prop:=∀ (ae:List (Addr×Obj)) (s:Shared) (σ:St) (A:Around) (u v:Value),aF X ae σ H s->A.units+d<cLine->bA x u->bA y v->SeqAt.EqAt A s u v true
theorem lH:Fg X H 0 (.int i) (.int i):=by
 intro ae s σ A u v I hu rx ry;have h:=xO (A:=A) (s:=s) rx ry rfl rfl;rw[show E9 (.int i) (.int i)=true by show decide (i=i)=true;simp] at h;exact h
theorem jA(I:aF X ae σ H s)(hu:A.units+d<cLine)(rx:aP xs us)(ry:aP ys vs)(he:∀i,i<xs.length->i<ys.length->Fg X H d (xs.getD i .bV) (ys.getD i .bV)):∀j (h1:j<us.toArray.size) (h2:j<vs.toArray.size),SeqAt.EqAt A s us.toArray[j] vs.toArray[j] true:=by
 intro j h1 h2;have j1:j<xs.length:=by rw[rx.length];simpa using h1
 have j2:j<ys.length:=by rw[ry.length];simpa using h2
 have e1:xs[j]?=some (xs.getD j .bV):=by rw[dY,cV j1];rfl
 have e2:ys[j]?=some (ys.getD j .bV):=by rw[dY,cV j2];rfl
 obtain⟨u,Zw,ru⟩:=rx.get e1;obtain⟨v,BH,rv⟩:=ry.get e2;have eu:us.toArray[j]=u:=by
  have:us[j]?=some us.toArray[j]:=by simp at h1 |-
  rw[Zw] at this;exact(bt this).symm
 have ev:vs.toArray[j]=v:=by
  have:vs[j]?=some vs.toArray[j]:=by simp at h2 |-
  rw[BH] at this;exact(bt this).symm
 rw[eu,ev];exact he j j1 j2 ae s σ A u v I hu ru rv
theorem lI:(List.range n).all (fun _=>true)=true:=iQ.mpr fun _ _=>rfl
theorem GJ{H:Hp}{d:Nat}{a b:Addr}{xs ys:List V}(ha:cI X.K H a xs)(hb:cI X.K H b ys)(hl:xs.length=ys.length)(he:∀i,i<xs.length->i<ys.length->Fg X H d (xs.getD i .bV) (ys.getD i .bV)):Fg X H (d+1) (.ref a) (.ref b):=by
 intro ae s σ A u v I hu rx ry;obtain rfl:u=Value.ref a:=rx;obtain rfl:v=Value.ref b:=ry;by_cases J_:a=b
 .subst J_;exact SeqAt.EqAt.same _
 obtain⟨us,r1,p1,_⟩:=I.tuple ha;obtain⟨vs,r2,p2,_⟩:=I.tuple hb;refine SeqAt.EqAt.of_refs J_ ?_;have h:=SeqAt.RcAt.tuples (A:=A) (s:=s) (l:=a) (b:=b) (e:=fun _=>true) (show s.heap.IsTuple a us.toArray from p1) (show s.heap.IsTuple b vs.toArray from p2) (by lia) (jA I (by show A.units+1+d<cLine;lia) r1 r2 he);rw[lI] at h;have e:(us.toArray.size==vs.toArray.size)=true:=by simp only[cs];rw[<-r1.length,<-r2.length,hl];simp
 rw[e] at h;exact h
def Tn(X:Cx)(neg:Bool)(d:Nat):R2:=fun x y H Q=>∃p q xs ys,x=.ref p/\y=.ref q/\cI X.K H p xs/\cI X.K H q ys/\xs.length=ys.length/\(∀i,i<xs.length->i<ys.length->Fg X H d (xs.getD i .bV) (ys.getD i .bV))/\Q (.bl (!neg)) H
theorem ut{d:Nat}(hu:X.A.units+(d+1)<cLine):lR X (compareOp .NotEq) (Tn X true d):=by
 intro ae s σ H x y v u Q I rx ry h;obtain⟨p,q,xs,ys,rfl,rfl,hp,hq,hl,he,k⟩:=h;obtain rfl:v=Value.ref p:=rx;obtain rfl:u=Value.ref q:=ry;obtain⟨us,r1,p1,_⟩:=I.tuple hp;obtain⟨vs,r2,p2,_⟩:=I.tuple hq;have e:(us.toArray.size==vs.toArray.size)=true:=by simp only[cs];rw[<-r1.length,<-r2.length,hl];simp
 refine SeqAt.RcNeAt.tuples (e:=fun _=>true) (show s.heap.IsTuple p us.toArray from p1) (show s.heap.IsTuple q vs.toArray from p2) (by lia) (jA I (by show X.A.units+1+d<cLine;lia) r1 r2 he) _ _ _ _ ⟨.bl _,H,I,rfl,?_⟩;rw[lI,e];exact k
def ID(X:Cx)(neg:Bool)(d:Nat):R2:=fun x y H Q=>∃p q xs ys,x=.ref p/\y=.ref q/\a_ X.K H p xs/\a_ X.K H q ys/\xs.length=ys.length/\(∀i,i<xs.length->i<ys.length->Fg X H d (xs.getD i .bV) (ys.getD i .bV))/\Q (.bl (!neg)) H
theorem og{d:Nat}(hu:X.A.units+(d+1)<cLine):lR X (compareOp .NotEq) (ID X true d):=by
 intro ae s σ H x y v u Q I rx ry h;obtain⟨p,q,xs,ys,rfl,rfl,hp,hq,hl,he,k⟩:=h;obtain rfl:v=Value.ref p:=rx;obtain rfl:u=Value.ref q:=ry;obtain⟨us,r1,p1,_⟩:=I.list hp;obtain⟨vs,r2,p2,_⟩:=I.list hq;refine SeqAt.RcNeAt.lists (e:=fun _=>true) p1.isList p2.isList (by simp only[cs];rw[<-r1.length,<-r2.length];exact hl) (by lia) (jA I (by show X.A.units+1+d<cLine;lia) r1 r2 he) _ _ _ _ ⟨.bl _,H,I,rfl,?_⟩;rw[lI];exact k
end
end L2
namespace pV
open PySem L2 iI
section
variable {P:Program} {w:World} {K:PySem.W.Frag} {mg:Str->Option Value} {base:Heap}
theorem KB:aE ["self"] ["self"] (aj DE):=⟨rfl,rfl,rfl,by decide +kernel,rfl,by decide +kernel,by decide +kernel⟩
def yv(C:Addr):Sp:=fun vs H Q _=>∃ (L:Addr->Prop) (p:Addr) (n:Nat) (ts:Ts),vs=[.ref p]/\dL C H L p n ts/\Q (.int n) H
theorem GK{f C:Addr}{fd:FuncData}(F:eJ K "many" "Net.many" DE f fd)(T:NT K mg C):be P w K mg base br 1 f fd ["self"] (yv C):=by
 refine F.ok KB (fun vs H Q E h=>?_) (fun cm A outer s H vs Q E hr h=>?_)
 .obtain⟨L,p,n,ts,rfl,_⟩:=h;rfl
 .obtain⟨L,p,n,ts,rfl,N,k⟩:=h;obtain⟨dx,tl,ol,ds,h1,_⟩:=N.ob;refine⟨_,ak (aN (dF (pv 0) rfl)),?_⟩;exact⟨_,rfl,p,C,dx,_,_,rfl,h1,T.cl,T.nH,zX _ _ _ _,k⟩
theorem KC:aE ["self"] ["self"] (aj DG):=⟨rfl,rfl,rfl,by decide +kernel,rfl,by decide +kernel,by decide +kernel⟩
def yw(C:Addr):Sp:=fun vs H Q _=>∃ (L:Addr->Prop) (p:Addr) (n:Nat) (ts:Ts),vs=[.ref p]/\dL C H L p n ts/\∀ (r:Addr) (zs:Zs) (H':Hp),aV H H'->H r=none->H' r=some (.lst (zr zs))->PO H zs->(zp zs).Perm ts->Kc (zp zs)->Q (.ref r) H'
theorem GL{f C:Addr}{fd:FuncData}(F:eJ K "ties" "Net.ties" DG f fd)(T:NT K mg C)(B:Bl mg):be P w K mg base br 1 f fd ["self"] (yw C):=by
 refine F.ok KC (fun vs H Q E h=>?_) (fun cm A outer s H vs Q E hr h=>?_)
 .obtain⟨L,p,n,ts,rfl,_⟩:=h;rfl
 .obtain⟨L,p,n,ts,rfl,N,k⟩:=h;obtain⟨dx,tl,ol,ds,h1,_,_,_,_,_,zs,z1,z2,_,z3,z4⟩:=N.ob;refine⟨_,ak (aN (di ik (by rfl) B.lst oB (aa (dF (pv 0) rfl) af))),?_⟩;exact⟨_,rfl,p,C,dx,_,_,rfl,h1,T.cl,T.nT,Go _ _ _ _,tl,_,rfl,.inl (a_.of z1),fun l hl=>k l zs _ (ai hl) hl ag z2 z3 z4⟩
end
end pV
namespace L2
open PySem PySem.Spec PyProof.Rows
theorem yx{X:Cx}:Qp X .Mult (fun x y H Q=>∃i j,x=.int i/\y=.int j/\Fp i j/\Q (.int (i*j)) H):=by
 intro ae s σ H x y v u Q I r1 r2 h;obtain⟨i,j,e1,e2,c,q⟩:=h;subst e1;subst e2;obtain⟨t,rfl⟩:=r1;obtain⟨t',rfl⟩:=r2;exact imul_int ⟨.int _,H,I.tok _,⟨_,rfl⟩,q⟩ c.ok
end L2
namespace pV
open PySem L2 iI
abbrev DU:Stmt:=gK 36
abbrev uv:Stmt:=gK 37
abbrev uw:Stmt:=gK 38
abbrev ux:Stmt:=gK 39
abbrev DV:Stmt:=gK 40
def rC(ns:List Nat):Nat:=ns.foldl (·*·) 1
theorem yy{ns:List Nat}{x:Nat}:rC (ns++[x])=rC ns*x:=by unfold rC;rw[List.foldl_append];rfl
theorem DW{ns:List Nat}:rC ns=pr ns:=by
 have go:∀ (l:List Nat) (a:Nat),l.foldl (·*·) a=a*pr l:=fun l=>by
  induction l with
  |nil=>intro a;exact(l_ a).symm
  |cons x l ih=>intro a;rw[sB,ih];show a*x*pr l=a*(x*pr l);rw[oV]
 unfold rC;rw[go,sQ]
theorem gJ.weak{H:Hp}{L L':Addr->Prop}{l:Addr}{n:Nat}{r:Nat->List Nat}(R:gJ H L l n r)(h:∀a,L a->L' a):gJ H L' l n r:=let ⟨bs,a,b,c⟩:=R;⟨bs,a,fun x hx=>h _ (b x hx),c⟩
theorem dL.weak{C:Addr}{H:Hp}{L L':Addr->Prop}{p:Addr}{n:Nat}{ts:Ts}(N:dL C H L p n ts)(h:∀a,L a->L' a):dL C H L' p n ts:=
 let ⟨dx,tl,ol,ds,a,l1,l2,b,c,d1,zs,d2,d3,d4,d5⟩:=N.ob
 ⟨N.qK,dx,tl,ol,ds,a,h _ l1,h _ l2,b.weak h,c.weak h,h _ d1,zs,d2,d3,fun z hz=>h _ (d4 z hz),d5⟩
def iH(H:Hp)(D:Addr)(ts:Ts)(H2:Hp):Prop:=aV H H2/\∃zs:Zs,H2 D=some (.lst (zr zs))/\PO H2 zs/\zp zs=ts
theorem iH.add{H H2:Hp}{D t:Addr}{ts:Ts}{u:Int×Int}{zs:Zs}(hD:H D=none)(sm:aV H H2)(h1:H2 D=some (.lst (zr zs)))(po:PO H2 zs)(ez:zp zs=ts)(ht:H2 t=none):iH H D (ts++[u]) (upd (upd H2 t (L8 u)) D (.lst (zr zs++[.ref t]))):=by
 have nD:D≠t:=am h1 ht;refine⟨cH (sm.trans (ai ht)) hD,zs++[(t,u)],by rw[ag,rA];rfl,?_,?_⟩
 .refine PO.putL (xs:=zr zs) ?_ (by rw[ao nD];exact h1);exact(po.putN ht).append (PO.one ag)
 .rw[rB,ez];rfl
section
variable {P:Program} {w:World} {K:PySem.W.Frag} {mg:Str->Option Value} {base:Heap}
abbrev Bd(C Pt:Addr)(H:Hp)(n:Nat)(ts:Ts)(Q:VK):Prop:=∀ (p:Addr) (H':Hp),H p=none->dL C H' (fun a=>H a=none) p n ts->iL Pt H'->ni Pt H H'->Q (.ref p) H'
theorem ji:aE ["many","pairs","ties","pair","one","other"] ["many","pairs"] (aj uv):=⟨rfl,rfl,rfl,by decide +kernel,rfl,by decide +kernel,by decide +kernel⟩
def pY(C Pt:Addr):Sp:=fun vs H Q _=>∃ (n:Nat) (l:Addr) (zs:Zs),vs=[.int n,.ref l]/\H l=some (.lst (zr zs))/\PO H zs/\iJ n (kM (zp zs))/\iL Pt H/\Bd C Pt H n (kM (zp zs)) Q
theorem Be{f C Pt fI:Addr}{fd Op:FuncData}(F:eJ K "pairs_net" "pairs_net" uv f fd)(B:Bl mg)(T:NT K mg C)(M:Mk K C fI)(bI:dJ K Op ["self","many","ties"] [])(GI:be P w K mg base br 7 fI Op ["self","many","ties"] (yt C Pt))(R:cP P w K mg base br 1 "is_row" ["thing","length"] (vX K)):
  be P w K mg base br 9 f fd ["many","pairs"] (pY C Pt):=by
 refine F.ok ji (fun vs H Q E h=>?_) (fun cm A outer s H vs Q E hr h=>?_)
 .obtain⟨n,l,zs,rfl,_⟩:=h;rfl
 .obtain⟨n,l,zs,rfl,hl,po,fi,tb,k⟩:=h;have h1:bK 1 _:=hr.mono (by decide);refine⟨_,ah (bZ (et (dE (av eT (by rfl) B.rq dG (aa (pv 1) (aa (gh (v:=.ty "list") rfl B.lst oB rfl) af))))) dg aX)
   (ah (aK (i:=2) ji.nd rfl (Or.inl rfl) (bX af))
   (ah (cG d8 rfl (dh (pv 1)) (aB (i:=3) ji.nd rfl (Or.inl rfl))
    (ah (bZ (et (dE (aH R h1 aO (aa (pv 3) (aa az af))))) dg aX)
    (ah (mh (pv 3) (dO (n:=2) rfl (aU (aB (i:=4) ji.nd rfl (Or.inl rfl)) (aU (aB (i:=5) ji.nd rfl (Or.inl rfl)) cU))))
    (ah (b_ (lr kQ kP kO cQ (pv 2) (aa (fV (aa (pv 4) (aa (pv 5) af))) af)))
    (ak (b_ (lr kQ kP kO cQ (pv 2) (aa (fV (aa (pv 5) (aa (pv 4) af))) af))))))))
   (ak (aN (y_ M GI hr rfl T.QK bI .nil aO (aa (pv 0) (aa (pv 2) af))))))),?_⟩
  have eD:2*zs.length<=256:=by have:=fi.len;rw[ue,bD] at this;exact this
  refine⟨_,rfl,_,_,_,.type "list",true,rfl,⟨rfl,vY⟩,.of (.lst hl),_,rfl,ku ?_⟩;refine⟨by show 0<=sizeLine;decide,fun D hD=>?_⟩;refine⟨_,rfl,l,rfl,⟨_,a_.of (ai hD _ _ hl)⟩,lf (K:=K) (xs:=zr zs) (fun i σ H2=>(∃x3 x4 x5,σ=[some (.int n),some (.ref l),some (.ref D),x3,x4,x5])/\iH H D (kM ((zp zs).take i)) H2) ⟨⟨_,_,_,rfl⟩,ai hD,[],ag,PO.nil,rfl⟩ (fun i σ H2 _ z=>a_.of (z.2.1 _ _ hl)) ?_ ?_⟩
  .rintro i x σ H2 hx ⟨⟨x3,x4,x5,rfl⟩,A_,ys,hy,IE,ey⟩;obtain⟨z,hz,rfl⟩:=pW hx;have hi:i<zs.length:=(cL.mp hz).1;have ha:=A_ _ _ (po z (cT hz));have Oq:ys.length<=256:=by rw[<-bD,ey,ue,fA,bD];lia
   refine⟨_,rfl,_,_,_,rfl,.tup ha,_,rfl,ku ?_⟩;refine⟨_,rfl,_,_,rfl,cI.of ha,rfl,_,_,rfl,_,_,rfl,rfl,?_⟩;refine⟨_,rfl,.inl ⟨rfl,_,a_.of hy⟩,_,rfl,_,rfl,by show 2<=sizeLine;decide,fun t ht=>?_⟩;refine⟨D,_,_,rfl,rfl,ai ht _ _ hy,by rw[eH];exact du Oq (by decide),?_⟩;obtain⟨IC,Zx,Tp,Ku,Wy⟩:=iH.add (u:=z.2) hD A_ hy IE ey ht;have Tq:Zx.length=ys.length+1:=by rw[<-bD,Wy,<-ey,cD,bD];rfl
   generalize upd (upd H2 t _) D _=H3 at *;refine⟨_,rfl,.inl ⟨rfl,_,a_.of Tp⟩,_,rfl,_,rfl,by show 2<=sizeLine;decide,fun t2 KE=>?_⟩;refine⟨D,_,_,rfl,rfl,ai KE _ _ Tp,by rw[eH,Tq];exact du (Nat.succ_le_succ Oq) (by decide),⟨_,_,_,rfl⟩,?_⟩;have P4:=iH.add (u:=zO z.2) hD IC Tp Ku Wy KE;have e2:(zp zs)[i]?=some z.2:=by unfold zp;rw[bi,hz];rfl
   rw[eL,e2,Option.toList_some,yk];rw[iP] at P4;exact P4
  .rintro σ H2 ⟨⟨x3,x4,x5,rfl⟩,A_,ys,hy,IE,ey⟩;rw[eH,<-bD,fz] at ey;refine⟨_,rfl,_,rfl,fun px dx nx QT QU=>?_⟩;have sN:aV H2 (upd (upd H2 dx (.own px)) px (.ins C dx [])):=(ai (o:=.own px) QT).trans (ai (D:=px) (o:=.ins C dx []) (by rw[ao QU.symm];exact nx));have Zy:(upd (upd H2 dx (.own px)) px (.ins C dx [])) px=some (.ins C dx []):=ag;have sM:=A_.trans sN;generalize upd (upd H2 dx (.own px)) px (.ins C dx [])=HM at *;have TM:eI HM D n ys:=⟨by rw[ey];exact fi,sN _ _ hy,IE.same sN⟩
   refine⟨px,dx,n,D,ys,rfl,Zy,TM,tb.same sM,fun H7 N7 t7 s7=>⟨rfl,?_⟩⟩;have Wz:H px=none:=A_.free nx;rw[ey] at N7;exact k px H7 Wz (N7.weak fun a ha=>sM.free ha) t7 fun b o e h=>s7 _ _ (sM _ _ e) (am e Wz) h
theorem rD{o:Option Int}{a b:Nat}(h:aJ o a b=true):∃n:Nat,a<=n/\n<=b/\o=some (n:Int):=by
 cases o with
 |none=>cases h
 |some i=>
  unfold aJ at h;simp at h;exact⟨i.toNat,by lia,by lia,by congr 1;lia⟩
theorem Bd.same{C Pt:Addr}{H H1:Hp}{n:Nat}{ts:Ts}{Q:VK}(k:Bd C Pt H n ts Q)(s:aV H H1):Bd C Pt H1 n ts Q:=fun p H' hp N t st=>k p H' (s.free hp) (N.weak fun a ha=>s.free ha) t fun b o e h=>st _ _ (s _ _ e) h
end
inductive Sd (K:PySem.W.Frag) (H:Hp):V->Option (List (Option Int))->Prop where
 |tup {p:Addr} {xs:List V} {os:List (Option Int)} (h:H p=some (.tup xs)) (hl:xs.length=os.length) (e:∀ (i:Nat) x o,xs[i]?=some x->os[i]?=some o->Wh K H x o):Sd K H (.ref p) (some os)
 |no {x:V} {t:Value} (ty:JK K H x t) (h:PySem.W.kitOne K t (.type "tuple")=some false):Sd K H x none
def iK(os:List (Option Int)):List Nat:=os.map fun o=>(o.getD 0).toNat
def v3:Option (List (Option Int))->Option (List Nat)
 |none=>none
 |some os=>if decide (1<=os.length)&&(decide (os.length<=5)&&(os.all (fun o=>aJ o 2 8)&&decide (pr (iK os)<=32))) then some (iK os) else none
theorem v4{os:List (Option Int)}{ns:List Nat}(h:v3 (some os)=some ns):ns=iK os/\1<=ns.length/\ns.length<=5/\(∀x∈ns,2<=x/\x<=8)/\pr ns<=32/\os=ns.map fun (n:Nat)=>some (n:Int):=by
 unfold v3 at h;dsimp only at h;by_cases c:(decide (1<=os.length)&&(decide (os.length<=5)&&(os.all (fun o=>aJ o 2 8)&&decide (pr (iK os)<=32))))=true
 .rw[aq c] at h;simp only[gT,oI,iQ] at c;obtain⟨c1,c2,c3,c4⟩:=c;obtain rfl:=bt h;have ex:∀o∈os,∃n:Nat,2<=n/\n<=8/\o=some (n:Int):=fun o ho=>rD (a:=2) (b:=8) (c3 o ho);refine⟨rfl,by unfold iK;rw[aZ];exact c1,by unfold iK;rw[aZ];exact c2,fun x hx=>?_,c4,?_⟩
  .obtain⟨o,ho,rfl⟩:=bu.mp hx;obtain⟨n,n1,n2,rfl⟩:=ex o ho;exact⟨by show 2<=(n:Int).toNat;lia,by show (n:Int).toNat<=8;lia⟩
  .unfold iK;rw[eO];conv=>lhs;rw[<-ic os]
   refine kT fun o ho=>?_;obtain⟨n,n1,n2,rfl⟩:=ex o ho;show some (n:Int)=some (((n:Int).toNat:Nat):Int);exact congrArg some (by lia)
 .rw[au c] at h;cases h
section
variable {P:Program} {w:World} {K:PySem.W.Frag} {mg:Str->Option Value} {base:Heap}
theorem uy:aE ["numbers","result","number"] ["numbers"] (aj DV):=⟨rfl,rfl,rfl,by decide +kernel,rfl,by decide +kernel,by decide +kernel⟩
def pZ(K:PySem.W.Frag):Sp:=fun vs H Q _=>∃ (a:Addr) (ns:List Nat),vs=[.ref a]/\cI K H a (NV ns)/\(∀x∈ns,x<=1000)/\Q (.int (pr ns)) H
theorem GQ{f:Addr}{fd:FuncData}(F:eJ K "product" "product" DV f fd):be P w K mg base br 1 f fd ["numbers"] (pZ K):=by
 refine F.ok uy (fun vs H Q E h=>?_) (fun cm A outer s H vs Q E hr h=>?_)
 .obtain⟨a,ns,rfl,_⟩:=h;rfl
 .obtain⟨a,ns,rfl,hS,hx,k⟩:=h;refine⟨_,ah (aK (i:=1) uy.nd rfl (Or.inl rfl) az)
   (ah (cG d8 rfl (mj (pv 0)) (aB (i:=2) uy.nd rfl (Or.inl rfl)) (ak (mi (i:=1) uy.nd rfl (Or.inl rfl) (pv 2) yx)))
   (ak (aN (pv 1)))),?_⟩
  refine⟨_,rfl,a,rfl,⟨_,hS⟩,jq (K:=K) (xs:=NV ns) (fun i σ H2=>H2=H/\∃x,σ=[some (.ref a),some (.int (rC (ns.take i))),x]) ⟨rfl,_,rfl⟩ (fun i σ H2 _ z=>by rw[z.1];exact hS) ?_ ?_⟩
  .rintro i x σ H2 AJ ⟨rfl,y,rfl⟩;obtain⟨v,hv,rfl⟩:=iG AJ;have h1:=hx v (cT hv);refine⟨_,rfl,_,rfl,_,_,rfl,rfl,.inr ⟨by lia,by lia⟩,rfl,some (.int v),?_⟩;have tk:ns.take (i+1)=ns.take i++[v]:=by rw[eL,hv];rfl
   rw[tk,yy];rfl
  .rintro σ H2 ⟨rfl,x,rfl⟩;rw[aW,fz,DW];exact⟨_,rfl,k⟩
end
end pV
namespace iI
def IF(m:Nat)(ns:List Nat)(i:Nat):List (Nat×Nat):=(List.range i).flatMap fun j=>qJ m (pr (ns.take j)) (ns.getD j 0)
theorem j3{α:Type}{f:Nat->List α}{n:Nat}:(List.range (n+1)).flatMap f=(List.range n).flatMap f++f n:=by
 rw[lZ,List.flatMap_append];simp
theorem iz:∀ {ns:List Nat} {x:Nat},pr (ns++[x])=pr ns*x
 |[],x=>by show x*1=1*x;lia
 |n::ns,x=>by show n*pr (ns++[x])=n*pr ns*x;rw[iz,oV]
theorem DX{m:Nat}:∀ {ns:List Nat} {st:Nat},bx m st ns=(List.range ns.length).flatMap fun j=>qJ m (st*pr (ns.take j)) (ns.getD j 0)
 |[],st=>rfl
 |n::ns,st=>by
  show qJ m st n++bx m (st*n) ns=_;rw[cM,wS,List.flatMap_cons,DX (ns:=ns)];congr 1
  .show qJ m st n=qJ m (st*1) n;rw[l_]
  .rw[List.flatMap_map];congr 1;funext j;show _=qJ m (st*(n*pr (ns.take j))) (ns.getD j 0);rw[oV]
end iI
namespace pV
open PySem L2 iI
section
variable {P:Program} {w:World} {K:PySem.W.Frag} {mg:Str->Option Value} {base:Heap}
theorem lJ{os:List (Option Int)}(h:(decide (1<=os.length)&&(decide (os.length<=5)&&(os.all (fun o=>aJ o 2 8)&&decide (pr (iK os)<=32))))=false):v3 (some os)=none:=by
 unfold v3;dsimp only;rw[h];rfl
theorem KG{os:List (Option Int)}(h:(decide (1<=os.length)&&(decide (os.length<=5)&&(os.all (fun o=>aJ o 2 8)&&decide (pr (iK os)<=32))))=true):v3 (some os)=some (iK os):=by
 unfold v3;dsimp only;rw[h];rfl
theorem Sd.nums{H:Hp}{p:Addr}{os:List (Option Int)}{xs:List V}(h:H p=some (.tup xs))(hl:xs.length=os.length)(e:∀ (i:Nat) x o,xs[i]?=some x->os[i]?=some o->Wh K H x o)(ha:os.all (fun o=>aJ o 2 8)=true):xs=NV (iK os)/\∀x∈iK os,2<=x/\x<=8:=by
 have ex:∀o∈os,∃n:Nat,2<=n/\n<=8/\o=some (n:Int):=fun o ho=>rD (a:=2) (b:=8) (iQ.mp ha o ho);refine⟨xg fun i=>?_,fun x hx=>?_⟩
 .unfold NV iK;rw[bi,bi];cases c:xs[i]? with
  |none=>
   have:os[i]?=none:=by
    rw[List.getElem?_eq_none_iff] at c |-;lia
   rw[this];rfl
  |some x=>
   have hi:i<os.length:=by have:=(cL.mp c).1;lia
   have c2:os[i]?=some os[i]:=cV hi;obtain⟨n,n1,n2,e3⟩:=ex os[i] (eM hi);have wh:=e i x _ c c2;rw[c2,e3] at *;obtain rfl:=jf wh;show some (V.int (n:Int))=some (V.int (((n:Int).toNat:Nat):Int));rw[rZ]
 .obtain⟨o,ho,rfl⟩:=bu.mp hx;obtain⟨n,n1,n2,rfl⟩:=ex o ho;exact⟨by show 2<=(n:Int).toNat;lia,by show (n:Int).toNat<=8;lia⟩
theorem v6:aE ["sides","side"] ["sides"] (aj uw):=⟨rfl,rfl,rfl,by decide +kernel,rfl,by decide +kernel,by decide +kernel⟩
def p8(K:PySem.W.Frag)(CS:Addr):Sp:=fun vs H Q E=>∃ (x:V) (o:Option (List (Option Int))),vs=[x]/\Sd K H x o/\(v3 o=none->E (.ref CS) none H)/\(∀ns,v3 o=some ns->Q .bV H)
theorem Bg{f CS:Addr}{fd:FuncData}(F:eJ K "check_sides" "check_sides" uw f fd)(B:Bl mg)(e:Er K mg "NoShape" CS)(gM:∃t,mg "MOST_SIDES"=some (.int 5 t))(gS:∃t,mg "SHORTEST_SIDE"=some (.int 2 t))(gL:∃t,mg "LONGEST_SIDE"=some (.int 8 t))(gH:∃t,mg "MOST_HOUSES"=some (.int 32 t))(W:cP P w K mg base br 2 "is_whole_within" ["thing","least","most"] (jd K))(PR:cP P w K mg base br 1 "product" ["numbers"] (pZ K)):be P w K mg base (dZ P w) 3 f fd ["sides"] (p8 K CS):=by
 obtain⟨tM,gM⟩:=gM;obtain⟨tS,gS⟩:=gS;obtain⟨tL,gL⟩:=gL;obtain⟨tH,gH⟩:=gH;refine F.FT v6 (fun vs H Q E h=>?_) (fun cm A outer s H vs Q E hr h=>?_)
 .obtain⟨x,o,rfl,_⟩:=h;rfl
 .obtain⟨x,o,rfl,sd,k1,k2⟩:=h;have h1:bK 1 _:=hr.mono (by decide);refine⟨_,ah (bZ (PW.pt (va (et (dE (av eT (by rfl) B.rq dG (aa (pv 0) (aa (gh (v:=.ty "tuple") rfl B.tup oo rfl) af))))) (pc (et (dE (aH W hr aO (aa (av aS (by rfl) B.len d9 (aa (pv 0) af)) (aa az (aa (bW (v:=.int 5) rfl gM ⟨_,rfl⟩) af))))))))) (ak (g9 (q:=fun H1=>E (.ref CS) none H1) rfl e.ok rfl e.at_ (aa kn af) (fun _ _ _ _ _ _ _ I m q=>g7 I m q))) aX)
   (ah (cG JH rfl (mj (pv 0)) (aB (i:=1) v6.nd rfl (Or.inl rfl)) (ak (bZ (et (dE (aH W hr aO (aa (pv 1) (aa (bW (v:=.int 2) rfl gS ⟨_,rfl⟩) (aa (bW (v:=.int 8) rfl gL ⟨_,rfl⟩) af)))))) (ak (g9 (q:=fun H1=>E (.ref CS) none H1) rfl e.ok rfl e.at_ (aa kn af) (fun _ _ _ _ _ _ _ I m q=>g7 I m q))) aX)))
   (ak (bZ (a8 Ck (aH PR h1 aO (aa (pv 0) af)) (bW (v:=.int 32) rfl gH ⟨_,rfl⟩) (bb _)) (ak (g9 (q:=fun H1=>E (.ref CS) none H1) rfl e.ok rfl e.at_ (aa kn af) (fun _ _ _ _ _ _ _ I m q=>g7 I m q))) aX))),?_⟩
  cases sd with
  |no ty h=>exact⟨_,rfl,_,_,_,_,false,rfl,⟨rfl,h⟩,ty,_,rfl,Az ⟨by show 1<=sizeLine;decide,k1 rfl⟩⟩
  |@tup p xs os hp hl ew=>
   refine⟨_,rfl,_,_,_,.type "tuple",true,rfl,⟨rfl,zU⟩,.of (.tup hp),_,rfl,ku ?_⟩;refine⟨_,rfl,p,xs,rfl,.inr (cI.of hp),_,_,1,5,rfl,.int _,_,rfl,?_⟩;cases hw:aJ (some ((xs.length:Nat):Int)) 1 5 with
   |false=>
    refine Az ⟨by show 1<=sizeLine;decide,k1 (lJ ?_)⟩;unfold aJ at hw;simp at hw;by_cases c:1<=os.length
    .rw[bJ c,d6 (show ¬ os.length<=5 by lia)];rfl
    .rw[d6 c];rfl
   |true=>
    have Fe:1<=os.length/\os.length<=5:=by unfold aJ at hw;simp at hw;lia
    refine ku ⟨_,rfl,p,rfl,⟨_,cI.of hp⟩,jq (K:=K) (xs:=xs) (fun i σ H2=>H2=H/\(∃v,σ=[some (.ref p),v])/\∀j o,j<i->os[j]?=some o->aJ o 2 8=true) ⟨rfl,⟨_,rfl⟩,fun j o hj=>absurd hj (by lia)⟩ (fun i σ H2 _ z=>by rw[z.1];exact cI.of hp) ?_ ?_⟩
    .rintro i v σ H2 hv ⟨rfl,⟨v',rfl⟩,m_⟩;have hi:i<os.length:=by have:=(cL.mp hv).1;lia
     have ho:os[i]?=some os[i]:=cV hi;refine⟨_,rfl,_,_,2,8,rfl,ew i v _ hv ho,_,rfl,?_⟩;cases hc:aJ os[i] 2 8 with
     |false=>
      refine Az ⟨by show 1<=sizeLine;decide,k1 (lJ ?_)⟩;have:os.all (fun o=>aJ o 2 8)=false:=by
       rw[rY];exact⟨os[i],eM hi,by rw[hc];decide⟩
      rw[bJ Fe.1,bJ Fe.2,this];rfl
     |true=>
      refine ku ⟨rfl,⟨_,rfl⟩,fun j o hj J6=>?_⟩;by_cases c:j=i
      .subst c;rw[ho] at J6;obtain rfl:=bt J6;exact hc
      .exact m_ j o (by lia) J6
    .rintro σ H2 ⟨rfl,⟨v',rfl⟩,m_⟩;have ha:os.all (fun o=>aJ o 2 8)=true:=iQ.mpr fun o ho=>by
      obtain⟨j,hj,rfl⟩:=oG.mp ho;exact m_ j _ (by lia) (cV hj)
     obtain⟨ex,hx⟩:=Sd.nums hp hl ew ha;subst ex;refine⟨_,rfl,p,iK os,rfl,cI.of hp,fun x AJ=>by have:=hx x AJ;lia,_,_,rfl,rfl,_,rfl,?_⟩;refine mx (fun c=>?_) (fun c=>?_)
     .have c':(32:Int)<((pr (iK os):Nat):Int):=by simpa using c
      refine⟨by show 1<=sizeLine;decide,k1 (lJ ?_)⟩;rw[bJ Fe.1,bJ Fe.2,ha,d6 (by lia)];rfl
     .have c':¬ (32:Int)<((pr (iK os):Nat):Int):=by simpa using c
      exact k2 _ (KG (by rw[bJ Fe.1,bJ Fe.2,ha,bJ (by lia)];rfl))
end
theorem z8{A B:Prop}{b:Bool}(hb:b=true)(h:A):if b=true then A else B:=by rw[aq hb];exact h
theorem eY{A B:Prop}{b:Bool}(hb:b=false)(h:B):if b=true then A else B:=by rw[au (by rw[hb];decide)];exact h
theorem DY{m st n:Nat}:qJ (m+1) st n=qJ m st n++(if m / st % n+1<n then [(m,m+st)] else []):=by
 unfold qJ;rw[lZ,iO,dI,eN];by_cases c:m / st % n+1<n
 .rw[aq (bJ c),aq c];rfl
 .rw[au (by simpa using c),au c];rfl
theorem kI:∀ {ns:List Nat} {i:Nat},(∀x∈ns,1<=x)->pr (ns.take i)<=pr ns
 |[],i,_=>by rw[List.take_nil];exact a9 _
 |n::ns,0,h=>by
  show 1<=n*pr ns;have:∀ {l:List Nat},(∀x∈l,1<=x)->1<=pr l:=fun {l}=>by
   induction l with
   |nil=>intro _;exact a9 _
   |cons x l ih=>intro hl;exact l9 (hl x ci) (ih fun y hy=>hl y (b8 _ hy))
  exact this (l:=n::ns) h
 |n::ns,i+1,h=>by
  show n*pr (ns.take i)<=n*pr ns;exact mU n (kI fun x hx=>h x (b8 _ hx))
section
variable {P:Program} {w:World} {K:PySem.W.Frag} {mg:Str->Option Value} {base:Heap}
theorem g_:aE ["sides","pairs","step","side","house"] ["sides"] (aj ux):=⟨rfl,rfl,rfl,by decide +kernel,rfl,by decide +kernel,by decide +kernel⟩
def p_:Sp:=fun vs H Q _=>∃ (a:Addr) (ns:List Nat),vs=[.ref a]/\H a=some (.tup (NV ns))/\ns.length<=5/\(∀x∈ns,2<=x/\x<=8)/\pr ns<=32/\∀ (r:Addr) (zs:Zs) (H':Hp),aV H H'->H r=none->H' r=some (.lst (zr zs))->PO H' zs->zp zs=(ix ns).map n_->Q (.ref r) H'
theorem Bh{f:Addr}{fd:FuncData}(F:eJ K "box_pairs" "box_pairs" ux f fd)(B:Bl mg)(PR:cP P w K mg base br 1 "product" ["numbers"] (pZ K)):be P w K mg base br 2 f fd ["sides"] p_:=by
 refine F.ok g_ (fun vs H Q E h=>?_) (fun cm A outer s H vs Q E hr h=>?_)
 .obtain⟨a,ns,rfl,_⟩:=h;rfl
 .obtain⟨a,ns,rfl,ha,hl,hn,hm,k⟩:=h;refine⟨_,ah (aK (i:=1) g_.nd rfl (Or.inl rfl) (bX af))
   (ah (aK (i:=2) g_.nd rfl (Or.inl rfl) az)
   (ah (cG d8 rfl (mj (pv 0)) (aB (i:=3) g_.nd rfl (Or.inl rfl))
    (ah (cG d8 rfl (ck rfl B.range (aa (aH PR hr aO (aa (pv 0) af)) af)) (aB (i:=4) g_.nd rfl (Or.inl rfl))
     (ak (bZ (a8 vd (aR dP (aR gG (aR nR (pv 4) (pv 2)) (pv 3)) az) (pv 3) (bb _))
      (ak (b_ (lr kQ kP kO cQ (pv 1) (aa (fV (aa (pv 4) (aa (aR dP (pv 4) (pv 2)) af))) af)))) aX)))
    (ak (mi (i:=2) g_.nd rfl (Or.inl rfl) (pv 3) yx))))
   (ak (aN (pv 1))))),?_⟩
  refine⟨by show 0<=sizeLine;decide,fun D hD=>?_⟩;have s0:=ai (o:=.lst []) hD;have WA:∀x∈ns,1<=x:=fun x hx=>by have:=hn x hx;lia
  refine⟨_,rfl,a,rfl,⟨_,cI.of (s0 _ _ ha)⟩,jq (K:=K) (xs:=NV ns) (fun i σ H2=>(∃x3 x4,σ=[some (.ref a),some (.ref D),some (.int ((pr (ns.take i):Nat):Int)),x3,x4])/\iH H D ((IF (pr ns) ns i).map n_) H2) ⟨⟨_,_,rfl⟩,s0,[],ag,PO.nil,rfl⟩ (fun i σ H2 _ z=>cI.of (z.2.1 _ _ ha)) ?_ ?_⟩
  .rintro i x σ H2 hx ⟨⟨x3,x4,rfl⟩,P2⟩;obtain⟨n,hv,rfl⟩:=iG hx;have hi:i<ns.length:=(cL.mp hv).1;have WB:=hn n (cT hv);have jp:=kI (ns:=ns) (i:=i) WA;have Zz:1<=pr (ns.take i):=by
    have:=kI (ns:=ns.take i) (i:=0) fun x hx=>WA x (oF hx);exact this
   have gd:ns.getD i 0=n:=by rw[dY,hv];rfl
   have tk:ns.take (i+1)=ns.take i++[n]:=by rw[eL,hv];rfl
   rw[tk,iz];have eB:IF (pr ns) ns (i+1)=IF (pr ns) ns i++qJ (pr ns) (pr (ns.take i)) n:=by unfold IF;rw[j3,gd]
   rw[eB];generalize pr (ns.take i)=st at *;refine⟨_,rfl,a,ns,rfl,cI.of (P2.1 _ _ ha),fun x hx=>by have:=hn x hx;lia,?_⟩;refine⟨((pr ns:Nat):Int),rfl,by lia,by lia,eA (n:=pr ns) (lo:=0) (fun j σ H4=>(∃x4,σ=[some (.ref a),some (.ref D),some (.int (st:Int)),some (.int (n:Int)),x4])/\iH H D ((IF (pr ns) ns i++qJ j st n).map n_) H4) ⟨⟨_,rfl⟩,by rw[show qJ 0 st n=[] from rfl,fE];exact P2⟩ ?_ ?_⟩
   .rintro j σ H4 hj ⟨⟨ZA,rfl⟩,AE,Os,QV,QW,Tr⟩;have ZB:((0:Int)+(j:Int)) / (st:Int) % (n:Int)+1=(((j / st % n+1:Nat)):Int):=by rw[gv];rfl
    refine⟨_,rfl,_,rfl,_,_,rfl,rfl,⟨by lia,by lia⟩,_,rfl,_,_,rfl,rfl,(by show (0:Int)<(n:Int);lia),_,_,rfl,rfl,_,rfl,_,_,rfl,rfl,_,rfl,?_⟩;rw[ZB,DY];by_cases c:j / st % n+1<n
    .rw[aq c];refine z8 (bJ (by lia)) ?_;rw[gv];refine⟨_,rfl,.inl ⟨rfl,_,a_.of QV⟩,_,rfl,_,rfl,_,rfl,_,_,rfl,rfl,by show 2<=sizeLine;decide,fun t ht=>?_⟩;have Tt:Os.length<=1000:=by
      have e:=congrArg List.length Tr;rw[bD,aZ,cD] at e;have z1:∀m' s' n',(qJ m' s' n').length<=m':=fun m' s' n'=>by unfold qJ;rw[aZ];exact aY (iN _ _) (by simp)
      have z2:∀i',(IF (pr ns) ns i').length<=i'*32:=fun i'=>by
       induction i' with
       |zero=>exact a9 _
       |succ i' ih=>unfold IF at ih |-;rw[j3,cD,Nat.succ_mul];have:=z1 (pr ns) (pr (ns.take i')) (ns.getD i' 0);lia
      have:=z2 i;have:=z1 j st n;lia
     refine⟨D,_,_,rfl,rfl,ai ht _ _ QV,by rw[eH];exact du Tt (by decide),⟨_,rfl⟩,?_⟩;have P5:=iH.add (u:=n_ (j,j+st)) hD AE QV QW Tr ht;rw[<-iP,dI (l₂:=[(j,j+st)])];exact P5
    .rw[au c,fE];refine eY (d6 (by lia)) ⟨⟨_,rfl⟩,AE,Os,QV,QW,Tr⟩
   .rintro σ H4 ⟨⟨ZA,rfl⟩,P4⟩;exact⟨_,rfl,_,rfl,_,_,rfl,rfl,.inr ⟨by lia,by lia⟩,⟨_,_,rfl⟩,P4⟩
  .rintro σ H2 ⟨⟨x3,x4,rfl⟩,A_,zs,hz,po,ez⟩;refine⟨_,rfl,k D zs H2 A_ hD hz po ?_⟩;rw[ez,aW];unfold ix IF;rw[DX];simp only[sQ]
theorem KI:aE ["sides"] ["sides"] (aj DU):=⟨rfl,rfl,rfl,by decide +kernel,rfl,by decide +kernel,by decide +kernel⟩
def uz(K:PySem.W.Frag)(C Pt CS:Addr):Sp:=fun vs H Q E=>∃ (x:V) (o:Option (List (Option Int))),vs=[x]/\Sd K H x o/\iL Pt H/\(v3 o=none->E (.ref CS) none H)/\(∀ns,v3 o=some ns->Bd C Pt H (pr ns) (kM ((ix ns).map n_)) Q)
theorem GR{f C Pt CS:Addr}{fd:FuncData}(F:eJ K "box_net" "box_net" DU f fd)(ZC:cP P w K mg base (dZ P w) 3 "check_sides" ["sides"] (p8 K CS))(PN:cP P w K mg base br 9 "pairs_net" ["many","pairs"] (pY C Pt))(PR:cP P w K mg base br 1 "product" ["numbers"] (pZ K))(BP:cP P w K mg base br 2 "box_pairs" ["sides"] p_):
  be P w K mg base (dZ P w) 10 f fd ["sides"] (uz K C Pt CS):=by
 refine F.FT KI (fun vs H Q E h=>?_) (fun cm A outer s H vs Q E hr h=>?_)
 .obtain⟨x,o,rfl,_⟩:=h;rfl
 .obtain⟨x,o,rfl,sd,tb,k1,k2⟩:=h;have h1:bK 1 _:=hr.mono (by decide);have h2:bK 2 _:=hr.mono (by decide);have h3:bK 3 _:=hr.mono (by decide);refine⟨_,ah (b_ (aH ZC h3 (pI (E':=E) fun _ _ _ z=>z) (aa (pv 0) af)))
   (ak (aN (aH PN hr aO (aa (aH PR h1 aO (aa (pv 0) af)) (aa (aH BP h2 aO (aa (pv 0) af)) af))))),?_⟩
  refine⟨_,rfl,x,o,rfl,sd,k1,fun ns hb=>?_⟩;cases sd with
  |no ty h=>cases hb
  |@tup p xs os hp hl ew=>
   obtain⟨e1,l1,l2,hn,hm,eo⟩:=v4 hb;have ha:os.all (fun o=>aJ o 2 8)=true:=iQ.mpr fun o ho=>by
    rw[eo] at ho;obtain⟨n,HW,rfl⟩:=bu.mp ho;have:=hn n HW;unfold aJ;simp;lia
   obtain⟨ex,_⟩:=Sd.nums hp hl ew ha;rw[<-e1] at ex;subst ex;refine⟨_,rfl,p,ns,rfl,cI.of hp,fun x hx=>by have:=hn x hx;lia,?_⟩;refine⟨_,rfl,p,ns,rfl,hp,l2,hn,hm,fun r zs H2 s2 SS Tv po ez=>?_⟩;refine⟨pr ns,r,zs,rfl,Tv,po,?_,tb.same s2,?_⟩
   .rw[ez];exact Dx (fun x hx=>(hn x hx).1) (by rintro rfl;simp at l1) hm
   .rw[ez];exact(k2 ns hb).same s2
end
end pV
namespace L2
open PySem PySem.Spec PyProof.Rows
section
variable {X:Cx}
def Ot:R2:=fun x y H Q=>∃a b xs ys,x=.ref a/\y=.ref b/\H a=some (.tup xs)/\H b=some (.tup ys)/\xs.length+ys.length<=sizeLine/\∀r H',aV H H'->H' r=some (.tup (xs++ys))->Q (.ref r) H'
theorem jB:lR X (binaryOp .Add) Ot:=by
 intro ae s σ H x y v u Q I rx ry h;obtain⟨a,b,xs,ys,rfl,rfl,ha,hb,hz,q⟩:=h;cases rx;cases ry;obtain⟨its,r1,p1,_⟩:=I.tuple (cI.of ha);obtain⟨pF,r2,p2,_⟩:=I.tuple (cI.of hb);obtain⟨⟨cls,dd,data,sl⟩,ho,hc,n,hd⟩:=id p1;obtain⟨⟨ZD,Tw,data2,Ig⟩,Me,WC,n2,Tx⟩:=id p2;simp only at hc hd WC Tx;subst hc hd WC Tx;have e:its.toArray++pF.toArray=(its++pF).toArray:=by simp
 by_cases hv:xs=[]
 .subst hv;have hi:its=[]:=r1.nW.mpr rfl;exact concat_meets ⟨_,ho,rfl⟩ ⟨_,Me,rfl⟩ xx seq_tuple_add wQ wL (wI _ _)
   (tuple_addW0 a b its.toArray pF.toArray n n2 dd Tw sl Ig (by simp[hi])) ⟨ho,Me,⟨.ref b,H,I,rfl,q b H (aV.refl _) hb⟩⟩
 .have hi:its≠[]:=fun z=>hv (r1.nW.mp z);by_cases hw:ys=[]
  .subst hw;have hj:pF=[]:=r2.nW.mpr rfl;exact concat_meets ⟨_,ho,rfl⟩ ⟨_,Me,rfl⟩ xx seq_tuple_add wQ wL (wI _ _)
    (tuple_addW1 a b its.toArray pF.toArray n n2 dd Tw sl Ig (by simpa using hi) (by simp[hj])) ⟨ho,Me,⟨.ref a,H,I,rfl,q a H (aV.refl _) (by rw[fE];exact ha)⟩⟩
  .have hj:pF≠[]:=fun z=>hw (r2.nW.mp z);refine concat_meets ⟨_,ho,rfl⟩ ⟨_,Me,rfl⟩ xx seq_tuple_add wQ wL (wI _ _)
    (tuple_addW2 a b its.toArray pF.toArray n n2 dd Tw sl Ig (by simpa using hi) (by simpa using hj) (by rw[cs,cs,<-r1.length,<-r2.length];exact hz)) ⟨ho,Me,?_⟩
   rw[e];have nf:=I.bq.fresh (a9 s.heap.objs.size);refine⟨.ref s.heap.objs.size,_,I.laid (t':=s.toks) (o:=.tup (xs++ys)) (fun b ob q=>bC _ q) (a9 _) ?_,rfl,q _ _ (ai nf) ag⟩;exact⟨by rw[cD];exact hz,_,r1.append r2,iX.new _ _⟩
theorem lK{prog:Program}{w:World}{A:Around}{E:Value->Shared->Prop}{s:Shared}{t sl:Addr}{aL:Array Value}{vl vu:Value}{lo hi:Option Int}{Q:Value->Shared->Prop}(ht:IsTup s.heap t aL)(hs:s.heap.IsSliceOf sl vl vu .none)(pl:IsPart vl lo)(pu:IsPart vu hi)(hw:HT.d_ aL.size 0 lo=0/\HT.d_ aL.size aL.size hi=aL.size)(h:Q (.ref t) s):wpAny (model prog w) A (getItem (.ref t) (.ref sl)) Q E s:=by
 obtain⟨os,E8,Qq,M3⟩:=id hs;have RW:s.TypeIs (.ref sl) "slice":=⟨os,E8,Qq⟩
 unfold getItem;try with_reducible refine fK ?_
 first|refine ap (wpAny_pure ?_)|skip
 refine ap (wpAny_sequenceKey ht.typeIs (by decide) ?_);refine ap (oq (name:=Str.ofString "__getitem__") ht.typeIs qO
  (iS qO ht.typeIs entry_tuple_getitem ?_ (args_tuple_getitem _ _)))
 show wpAny _ _ (Builtin.Tuple.tupleItemsOf (.ref t) >>= _) _ _ s;refine ap (tupleItemsOf_ ht ?_);refine ap (wpAny_typeOf RW ?_);rw[aq (by decide)];refine ap (HT.gY hs pl pu ?_);have Tz:(((HT.d_ aL.size 0 lo:Nat):Int)==0&&(1:Int)==1&&(HT.d_ aL.size aL.size hi-HT.d_ aL.size 0 lo)==aL.size)=true:=by
  rw[hw.1,hw.2];simp
 show wpAny _ _ (if (((HT.d_ aL.size 0 lo:Nat):Int)==0&&(1:Int)==1&&(HT.d_ aL.size aL.size hi-HT.d_ aL.size 0 lo)==aL.size)=true then _ else _) _ _ s;rw[aq Tz];refine ap (Q:=_) (m:=Builtin.Tuple.tupleIsExact (.ref t)) ?_;unfold Builtin.Tuple.tupleIsExact;refine ap (wpAny_typeOf ht.typeIs ?_);refine wpAny_pure ?_;rw[aq (by decide)];exact ap (fL (wpAny_pure ⟨_,rfl,wpAny_pure h⟩))
def GU:V->Option Int->Option Int->Hp->VK->Prop:=fun x lo hi H Q=>∃a xs,x=.ref a/\H a=some (.tup xs)/\∀r H',aV H H'->H' r=some (.tup (lm xs lo hi))->Q (.ref r) H'
theorem DZ{xs:List V}{lo hi:Option Int}(hw:HT.d_ xs.length 0 lo=0/\HT.d_ xs.length xs.length hi=xs.length):lm xs lo hi=xs:=by
 unfold lm;rw[hw.1,hw.2,Nat.sub_zero,sF,fz]
theorem jC:RX X GU:=by
 intro ae s σ H x v vl vu lo hi sl Q I rx hs pl pu h;obtain⟨a,xs,rfl,hx,q⟩:=h;by_cases hw:HT.d_ xs.length 0 lo=0/\HT.d_ xs.length xs.length hi=xs.length
 .cases rx;obtain⟨its,r,ht,hz⟩:=I.tuple (cI.of hx);have eD:its.toArray.size=xs.length:=by rw[cs];exact r.length.symm
  refine⟨"tuple",_,qO.lookup,ht.typeIs,?_⟩;exact lK ht hs pl pu (by rw[eD];exact hw) ⟨.ref a,H,I,rfl,q a H (aV.refl _) (by rw[DZ hw];exact hx)⟩
 .exact Jy ae s σ H _ v vl vu lo hi sl Q I rx hs pl pu ⟨a,xs,rfl,cI.of hx,hw,fun p hp=>q p _ (ai hp) ag⟩
end
theorem aF.Ou{X:Cx}{ae:List (Addr×Obj)}{σ:St}{H:Hp}{s:Shared}{h':Heap}{m:Str->Option Value}{t':Nat}(I:aF X ae σ H s)(F:Fr X.base X.env.locals s.heap m)(F':Fr X.base X.env.locals h' m)(N':News X.base X.env.locals h' (ge X.base s.heap X.env.locals)):aF X ae σ H { s with heap:=h',toks:=t' }:=by
 have keep:∀b u,b≠X.env.locals->s.heap.get? b=some u->h'.get? b=some u:=fun b u hb e=>by
  cases q:X.base.get? b with
  |some v=>
   have:=I.bk b v q;rw[e] at this;cases this;exact F'.keep b _ q
  |none=>exact(N' (b,u) (gf hb q e)).1
 refine I.step (g':=s.gens) (d':=s.drawn) (ch:=[]) (fun _ z=>absurd z (by simp)) (fun b u hb _ _ e _=>keep b u hb e) (fun b u hb _ _ e _=>⟨u.slots,keep b u hb e⟩) (fun b u _ e n=>n) (fun b u _ e=>?_)
  (fun b xs e=>e) (fun b u v e=>e) (fun b ps e=>⟨#[],by rw[e];simp⟩) (fun m1 hm=>by rw[zj hm F.ns];exact F'.ns) (fun b u e=>?_) I.bare
 .by_cases hb:b=X.env.locals
  .obtain⟨o',_,_,q,_⟩:=F'.ns;exact⟨o',by rw[hb];exact q⟩
  .exact⟨u,keep b u hb e⟩
 .refine(I.bq b u e).km (fun c v hc q=>keep c v ?_ q) (fun c q=>q) fun c xs q=>q;rintro rfl;rcases hc with z|hc
  .have f:=I.free;rw[z,e] at f;cases f
  .rw[I.free] at hc;cases hc
def TC(K:PySem.W.Frag):List V->Hp->VK->Prop:=fun xs H Q=>∃ (l:Addr) (ns:List Int),xs=[.ref l]/\a_ K H l (ns.map V.int)/\Q (.int ns.sum) H
theorem qa{X:Cx}(hc:X.calm=true):eR X (.builtin "sum") (TC X.K):=by
 intro ae s σ H xs us Q I r h;obtain⟨l,ns,rfl,hl,q⟩:=h;obtain⟨u1,rfl,r1⟩:=r.one;obtain rfl:u1=Value.ref l:=r1;obtain⟨its,rv,pl,_⟩:=I.list hl;obtain⟨m,F⟩:=I.fr;refine LSm.sum_ints F u_ (I.ok.hd hc) pl.isList (pC rv) fun h' tk t' F' N'=>?_;exact⟨.int _,H,I.Ou (t':=tk) F F' N',⟨_,rfl⟩,q⟩
end L2
namespace iI
def hU:List Nat->Nat->List Nat
 |[],_=>[]
 |n::ns,h=>(h % n)::hU ns (h / n)
theorem bR:∀ {ns:List Nat} {h:Nat},(hU ns h).length=ns.length
 |[],_=>rfl
 |n::ns,h=>by show (hU ns (h / n)).length+1=ns.length+1;rw[bR]
theorem qb:∀ {ns:List Nat} {n h:Nat},hU (ns++[n]) h=hU ns h++[h / pr ns % n]
 |[],n,h=>by show [h % n]=[h / 1 % n];rw[o4]
 |m::ns,n,h=>by
  show (h % m)::hU (ns++[n]) (h / m)=(h % m)::(hU ns (h / m)++[h / (m*pr ns) % n]);rw[qb,lT]
theorem D1:∀ {ns:List Nat} {h i:Nat},(∀x∈ns,0<x)->i<ns.length->(hU ns h).getD i 0<ns.getD i 0
 |[],_,_,_,hi=>absurd hi (xt _)
 |n::ns,h,0,hn,_=>ie h (hn n ci)
 |n::ns,h,i+1,hn,hi=>D1 (ns:=ns) (h:=h / n) (i:=i) (fun x hx=>hn x (b8 _ hx)) (Nat.lt_of_succ_lt_succ hi)
def Fh:List Nat->List Nat->Nat
 |n::ns,d::ds=>d+n*Fh ns ds
 |_,_=>0
theorem v7:∀ {ns ds:List Nat} {n d:Nat},ns.length=ds.length->Fh (ns++[n]) (ds++[d])=Fh ns ds+pr ns*d
 |[],[],n,d,_=>by show d+n*0=0+1*d;lia
 |m::ns,e::ds,n,d,h=>by
  show e+m*Fh (ns++[n]) (ds++[d])=e+m*Fh ns ds+m*pr ns*d;rw[v7 (Nat.succ.inj h),o3,oV,oW]
theorem uA:∀ {ns:List Nat} {h:Nat},h<pr ns->Fh ns (hU ns h)=h
 |[],h,hh=>by have hh:h<1:=hh;show 0=h;lia
 |n::ns,h,hh=>by
  show h % n+n*Fh ns (hU ns (h / n))=h;rw[uA (mR hh),sq]
def Mf:List Nat->Nat->Nat->Nat->Prop
 |[],_,_,_=>False
 |n::_,0,a,b=>a % n+1<n/\b=a+1
 |n::ns,k+1,a,b=>a % n=b % n/\Mf ns k (a / n) (b / n)
theorem D7:∀ {ns:List Nat} {a b:Nat},(∀x∈ns,0<x)->(U ns a b↔∃k,Mf ns k a b)
 |[],a,b,_=>⟨fun h=>h.elim,fun ⟨k,h⟩=>h.elim⟩
 |n::ns,a,b,hn=>by
  rw[uh hn,D7 fun x hx=>hn x (b8 _ hx)];constructor
  .rintro(h|⟨e,k,h⟩)
   .exact⟨0,h⟩
   .exact⟨k+1,e,h⟩
  .rintro⟨k,h⟩;cases k with
   |zero=>exact .inl h
   |succ k=>exact .inr ⟨h.1,k,h.2⟩
theorem yz{b n:Nat}(hn:0<n):(b % n+1<n)↔1<=(b+1) % n:=by
 have e:=hX b n;have l:=ie b hn;constructor
 .intro h;rw[(eG h).2];lia
 .intro h;rcases Nat.lt_or_ge (b % n+1) n with c|c
  .exact c
  .have:b+1=n*(b / n+1):=by rw[o3,l_];lia
   rw[this,Nat.mul_mod_right] at h;exact absurd h (by decide)
def QX(ns:List Nat)(a b k:Nat):Prop:=Mf ns k a b\/Mf ns k b a
theorem jD{ns:List Nat}{a b:Nat}(hn:∀x∈ns,0<x)(ha:a<pr ns)(hb:b<pr ns):T (kM ((ix ns).map n_)) a b↔∃k,QX ns a b k:=by
 have QY:∀ {a b:Nat},(a,b)∈ix ns↔a<pr ns/\U ns a b:=pU;show ((a:Int),(b:Int))∈_↔_;rw[uf];constructor
 .rintro(h|h)
  .obtain⟨q,hq,e⟩:=bu.mp h;have e1:q.1=a:=iD (congrArg Prod.fst e);have e2:q.2=b:=iD (congrArg Prod.snd e);obtain⟨k,u⟩:=(D7 hn).mp (QY.mp hq).2;exact⟨k,.inl (by rw[<-e1,<-e2];exact u)⟩
  .obtain⟨q,hq,e⟩:=bu.mp h;have e1:q.1=b:=iD (congrArg Prod.fst e);have e2:q.2=a:=iD (congrArg Prod.snd e);obtain⟨k,u⟩:=(D7 hn).mp (QY.mp hq).2;exact⟨k,.inr (by rw[<-e1,<-e2];exact u)⟩
 .rintro⟨k,u|u⟩
  .exact .inl (bu.mpr ⟨(a,b),QY.mpr ⟨ha,(D7 hn).mpr ⟨k,u⟩⟩,rfl⟩)
  .exact .inr (bu.mpr ⟨(b,a),QY.mpr ⟨hb,(D7 hn).mpr ⟨k,u⟩⟩,rfl⟩)
end iI
namespace L2
open PySem PySem.Spec PyProof.Rows
def zC(k:Bool):String:=if k then "list" else "tuple"
def zI(k:Bool):String:=if k then "list_iterator" else "tuple_iterator"
def uX(k:Bool)(h:Heap)(a:Addr)(aL:Array Value):Prop:=∃o,h.get? a=some o/\o.cls=.type (zC k)/\∃n,o.data=.seq aL n
def fw(k:Bool)(h:Heap)(it a:Addr)(i:Nat):Prop:=∃o,h.get? it=some o/\o.cls=.type (zI k)/\o.data=.fields #[.ref a,.int (i:Int) 0]
def BI(k:Bool)(K:PySem.W.Frag)(H:Hp)(a:Addr)(xs:List V):Prop:=match k with
 |true=>a_ K H a xs
 |false=>cI K H a xs
theorem fw.at{k:Bool}{it a:Addr}{i:Nat}{h h':Heap}(r:fw k h it a i)(e:∀o,h.get? it=some o->h'.get? it=some o):fw k h' it a i:=let ⟨o,q,z⟩:=r;⟨o,e o q,z⟩
theorem jj{k:Bool}{c it t:Addr}{h h':Heap}{i:Nat}(r:fw k h it t i)(sb:Heap.SameBut c h h')(n:it≠c):fw k h' it t i:=r.at fun o e=>bY sb n e
theorem D8{k:Bool}{c t:Addr}{h h':Heap}{xs:Array Value}(r:uX k h t xs)(sb:Heap.SameBut c h h')(n:t≠c):uX k h' t xs:=let ⟨o,e,z⟩:=r;⟨o,bY sb n e,z⟩
theorem aF.q{k:Bool}{X:Cx}{ae:List (Addr×Obj)}{σ:St}{H:Hp}{s:Shared}{a:Addr}{xs:List V}(I:aF X ae σ H s)(h:BI k X.K H a xs):∃us,aP xs us/\uX k s.heap a us.toArray/\xs.length<=sizeLine:=by
 cases k
 .exact I.tuple h
 .obtain⟨us,r,p,z⟩:=I.list h;exact⟨us,r,p.isList,z⟩
theorem aF.IG{k:Bool}{X:Cx}{ae:List (Addr×Obj)}{σ:St}{H:Hp}{s:Shared}{a:Addr}{xs ys:List V}(I:aF X ae σ H s)(h:BI k X.K H a xs)(h':BI k X.K H a ys):xs=ys:=by
 cases k
 .exact I.qS h h'
 .exact I.pf h h'
variable {ka kb:Bool}
section
variable {prog:Program} {w:World} {A:Around} {E:Value->Shared->Prop} {s:Shared}
theorem qc{k:Bool}{it t:Addr}{i:Nat}{xs:Array Value}{x:Value}{Q:Value->Shared->Prop}(o6:fw k s.heap it t i)(ht:uX k s.heap t xs)(hx:xs[i]?=some x)(q:∀h',fw k h' it t (i+1)->Heap.SameBut it s.heap h'->Q x { s with heap:=h' }):wpAny (model prog w) A (Builtin.SmallTypes.nextOf (.ref it)) Q E s:=by
 cases k
 .exact yf o6 ht hx q
 .exact wpAny_nextOf_list_item o6 ht hx q
theorem Bi{k:Bool}{it t:Addr}{i:Nat}{xs:Array Value}{Q:Value->Shared->Prop}(hh:A.handled=none)(o6:fw k s.heap it t i)(ht:uX k s.heap t xs)(hx:xs[i]?=none)(q:∀h' e,Heap.ExtBut it s.heap h'->(∃o,h'.get? e=some o/\o.cls=.type "StopIteration")->E (.ref e) { s with heap:=h' }):wpAny (model prog w) A (Builtin.SmallTypes.nextOf (.ref it)) Q E s:=by
 cases k
 .exact AU hh o6 ht hx q
 .exact wpAny_nextOf_list_end hh o6 ht hx q
theorem jk{k:Bool}{t:Addr}{aL:Array Value}{Q:Value->Shared->Prop}(g:uX k s.heap t aL)(q:Q (.ref s.heap.objs.size) { s with heap:=s.heap.push { cls:=.type (zI k),data:=.fields #[.ref t,.int 0 0] } }):wpAny (model prog w) A (pyIter (.ref t)) Q E s:=by
 cases k
 .exact wpAny_pyIter_tuple g q
 .exact sk g q
theorem Bj{z ti tq i1 i2 t1 t2:Addr}{k:Nat}{xs ys:Array Value}{x y a b:Value}{Q:Value->Shared->Prop}(dj:ZipApart z ti tq i1 i2 t1 t2)(gz:IsZip s.heap z ti tq .none)(gi:IsPair s.heap ti (.ref i1) (.ref i2))(gq:IsPair s.heap tq a b)(r1:fw ka s.heap i1 t1 k)(r2:fw kb s.heap i2 t2 k)(g1:uX ka s.heap t1 xs)(g2:uX kb s.heap t2 ys)(ex:xs[k]?=some x)(ey:ys[k]?=some y)(q:∀h',IsZip h' z ti tq (rawInt s.heap.objs.size)->IsPair h' tq x y->fw ka h' i1 t1 (k+1)->fw kb h' i2 t2 (k+1)->IsPair h' s.heap.objs.size x y->(∀c o,c≠z->c≠tq->c≠i1->c≠i2->s.heap.get? c=some o->h'.get? c=some o)->Q (.ref s.heap.objs.size) { s with heap:=h' }):
  wpAny (model prog w) A (Builtin.«zip.__next__» ⟨[.ref z],[]⟩) (fun fin s'=>∃v,fin=.done (.ret v)/\Q v s') E s:=by
 change wpAny _ _ (field (.ref z) 2 >>= _) _ _ _;refine ap (cY gz rfl (x:=.bool false) rfl ?_);change wpAny _ _ (field (.ref z) 3 >>= _) _ _ _;refine ap (cY gz rfl (x:=.ref ti) rfl (ap (iT gi rfl ?_)));change wpAny _ _ (Builtin.SmallTypes.ownedTupleIsFree (.ref z) >>= _) _ _ _;refine ap ?_;unfold Builtin.SmallTypes.ownedTupleIsFree;refine ap (cY gz rfl (x:=.none) rfl (wpAny_pure ?_));simp only[iW];refine ap (fL (ap (cY gz rfl (x:=.ref tq) rfl ?_)));refine ap (oJ gz (by simp) fun m1 GV ra=>?_);replace GV:IsZip m1 z ti tq .ellipsis:=GV;refine ap ?_;simp only[xo,List.zipIdx_nil,sA,sE];refine ap (ap (sO ?_));change wpAny _ _ (Builtin.SmallTypes.nextOf (.ref i1) >>= _) _ _ _;refine ap (qc (jj r1 ra dj.i1z) (D8 g1 ra dj.l1z) ex fun m2 ZE qr=>wpAny_pure ?_);have WD:IsPair m2 tq a b:=bY qr dj.TOi1 (bY ra dj.TOz gq);refine ap (iT WD rfl (ap (wpAny_updateSeq_pair WD fun m3 TF GW=>?_)));replace TF:IsPair m3 tq x b:=TF;refine ap (wpAny_letGo (wpAny_pure ?_));refine ap (ap (sO ?_));change wpAny _ _ (Builtin.SmallTypes.nextOf (.ref i2) >>= _) _ _ _;refine ap (qc (jj (jj (jj r2 ra dj.i2z) qr dj.i12.symm) GW dj.TOi2.symm) (D8 (D8 (D8 g2 ra dj.l2z) qr dj.l2i1) GW dj.l2TO) ey fun m4 ZF Ov=>wpAny_pure ?_);have WE:IsPair m4 tq x b:=bY Ov dj.TOi2 TF;refine ap (iT WE rfl (ap (wpAny_updateSeq_pair WE fun m5 QZ Ow=>?_)));replace QZ:IsPair m5 tq x y:=QZ;refine ap (wpAny_letGo (wpAny_pure (wpAny_pure ?_)));refine ap (iT QZ rfl (ap (wpAny_newTuple ?_)));have sz:m5.objs.size=s.heap.objs.size:=by rw[Ow.1,Ov.1,GW.1,qr.1,ra.1]
 have WF:IsZip m5 z ti tq .ellipsis:=bY Ow dj.TOz.symm (bY Ov dj.i2z.symm (bY GW dj.TOz.symm (bY qr dj.i1z.symm GV)));have ZG:∀c o,c≠z->c≠tq->c≠i1->c≠i2->s.heap.get? c=some o->m5.get? c=some o:=fun c o c1 c2 c3 c4 e=>
  bY Ow c2 (bY Ov c4 (bY GW c2 (bY qr c3 (bY ra c1 e))))
 have ZH:fw ka m5 i1 t1 (k+1):=jj (jj (jj ZE GW dj.TOi1.symm) Ov dj.i12) Ow dj.TOi1.symm;have ZI:fw kb m5 i2 t2 (k+1):=jj ZF Ow dj.TOi2.symm;have zl:z<m5.objs.size:=aQ WF;change wpAny _ _ (Builtin.SmallTypes.ownedTupleHandOut (.ref z) (.ref m5.objs.size) >>= _) _ _ _;refine ap ?_;unfold Builtin.SmallTypes.ownedTupleHandOut;have ZJ:IsZip (m5.push { cls:=.type "tuple",data:=.seq #[x,y] }) z ti tq .ellipsis:=bC _ WF;refine ap (oJ ZJ (by simp) fun m7 TH WG=>?_);replace TH:IsZip m7 z ti tq (rawInt m5.objs.size):=TH;refine oJ TH (by simp) fun m8 Q0 WH=>?_;replace Q0:IsZip m8 z ti tq (rawInt m5.objs.size):=Q0;have up:∀c o,c≠z->m5.get? c=some o->m8.get? c=some o:=fun c o c1 e=>bY WH c1 (bY WG c1 (bC _ e));have WI:IsPair m8 m5.objs.size x y:=bY WH (gu zl) (bY WG (gu zl) (cC _ rfl));rw[sz] at Q0 WI;refine wpAny_pure ⟨_,rfl,?_⟩;change Q (.ref m5.objs.size) _;rw[sz];exact q m8 Q0 (up _ _ dj.TOz QZ) (ZH.at fun o e=>up _ o dj.i1z e) (ZI.at fun o e=>up _ o dj.i2z e) WI fun c o c1 c2 c3 c4 e=>up c o c1 (ZG c o c1 c2 c3 c4 e)
theorem D9{z ti tq i1 i2 t1 t2:Addr}{k:Nat}{xs:Array Value}{Q:PySem.Fin->Shared->Prop}(hh:A.handled=none)(dj:ZipApart z ti tq i1 i2 t1 t2)(gz:IsZip s.heap z ti tq .none)(gi:IsPair s.heap ti (.ref i1) (.ref i2))(r1:fw ka s.heap i1 t1 k)(g1:uX ka s.heap t1 xs)(ex:xs[k]?=none)(q:∀h' e,(∀c o,c≠z->c≠i1->s.heap.get? c=some o->h'.get? c=some o)->(∃o,h'.get? e=some o/\o.cls=.type "StopIteration")->E (.ref e) { s with heap:=h' }):
  wpAny (model prog w) A (Builtin.«zip.__next__» ⟨[.ref z],[]⟩) Q E s:=by
 change wpAny _ _ (field (.ref z) 2 >>= _) _ _ _;refine ap (cY gz rfl (x:=.bool false) rfl ?_);change wpAny _ _ (field (.ref z) 3 >>= _) _ _ _;refine ap (cY gz rfl (x:=.ref ti) rfl (ap (iT gi rfl ?_)));change wpAny _ _ (Builtin.SmallTypes.ownedTupleIsFree (.ref z) >>= _) _ _ _;refine ap ?_;unfold Builtin.SmallTypes.ownedTupleIsFree;refine ap (cY gz rfl (x:=.none) rfl (wpAny_pure ?_));simp only[iW];refine ap (fL (ap (cY gz rfl (x:=.ref tq) rfl ?_)));refine ap (oJ gz (by simp) fun m1 GV ra=>?_);replace GV:IsZip m1 z ti tq .ellipsis:=GV;refine ap ?_;simp only[xo,List.zipIdx_nil,sA,sE];refine ap (ap (sO ?_));change wpAny _ _ (Builtin.SmallTypes.nextOf (.ref i1) >>= _) _ _ _;refine ap (Bi hh (jj r1 ra dj.i1z) (D8 g1 ra dj.l1z) ex fun m2 e qr he=>?_);obtain⟨oe,Nr,WJ⟩:=he;have Q3:IsZip m2 z ti tq .ellipsis:=qr _ _ dj.i1z.symm GV;have ZK:e≠z:=fun y=>by subst y;rw[Q3] at Nr;cases Nr;simp at WJ
 exact oJ Q3 (by simp) fun m3 _ GW=>q m3 e (fun c o c1 c3 y=>bY GW c1 (qr _ _ c3 (bY ra c1 y))) ⟨oe,bY GW ZK Nr,WJ⟩
theorem yA{z ti tq i1 i2 t1 t2:Addr}{k:Nat}{xs ys:Array Value}{x y a b:Value}{Q:Option Value->Shared->Prop}(dj:ZipApart z ti tq i1 i2 t1 t2)(gz:IsZip s.heap z ti tq .none)(gi:IsPair s.heap ti (.ref i1) (.ref i2))(gq:IsPair s.heap tq a b)(r1:fw ka s.heap i1 t1 k)(r2:fw kb s.heap i2 t2 k)(g1:uX ka s.heap t1 xs)(g2:uX kb s.heap t2 ys)(ex:xs[k]?=some x)(ey:ys[k]?=some y)(q:∀h',IsZip h' z ti tq (rawInt s.heap.objs.size)->IsPair h' tq x y->fw ka h' i1 t1 (k+1)->fw kb h' i2 t2 (k+1)->IsPair h' s.heap.objs.size x y->(∀c o,c≠z->c≠tq->c≠i1->c≠i2->s.heap.get? c=some o->h'.get? c=some o)->Q (some (.ref s.heap.objs.size)) { s with heap:=h' }):
  wpAny (model prog w) A (pyNext (.ref z)) Q E s:=by
 have ty:s.TypeIs (.ref z) "zip":=⟨_,gz,rfl⟩
 unfold pyNext;refine ap (sP (oq (name:=Str.ofString "__next__") ty F.slot_zip_next (iS F.slot_zip_next ty F.entry_zip_next ?_ (F.args_zip_next_1 _))));exact Bj dj gz gi gq r1 r2 g1 g2 ex ey fun h' a1 a2 a3 a4 a5 a6=>wpAny_pure (q h' a1 a2 a3 a4 a5 a6)
theorem yB{z ti tq i1 i2 t1 t2:Addr}{k:Nat}{xs:Array Value}{Q:Option Value->Shared->Prop}(hh:A.handled=none)(dj:ZipApart z ti tq i1 i2 t1 t2)(gz:IsZip s.heap z ti tq .none)(gi:IsPair s.heap ti (.ref i1) (.ref i2))(r1:fw ka s.heap i1 t1 k)(g1:uX ka s.heap t1 xs)(ex:xs[k]?=none)(q:∀h',(∀c o,c≠z->c≠i1->s.heap.get? c=some o->h'.get? c=some o)->Q none { s with heap:=h' }):wpAny (model prog w) A (pyNext (.ref z)) Q E s:=by
 have ty:s.TypeIs (.ref z) "zip":=⟨_,gz,rfl⟩
 unfold pyNext;refine ap (sP (oq (name:=Str.ofString "__next__") ty F.slot_zip_next (iS F.slot_zip_next ty F.entry_zip_next (D9 hh dj gz gi r1 g1 ex fun h' e hk he=>?_) (F.args_zip_next_1 _))));obtain⟨o,ho,hc⟩:=he;exact ap (wpAny_isInstance (T:="StopIteration") (b:=true) ⟨o,ho,hc⟩ isSubtype_stop (wpAny_pure (q _ hk)))
abbrev zQ(k:Bool)(t:Addr):Obj:={ cls:=.type (zI k),data:=.fields #[.ref t,.int 0 0] }
abbrev Q4(k j:Bool)(h:Heap)(t1 t2:Addr):Heap:=((h.push (zQ k t1)).push (zQ j t2)).push { cls:=.type "tuple",data:=.seq #[.ref h.objs.size,.ref (h.push (zQ k t1)).objs.size] }
abbrev Q5(k j:Bool)(h:Heap)(t1 t2:Addr):Heap:=(Q4 k j h t1 t2).push { cls:=.type "tuple",data:=.seq #[.none,.none] }
abbrev Mg(k j:Bool)(h:Heap)(t1 t2:Addr):Heap:=(Q5 k j h t1 t2).push { cls:=.type "zip",data:=.fields #[.none,.bool false,.bool false,.ref ((h.push (zQ k t1)).push (zQ j t2)).objs.size,.ref (Q4 k j h t1 t2).objs.size] }
theorem D_(t1 t2:Addr)(xs ys:Array Value):
  Meets (Builtin.«zip.__new__» ⟨[.type "zip",.ref t1,.ref t2],[]⟩) (fun _ R s=>uX ka s.heap t1 xs/\uX kb s.heap t2 ys/\R (.ok (.ret (.ref (Q5 ka kb s.heap t1 t2).objs.size))) { s with heap:=Mg ka kb s.heap t1 t2 }):=
 .of_wp fun prog w A R s h=>by
  obtain⟨hp,g,d,tk,os⟩:=s;obtain⟨g1,g2,h⟩:=h;have Np:=sub_zip;have gA:uX ka (Shared.heap ⟨hp,g,d,tk,os⟩) t1 xs:=g1;have gB:uX kb (Shared.heap ⟨hp.push (zQ ka t1),g,d,tk,os⟩) t2 ys:=let ⟨o,e,z⟩:=g2;⟨o,bC _ e,z⟩
  wp_walk using jk gA,jk gB
  exact⟨_,rfl,h⟩
theorem Bk{t1 t2:Addr}{xs ys:Array Value}{Q:Value->Shared->Prop}(g1:uX ka s.heap t1 xs)(g2:uX kb s.heap t2 ys)(q:∀h',IsZip h' (s.heap.objs.size+4) (s.heap.objs.size+2) (s.heap.objs.size+3) .none->IsPair h' (s.heap.objs.size+2) (.ref s.heap.objs.size) (.ref (s.heap.objs.size+1))->IsPair h' (s.heap.objs.size+3) .none .none->
   fw ka h' s.heap.objs.size t1 0->fw kb h' (s.heap.objs.size+1) t2 0->(∀c o,s.heap.get? c=some o->h'.get? c=some o)->Q (.ref (s.heap.objs.size+4)) { s with heap:=h' }):
  wpAny (model prog w) A (call (.type "zip") [.ref t1,.ref t2]) Q E s:=by
 refine callType_new F.called_zip (by decide) (F.typeCall_zip_2 _ _) (F.newCall_zip_2 _ _) (fun obj=>F.args_object_init_3 obj _ _) F.entry_zip_new (D_ t1 t2 xs ys) ⟨g1,g2,?_⟩;have n1:(s.heap.push (zQ ka t1)).objs.size=s.heap.objs.size+1:=iR ..;have n2:((s.heap.push (zQ ka t1)).push (zQ kb t2)).objs.size=s.heap.objs.size+2:=by rw[iR,n1]
 have n3:(Q4 ka kb s.heap t1 t2).objs.size=s.heap.objs.size+3:=by rw[iR,n2]
 have n4:(Q5 ka kb s.heap t1 t2).objs.size=s.heap.objs.size+4:=by rw[iR,n3]
 have e5:(Mg ka kb s.heap t1 t2).get? (Q5 ka kb s.heap t1 t2).objs.size=some _:=cC _ rfl;have e4:(Mg ka kb s.heap t1 t2).get? (Q4 ka kb s.heap t1 t2).objs.size=some _:=bC _ (cC _ rfl);have e3:(Mg ka kb s.heap t1 t2).get? ((s.heap.push (zQ ka t1)).push (zQ kb t2)).objs.size=some _:=bC _ (bC _ (cC _ rfl));have e2:(Mg ka kb s.heap t1 t2).get? (s.heap.push (zQ ka t1)).objs.size=some _:=bC _ (bC _ (bC _ (cC _ rfl)));have e1:(Mg ka kb s.heap t1 t2).get? s.heap.objs.size=some _:=bC _ (bC _ (bC _ (bC _ (cC _ rfl))));change _/\_;rw[n2,n3,n4] at e5;rw[n1,n2] at e3;rw[n3] at e4;rw[n1] at e2;rw[n4];exact⟨⟨_,e5,rfl⟩,q _ e5 e3 e4 ⟨_,e1,rfl,rfl⟩ ⟨_,e2,rfl,rfl⟩ fun c o y=>
  bC _ (bC _ (bC _ (bC _ (bC _ y))))⟩
end
def yC(ka kb:Bool)(K:PySem.W.Frag)(a b:Addr):It:=
 ⟨fun i H=>∃xs ys x y,BI ka K H a xs/\BI kb K H b ys/\xs[i]?=some x/\ys[i]?=some y,fun i H v H'=>∃p x y,v=.ref p/\H p=none/\H'=upd H p (.tup [x,y])/\(∀xs,BI ka K H a xs->xs[i]?=some x)/\∀ys,BI kb K H b ys->ys[i]?=some y,fun i H=>∃xs,BI ka K H a xs/\xs.length<=i,fun _ _=>False⟩
theorem Bm{P:Program}{w:World}{K:PySem.W.Frag}{es:List Expr}{x1:Nat}{pos:Pos}(a b z ti tq i1 i2:Addr)(dj:ZipApart z ti tq i1 i2 a b):
  vc P w K (.Tuple es x1 pos) (yC ka kb K a b) [z,ti,tq,i1,i2] z (fun i h=>IsZip h z ti tq .none/\IsPair h ti (.ref i1) (.ref i2)/\(∃u v,IsPair h tq u v)/\fw ka h i1 a i/\fw kb h i2 b i) where
 mem:=by simp
 obj:=fun i h st c hc=>by
  obtain⟨gz,gi,⟨u,v,gq⟩,⟨o1,q1,c1,d1⟩,⟨o2,q2,c2,d2⟩⟩:=st;simp only[bg,jQ,gx] at hc;rcases hc with rfl|rfl|rfl|rfl|rfl
  .exact⟨_,gz,fun v z=>by have z':Data.fields _=Data.cell v:=z;cases z'⟩
  .exact⟨_,gi,fun v z=>by have z':Data.seq _ _=Data.cell v:=z;cases z'⟩
  .exact⟨_,gq,fun v z=>by have z':Data.seq _ _=Data.cell v:=z;cases z'⟩
  .exact⟨o1,q1,fun v z=>by rw[d1] at z;cases z⟩
  .exact⟨o2,q2,fun v z=>by rw[d2] at z;cases z⟩
 keep:=fun i h h' st k=>by
  obtain⟨gz,gi,⟨u,v,gq⟩,r1,r2⟩:=st;exact⟨k z (by simp) _ gz,k ti (by simp) _ gi,⟨u,v,k tq (by simp) _ gq⟩,r1.at fun o q=>k i1 (by simp) o q,r2.at fun o q=>k i2 (by simp) o q⟩
 item:=by
  intro X hP hw hK i ae s σ H E xB I hf st hg;subst hP hw hK;have hc:X.calm=true:=xB.elim id fun z=>(show False from z).elim;obtain⟨xs,ys,x,y,hx,hy,ex,ey⟩:=hg;obtain⟨us,rx,px,_⟩:=I.q hx;obtain⟨vs,ry,py,_⟩:=I.q hy;obtain⟨u,hu,ru⟩:=rx.get ex;obtain⟨v,hv,rv⟩:=ry.get ey;obtain⟨gz,gi,⟨u0,v0,gq⟩,r1,r2⟩:=st;refine yA dj gz gi gq r1 r2 px py (x:=u) (y:=v) (by simpa using hu) (by simpa using hv) fun h1 GV ZL TJ ZM ZN kp=>?_;refine⟨_,rfl,wpAny_letOwnedTupleGo_zip GV fun h2 Q3 qr=>?_⟩;have zl:z<s.heap.objs.size:=aQ gz;have nz:s.heap.objs.size≠z:=gu zl;have WK:∀c o,c∉[z,tq,i1,i2]->s.heap.get? c=some o->h2.get? c=some o:=fun c o hc e=>by
   simp only[bg,jQ,gx,not_or] at hc;exact bY qr hc.1 (kp c o hc.1 hc.2.1 hc.2.2.1 hc.2.2.2 e)
  have ZO:IsPair h2 ti (.ref i1) (.ref i2):=WK _ _ (by simp only[bg,jQ,gx,not_or];exact⟨dj.TIz,dj.TITO,dj.TIi1,dj.TIi2⟩) gi;have fe:∀e∈[z,tq,i1,i2],gW X ae H e:=fun e he=>hf e (by simp only[bg,jQ,gx] at he |-;rcases he with h|h|h|h <;> simp[h]);have I2:aF X ae σ (upd H s.heap.objs.size (.tup [x,y])) { s with heap:=h2,toks:=s.toks }:=
   I.Ge (its:=[u,v]) fe WK (a9 _) (by show 2<=sizeLine;decide) (.cons ru (.cons rv .nil)) (bY qr nz ZN)
  refine⟨.ref s.heap.objs.size,_,I2,rfl,⟨_,x,y,rfl,I.bq.fresh (a9 _),rfl,fun zs hz=>by rw[I.IG hz hx];exact ex,fun zs hz=>by rw[I.IG hz hy];exact ey⟩,⟨Q3,ZO,⟨u,v,bY qr dj.TOz ZL⟩,jj TJ qr dj.i1z,jj ZM qr dj.i2z⟩,fun c hc=>?_⟩;have f0:=(hf c hc).1;have cl:c<s.heap.objs.size:=by
   simp only[bg,jQ,gx] at hc;rcases hc with rfl|rfl|rfl|rfl|rfl
   .exact zl
   .exact aQ gi
   .exact aQ gq
   .obtain⟨o,q,_⟩:=r1;exact aQ q
   .obtain⟨o,q,_⟩:=r2;exact aQ q
  rw[ao (aT cl)];exact f0
 done:=by
  intro X hP hw hK i ae s σ H E xB I hf st hg;subst hP hw hK;have hc:X.calm=true:=xB.elim id fun z=>(show False from z).elim;obtain⟨xs,hx,hi⟩:=hg;obtain⟨us,rx,px,_⟩:=I.q hx;obtain⟨gz,gi,⟨u0,v0,gq⟩,r1,r2⟩:=st;have hl:=rx.length;refine yB (I.ok.hd hc) dj gz gi r1 px (by simp;lia) fun h' kp=>⟨rfl,?_⟩
  have fe:∀e∈[z,i1],gW X ae H e:=fun e he=>hf e (by simp only[bg,jQ,gx] at he |-;rcases he with h|h <;> simp[h]);refine I.Gd (t':=s.toks) fe fun c o hc e=>?_;simp only[bg,jQ,gx,not_or] at hc;exact kp c o hc.1 hc.2 e
 self:=fun _ _ _ _ _ st h=>wpAny_pyIter_zip st.1 h
section
variable {X:Cx}
def Oy(ka kb:Bool)(K:PySem.W.Frag)(ta:TA):TI:=fun σ H R=>ta σ H fun vs H1=>∃a b xs ys,vs=[.ref a,.ref b]/\BI ka K H1 a xs/\BI kb K H1 b ys/\xs.length=ys.length/\R (yC ka kb K a b) H1
theorem oh{es:List Expr}{x1:Nat}{Fw:Pos}{a b:Expr}{ta:TA}{p pos:Pos}(hg:Gl X "zip")(hm:X.mg "zip"=none)(ha:PA X [a,b] ta)(hs:starEach [a,b] X.env=[(false,eval a X.env),(false,eval b X.env)]:=by rfl)(tw:starEach [b] X.env=[(false,eval b X.env)]:=by rfl):
  PI X (.Tuple es x1 Fw) (.Call (.Name "zip" p) [a,b] [] pos) (Oy ka kb X.K ta):=by
 intro ae s σ H R I h;refine Call_ (kq I hg hm PyProof.Rows.boot_zip (rK (cE (ha pos ae s σ H _ I h) fun us s1 ⟨vs,H1,I1,r1,q1⟩=>?_) (by rw[hs,tw]) (by rw[tw];rfl)));obtain⟨l,m,xs,ys,rfl,hl,ZP,AX,q⟩:=q1;obtain⟨u1,u2,rfl,SK,ZQ⟩:=r1.two;obtain rfl:u1=Value.ref l:=SK;obtain rfl:u2=Value.ref m:=ZQ;obtain⟨its,rv,pt,_⟩:=I1.q hl;obtain⟨pF,rv2,WL,_⟩:=I1.q ZP;have dX:l<s1.heap.objs.size:=by obtain⟨o,e,_⟩:=pt;exact aQ e
 have Ea:m<s1.heap.objs.size:=by obtain⟨o,e,_⟩:=WL;exact aQ e
 refine Bk pt WL fun h' gz gi gq r1 r2 k=>?_;refine wpAny_pyIter_zip gz ?_;have I2:aF X ae σ H1 { s1 with heap:=h' }:=I1.kept (t':=s1.toks) k;refine⟨s1.heap.objs.size+4,[s1.heap.objs.size+4,s1.heap.objs.size+2,s1.heap.objs.size+3,s1.heap.objs.size,s1.heap.objs.size+1],_,_,H1,rfl,I2,Bm l m _ _ _ _ _ (zipApart_new dX Ea),⟨gz,gi,⟨_,_,gq⟩,r1,r2⟩,fun b hb=>?_,q⟩;have qF:s1.heap.objs.size<=b:=by
  simp only[bg,jQ,gx] at hb;rcases hb with rfl|rfl|rfl|rfl|rfl
  .exact r_ _ _
  .exact r_ _ _
  .exact r_ _ _
  .exact a9 _
  .exact r_ _ _
 exact I1.An qF (I1.bq.fresh qF)
theorem Bn{K:PySem.W.Frag}{a b D:Addr}{xs ys:List V}{g:TG}{tt:TT}{te:TE}{fin:Hp->Prop}{σB:St}{H0:Hp}(AX:xs.length=ys.length)(Pv:Nat->List V->St->Hp->Prop)(h0:Pv 0 [] σB H0)(hl:∀i zs σ H,i<=xs.length->Pv i zs σ H->BI ka K H a xs/\BI kb K H b ys)(hs:∀i x y p zs σ H (Kt:V->St->Hp->Prop) (Kf:St->Hp->Prop),xs[i]?=some x->ys[i]?=some y->Pv i zs σ H->H p=none->
   (∀v σ2 H4,H4 D=some (.lst zs)->zs.length<sizeLine->Pv (i+1) (zs++[v]) σ2 (upd H4 D (.lst (zs++[v])))->Kt v σ2 H4)->(∀σ2 H3,Pv (i+1) zs σ2 H3->Kf σ2 H3)->
   g (.ref p) σ (upd H p (.tup [x,y])) fun σ2 H2=>tt σ2 H2 fun b H3=>if b=true then te σ2 H3 fun v H4=>Kt v σ2 H4 else Kf σ2 H3)(hd:∀zs σ H,Pv xs.length zs σ H->fin H):jS (yC ka kb K a b) g tt te D fin σB H0:=by
 refine⟨fun i m σ H=>m=xs.length-i/\i<=xs.length/\∃zs,Pv i zs σ H,⟨xs.length,by simp,cN _,[],h0⟩,?_⟩;rintro i m σ H ⟨rfl,hi,zs,p⟩;obtain⟨q1,q2⟩:=hl i zs σ H hi p;by_cases dX:i<xs.length
 .have Ea:i<ys.length:=by lia
  refine .inr ⟨⟨xs,ys,xs[i],ys[i],q1,q2,by simp[dX],by simp[Ea]⟩,?_⟩;rintro v H' ⟨pp,x,y,rfl,hn,rfl,BH,KJ⟩;exact hs i x y pp zs σ _ (fun v σ2 H4=>∃zs,H4 D=some (.lst zs)/\zs.length<sizeLine/\∃m',m'<xs.length-i/\m'=xs.length-(i+1)/\i+1<=xs.length/\∃BG,Pv (i+1) BG σ2 (upd H4 D (.lst (zs++[v]))))
   (fun σ2 H3=>∃m',m'<xs.length-i/\m'=xs.length-(i+1)/\i+1<=xs.length/\∃BG,Pv (i+1) BG σ2 H3) (BH xs q1) (KJ ys q2) p hn
   (fun v σ2 H4 z1 z2 z3=>⟨zs,z1,z2,_,by lia,rfl,dX,_,z3⟩) (fun σ2 H3 z=>⟨_,by lia,rfl,dX,_,z⟩)
 .have e:i=xs.length:=by lia
  subst e;exact .inl ⟨⟨xs,q1,a9 _⟩,hd zs σ H p⟩
end
theorem GX{X:Cx}:Qp X .FloorDiv (fun x y H Q=>∃i j,x=.int i/\y=.int j/\Jq i j/\Q (.int (i / j)) H):=by
 intro ae s σ H x y v u Q I r1 r2 h;exact Ch ae s σ H x y v u Q I r1 r2 h
end L2
namespace pV
open PySem L2 iI
abbrev GY:Stmt:=dB (gK 42) 0
abbrev KL:Stmt:=dB (gK 42) 3
abbrev KM:Stmt:=dB (gK 42) 4
structure Bx(ns:List Nat):Prop where
 l1:1<=ns.length
 l5:ns.length<=5
 sd:∀x∈ns,2<=x/\x<=8
 rE:pr ns<=32
theorem Bx.pos{ns:List Nat}(B:Bx ns):∀x∈ns,0<x:=fun x hx=>by have:=B.sd x hx;lia
abbrev uY(ns:List Nat):Ts:=kM ((ix ns).map n_)
structure GZ(K:PySem.W.Frag)(mg:Str->Option Value)(CB:Addr):Prop where
 cl:As K CB
 nN:fc K CB "tied_net"
 nS:fc K CB "side_row"
 QK:mg "Box"=some (.ref CB)
def Eb(pn sr:Addr):List (Str×V):=cx "side_row" (.ref sr) (cx "tied_net" (.ref pn) [])
theorem ZR:¬ (("tied_net":Str)="side_row"):=by decide +kernel
theorem Oz{pn sr:Addr}:(Eb pn sr).lookup ("tied_net":Str)=some (.ref pn):=by unfold Eb;rw[aI,au ZR,aI,aq rfl]
theorem v8{pn sr:Addr}:(Eb pn sr).lookup ("side_row":Str)=some (.ref sr):=by unfold Eb;rw[aI,aq rfl]
theorem uB{pn sr:Addr}{m:Str}(h1:¬ m="tied_net")(h2:¬ m="side_row"):(Eb pn sr).lookup m=none:=by unfold Eb;rw[aI,au h2,aI,au h1];rfl
structure hJ(C CB:Addr)(H:Hp)(L:Addr->Prop)(b:Addr)(ns:List Nat):Prop where
 bx:Bx ns
 ob:∃dx pn sr,H b=some (.ins CB dx (Eb pn sr))/\dL C H L pn (pr ns) (uY ns)/\H sr=some (.tup (NV ns))
theorem hJ.same{C CB b:Addr}{H H':Hp}{L:Addr->Prop}{ns:List Nat}(h:hJ C CB H L b ns)(s:aV H H'):hJ C CB H' L b ns:=
 let ⟨dx,pn,sr,a,c,d⟩:=h.ob
 ⟨h.bx,dx,pn,sr,s _ _ a,c.same s,s _ _ d⟩
abbrev Q6(K:PySem.W.Frag)(H:Hp)(x:V)(o:Option Int):Prop:=∀H',aV H H'->Wh K H' x o
section
variable {P:Program} {w:World} {K:PySem.W.Frag} {mg:Str->Option Value} {base:Heap}
theorem OA:aE ["self","sides"] ["self","sides"] (aj GY):=⟨rfl,rfl,rfl,by decide +kernel,rfl,by decide +kernel,by decide +kernel⟩
theorem uC{ns:List Nat}(B:Bx ns):v3 (some (ns.map fun (n:Nat)=>some (n:Int)))=some ns:=by
 have e:iK (ns.map fun (n:Nat)=>some (n:Int))=ns:=by
  unfold iK;rw[eO];conv=>rhs;rw[<-ic ns]
  exact kT fun n _=>rfl
 unfold v3;dsimp only;rw[e,aq];rw[aZ,bJ B.l1,bJ B.l5,bJ B.rE,Bool.and_true,sJ,sJ,iQ];intro o ho;obtain⟨n,hn,rfl⟩:=bu.mp ho;have:=B.sd n hn;unfold aJ;simp;lia
theorem II{H:Hp}{a:Addr}{ns:List Nat}(h:H a=some (.tup (NV ns))):Sd K H (.ref a) (some (ns.map fun (n:Nat)=>some (n:Int))):=by
 refine .tup h (by rw[aZ,aZ]) fun i x o hx ho=>?_;obtain⟨n,hn,rfl⟩:=iG hx;rw[bi,hn] at ho;cases ho;exact .int _
end
theorem qd{pn sr:Addr}:(Eb pn sr).lookup ("place":Str)=none:=uB (by decide +kernel) (by decide +kernel)
theorem v9{pn sr:Addr}:(Eb pn sr).lookup ("house":Str)=none:=uB (by decide +kernel) (by decide +kernel)
theorem Ec{ns:List Nat}(h:∀x∈ns,0<x):0<pr ns:=by
 induction ns with
 |nil=>exact Nat.one_pos
 |cons n ns ih=>exact l9 (h n ci) (ih fun x hx=>h x (b8 _ hx))
theorem G0{K:PySem.W.Frag}{a b:Addr}{xs ys:List V}{g:TG}{tb:TS}{D:sX}{σ:St}{H:Hp}(AX:xs.length=ys.length)(Pv:Nat->St->Hp->Prop)(h0:Pv 0 σ H)(hl:∀i σ H,i<=xs.length->Pv i σ H->cI K H a xs/\cI K H b ys)(hs:∀i x y p σ H,xs[i]?=some x->ys[i]?=some y->Pv i σ H->H p=none->g (.ref p) σ (upd H p (.tup [x,y])) fun σ2 H2=>tb { D with nx:=Pv (i+1),ct:=Pv (i+1),bk:=D.nx } σ2 H2)(hd:∀σ H,Pv xs.length σ H->D.nx σ H):
  ∃W:Nat->Nat->St->Hp->Prop,(∃m,W 0 m σ H)/\∀i m σ H,W i m σ H->
   ((yC false false K a b).stop i H/\D.nx σ H)\/((yC false false K a b).go i H/\∃N:St->Hp->Prop,(∀σ' H',N σ' H'->∃m',m'<m/\W (i+1) m' σ' H')/\∀x H',(yC false false K a b).Fn i H x H'->g x σ H' fun σ2 H2=>tb { D with nx:=N,ct:=N,bk:=D.nx } σ2 H2):=by
 refine⟨fun i m σ H=>m=xs.length-i/\i<=xs.length/\Pv i σ H,⟨xs.length,by simp,cN _,h0⟩,?_⟩;rintro i m σ H ⟨rfl,hi,p⟩;obtain⟨q1,q2⟩:=hl i σ H hi p;by_cases dX:i<xs.length
 .have Ea:i<ys.length:=by lia
  refine .inr ⟨⟨xs,ys,xs[i],ys[i],q1,q2,by simp[dX],by simp[Ea]⟩,Pv (i+1),fun σ' H' p'=>⟨xs.length-(i+1),by lia,rfl,dX,p'⟩,?_⟩;rintro v H' ⟨pp,x,y,rfl,hn,rfl,BH,KJ⟩;exact hs i x y pp σ _ (BH xs q1) (KJ ys q2) p hn
 .have e:i=xs.length:=by lia
  subst e;exact .inl ⟨⟨xs,q1,a9 _⟩,hd σ H p⟩
section
variable {P:Program} {w:World} {K:PySem.W.Frag} {mg:Str->Option Value} {base:Heap}
theorem z9:aE ["self","house","numbers","side"] ["self","house"] (aj KL):=⟨rfl,rfl,rfl,by decide +kernel,rfl,by decide +kernel,by decide +kernel⟩
def v_(K:PySem.W.Frag)(C CB CE:Addr):Sp:=fun vs H Q E=>∃ (L:Addr->Prop) (b:Addr) (ns:List Nat) (x:V) (o:Option Int),vs=[.ref b,x]/\hJ C CB H L b ns/\Wh K H x o/\(aJ o 0 ((pr ns:Int)-1)=false->E (.ref CE) none H)/\∀h:Nat,h<pr ns->o=some (h:Int)->∀ (t:Addr) (H':Hp),aV H H'->H' t=some (.tup (NV (hU ns h)))->Q (.ref t) H'
theorem KN{f C CB CE:Addr}{fd:FuncData}(F:eJ K "place" "Box.place" KL f fd)(B:Bl mg)(T:NT K mg C)(TB:GZ K mg CB)(M:eX P w K mg base (dZ P w) 4 C "check_house" ["self","thing"] (lG K C CE)):be P w K mg base (dZ P w) 5 f fd ["self","house"] (v_ K C CB CE):=by
 obtain⟨fM,QL,mM,bM,GM⟩:=M.ex;refine F.FT z9 (fun vs H Q E h=>?_) (fun cm A outer s H vs Q E hr h=>?_)
 .obtain⟨L,b,ns,x,o,rfl,_⟩:=h;rfl
 .obtain⟨L,b,ns,x,o,rfl,⟨BX,dx,pn,sr,hb,N,wa⟩,wh,k1,k2⟩:=h;obtain⟨IJ,tl,ol,ds,h1,_⟩:=N.ob;have l5:=BX.l5;refine⟨_,ah (b_ (dQ (dF (pv 0) rfl) T.cl mM GM hr bM .nil (pI (E':=E) fun _ _ _ z=>z) (aa (pv 1) af)))
   (ah (aK (i:=2) z9.nd rfl (Or.inl rfl) (bX af))
   (ah (cG JH rfl (mj (dF (pv 0) rfl)) (aB (i:=3) z9.nd rfl (Or.inl rfl))
    (ah (b_ (lr kQ kP kO cQ (pv 2) (aa (aR gG (pv 1) (pv 3)) af)))
    (ak (mi (i:=1) z9.nd rfl (Or.inl rfl) (pv 3) GX))))
   (ak (aN (di dw (by rfl) B.tup oo (aa (pv 2) af)))))),?_⟩
  refine⟨_,rfl,b,CB,dx,_,_,rfl,hb,TB.cl,TB.nN,Oz,pn,IJ,_,rfl,h1,Gr _ _ _ _,_,rfl,L,pn,pr ns,_,x,o,rfl,N,wh,k1,fun hw=>?_⟩;obtain⟨h,hh,rfl⟩:=fY hw;obtain rfl:=jf wh;refine⟨by show 0<=sizeLine;decide,fun D hD=>?_⟩;have s0:=ai (o:=.lst []) hD;refine⟨_,rfl,b,CB,dx,_,_,rfl,s0 _ _ hb,TB.cl,TB.nS,v8,sr,rfl,⟨_,cI.of (s0 _ _ wa)⟩,jq (K:=K) (xs:=NV ns) (fun i σ H2=>(∃x,σ=[some (.ref b),some (.int ((h / pr (ns.take i):Nat):Int)),some (.ref D),x])/\aV H H2/\H2 D=some (.lst (NV (hU (ns.take i) h)))) ⟨⟨_,by rw[List.take_zero];show _=[_,some (V.int ((h / 1:Nat):Int)),_,_];rw[o4];rfl⟩,s0,ag⟩ (fun i σ H2 _ z=>cI.of (z.2.1 _ _ wa)) ?_ ?_⟩
  .rintro i x σ H2 hx ⟨⟨x',rfl⟩,sm,oa⟩;obtain⟨n,hv,rfl⟩:=iG hx;have hi:i<ns.length:=(cL.mp hv).1;have WB:=BX.sd n (cT hv);have tk:ns.take (i+1)=ns.take i++[n]:=by rw[eL,hv];rfl
   rw[tk,qb,iz];have dl:(hU (ns.take i) h).length<=5:=by rw[bR,fA];lia
   refine⟨_,rfl,.inl ⟨rfl,_,a_.of oa⟩,_,rfl,_,rfl,_,_,rfl,rfl,(by show (0:Int)<(n:Int);lia),D,_,_,rfl,rfl,oa,by rw[aW];exact du dl (by decide),?_⟩;refine⟨_,rfl,_,rfl,_,_,rfl,rfl,⟨by lia,by lia⟩,⟨some (.int n),?_⟩,cH sm hD,?_⟩
   .rw[<-lT];rfl
   .rw[ag,<-iy];rfl
  .rintro σ H2 ⟨⟨x',rfl⟩,sm,oa⟩;rw[aW,fz] at oa;exact⟨_,rfl,D,_,rfl,.inl ⟨a_.of oa,fun t ht=>k2 h hh rfl t _ (sm.trans (ai ht)) ag⟩⟩
theorem qe:aE ["self","place","total","step","number","side"] ["self","place"] (aj KM):=⟨rfl,rfl,rfl,by decide +kernel,rfl,by decide +kernel,by decide +kernel⟩
end
theorem KO{n d r:Nat}(h:d<n):(d+n*r) % n=d:=by rw[BS,j9 h]
theorem KP{n d r:Nat}(h:d<n):(d+n*r) / n=r:=by rw[Nat.add_mul_div_left _ _ (Nat.zero_lt_of_lt h),xn h,oY]
def l1:List Nat->Nat->Nat->Nat
 |[],_,_=>0
 |n::ns,a,b=>jX (a % n) (b % n)+l1 ns (a / n) (b / n)
theorem uD:∀ {ns:List Nat} {a:Nat},l1 ns a a=0
 |[],_=>rfl
 |n::ns,a=>by
  show jX (a % n) (a % n)+l1 ns (a / n) (a / n)=0;rw[uD];unfold jX;lia
theorem uE:∀ {ns:List Nat} {a b:Nat},a<pr ns->b<pr ns->l1 ns a b=0->a=b
 |[],a,b,ha,hb,_=>by have ha:a<1:=ha;have hb:b<1:=hb;lia
 |n::ns,a,b,ha,hb,h=>by
  have h:jX (a % n) (b % n)+l1 ns (a / n) (b / n)=0:=h;have e:=uE (mR ha) (mR hb) (by lia:l1 ns (a / n) (b / n)=0);have m:a % n=b % n:=by unfold jX at h;lia
  rw[<-sq a n,<-sq b n,m,e]
theorem Ed:∀ {ns:List Nat} {k a b c:Nat},Mf ns k a b->l1 ns a c<=l1 ns b c+1/\l1 ns b c<=l1 ns a c+1
 |[],_,_,_,_,h=>h.elim
 |n::ns,0,a,b,c,⟨h,e⟩=>by
  subst e;obtain⟨s1,s2⟩:=eG h;show jX (a % n) (c % n)+l1 ns (a / n) (c / n)<=jX ((a+1) % n) (c % n)+l1 ns ((a+1) / n) (c / n)+1/\jX ((a+1) % n) (c % n)+l1 ns ((a+1) / n) (c / n)<=jX (a % n) (c % n)+l1 ns (a / n) (c / n)+1;rw[s1,s2];unfold jX;lia
 |n::ns,k+1,a,b,c,⟨e,h⟩=>by
  have ih:=Ed (c:=c / n) h;show jX (a % n) (c % n)+l1 ns (a / n) (c / n)<=jX (b % n) (c % n)+l1 ns (b / n) (c / n)+1/\jX (b % n) (c % n)+l1 ns (b / n) (c / n)<=jX (a % n) (c % n)+l1 ns (a / n) (c / n)+1;rw[e];lia
theorem OB{ns:List Nat}{k a b c:Nat}(h:QX ns a b k):l1 ns a c<=l1 ns b c+1:=by
 rcases h with h|h
 .exact(Ed h).1
 .exact(Ed h).2
theorem uF:∀ {ns:List Nat} {a b d:Nat},(∀x∈ns,0<x)->a<pr ns->b<pr ns->l1 ns a b=d+1->∃c,c<pr ns/\(∃k,QX ns a c k)/\l1 ns c b=d
 |[],_,_,_,_,_,_,h=>by cases h
 |n::ns,a,b,d,hn,ha,hb,h=>by
  have n0:=hn n ci;have h:jX (a % n) (b % n)+l1 ns (a / n) (b / n)=d+1:=h;have la:=ie a n0;have lb:=ie b n0;rcases Nat.lt_trichotomy (a % n) (b % n) with c|c|c
  .have hs:a % n+1<n:=by lia
   obtain⟨s1,s2⟩:=eG hs;refine⟨a+1,?_,⟨0,.inl ⟨hs,rfl⟩⟩,?_⟩
   .rw[<-sq (a+1) n,s1,s2];have q:=mU n (Nat.succ_le_of_lt (mR ha));rw[Nat.mul_succ] at q;show _<n*pr ns;lia
   .show jX ((a+1) % n) (b % n)+l1 ns ((a+1) / n) (b / n)=d;rw[s1,s2];unfold jX at h |-;lia
  .have e:l1 ns (a / n) (b / n)=d+1:=by rw[c] at h;unfold jX at h;lia
   obtain⟨c',hc,⟨k,t⟩,hl⟩:=uF (fun x hx=>hn x (b8 _ hx)) (mR ha) (mR hb) e;have m1:(a % n+n*c') % n=a % n:=KO la;have m2:(a % n+n*c') / n=c':=KP la;refine⟨a % n+n*c',?_,⟨k+1,?_⟩,?_⟩
   .have q:=mU n (Nat.succ_le_of_lt hc);rw[Nat.mul_succ] at q;show _<n*pr ns;lia
   .rcases t with t|t
    .exact .inl ⟨m1.symm,by rw[m2];exact t⟩
    .exact .inr ⟨m1,by rw[m2];exact t⟩
   .show jX ((a % n+n*c') % n) (b % n)+l1 ns ((a % n+n*c') / n) (b / n)=d;rw[m1,m2,hl,c];unfold jX;lia
  .obtain⟨a',rfl⟩:∃a',a=a'+1:=⟨a-1,by
    rcases xa a with z|z
    .rw[z,Nat.zero_mod] at c;lia
    .lia⟩
   have hs:a' % n+1<n:=(yz n0).mpr (by lia);obtain⟨s1,s2⟩:=eG hs;refine⟨a',by lia,⟨0,.inr ⟨hs,rfl⟩⟩,?_⟩;show jX (a' % n) (b % n)+l1 ns (a' / n) (b / n)=d;rw[s1,s2] at h;rw[s2] at c;unfold jX at h |-;lia
theorem uG{ns:List Nat}{a b:Nat}(BX:Bx ns)(FI:iJ (pr ns) (uY ns))(ha:a<pr ns)(hb:b<pr ns):far (uY ns) a b=l1 ns a b:=by
 have low:∀k a,a<pr ns->eW (uY ns) k a b->l1 ns a b<=k:=by
  intro k;induction k with
  |zero=>intro a _ w;have w:a=b:=w;rw[w,uD];exact a9 _
  |succ k ih=>
   intro a ha w;obtain⟨c,t,w⟩:=w.Dr;have hc:c<pr ns:=Int.ofNat_lt.mp (FI.rg _ t).2.2;obtain⟨j,tj⟩:=(jD BX.pos ha hc).mp t;have:=OB (c:=b) tj;have:=ih c hc w;lia
 have up:∀d a,a<pr ns->l1 ns a b=d->eW (uY ns) d a b:=by
  intro d;induction d with
  |zero=>intro a ha e;exact uE ha hb e
  |succ d ih=>
   intro a ha e;obtain⟨c,hc,⟨k,t⟩,e2⟩:=uF BX.pos ha hb e;exact eW.cons ((jD BX.pos ha hc).mpr ⟨k,t⟩) (ih c hc e2)
 exact Ds ⟨up _ a ha rfl,fun k w=>low k a ha w⟩
abbrev KQ:Stmt:=gK 44
abbrev TK:Stmt:=gK 45
structure WM(mg:Str->Option Value):Prop where
 abs:mg "abs"=none
 divmod:mg "divmod"=none
 dict:mg "dict"=none
 zip:mg "zip"=none
 repr:mg "repr"=none
def bL(H:Hp)(p:Addr):Prop:=∃a b:Int,H p=some (.lst [.int a,.int b])/\0<=a/\0<=b/\b<4294967296
theorem bL.same{H H':Hp}{p:Addr}(h:bL H p)(s:aV H H'):bL H' p:=let ⟨a,b,e,r⟩:=h;⟨a,b,s _ _ e,r⟩
theorem bL.full{H:Hp}{p:Addr}(h:bL H p):H p≠none:=by obtain⟨a,b,e,_⟩:=h;rw[e];intro z;cases z
theorem bL.ne{H:Hp}{p q:Addr}(h:bL H p)(e:H q=none):q≠p:=by rintro rfl;exact h.full e
theorem bL.put{H:Hp}{p q:Addr}{o:HO}(h:bL H p)(n:p≠q):bL (upd H q o) p:=let ⟨a,b,e,r⟩:=h;⟨a,b,by rw[ao n];exact e,r⟩
theorem bL.neT{H:Hp}{p q:Addr}{xs:List V}(h:bL H p)(e:H q=some (.tup xs)):q≠p:=by rintro rfl;obtain⟨a,b,z,_⟩:=h;rw[e] at z;cases z
theorem TN{j:Int}(h1:0<j)(h2:j<2 ^ 200):Nat.log2 j.natAbs<200:=(Nat.log2_lt (by lia)).mpr (by lia)
theorem uH{X:Cx}:eR X (.builtin "divmod") (fun xs H Q=>∃i j,xs=[.int i,.int j]/\(0<j/\j<2 ^ 200)/\∀p,H p=none->Q (.ref p) (upd H p (.tup [.int (i / j),.int (i % j)]))):=by
 intro ae s σ H xs us Q I r h;obtain⟨i,j,rfl,⟨h1,h2⟩,q⟩:=h;obtain⟨u,w',rfl,⟨t,rfl⟩,⟨t',rfl⟩⟩:=Cn r;refine PyProof.Rows.divmod_int (by lia) ?_ (.inl (PyProof.noPylong_of_log2 (Nat.lt_trans (TN h1 h2) (by decide))));rw[rM i (by lia),wD i (by lia)];have hn:H s.heap.objs.size=none:=I.bq.fresh (a9 _);refine⟨.ref s.heap.objs.size,_,?_,rfl,q _ hn⟩;refine I.laid (fun b o e=>bC _ e) (a9 _) ⟨by simp only[cM,List.length_nil];rw[iV];decide,[.int (i / j) s.toks,.int (i % j) (s.toks+1)],.cons ⟨_,rfl⟩ (.cons ⟨_,rfl⟩ .nil),?_⟩;exact⟨_,cC s.heap rfl,rfl,0,rfl,rfl⟩
theorem KR{X:Cx}:lR X (binaryOp .RShift) (rI (fun i j=>0<=j/\((2 ^ j.toNat:Nat):Int)<=i) fun i j=>.int (i / ((2 ^ j.toNat:Nat):Int))):=LX fun i j _ _ _ _ _ hc q=>by
 have h1:0<=j:=hc.1;have h2:((2 ^ j.toNat:Nat):Int)<=i:=hc.2;have h3:0<2 ^ j.toNat:=Nat.two_pow_pos _;refine PySem.AutoIntOps.rshift_2 (by lia) (fun z=>?_) ?_
 .have n0:i.natAbs≠0:=by lia
  have:¬ i.natAbs.log2<j.toNat:=fun y=>by
   have:=(Nat.log2_lt n0).mp y;lia
  unfold Builtin.Int.intBits at z;rw[au (by simp;lia)] at z;lia
 .rw[rM i (Int.pow_nonneg (by decide)),show (2:Int) ^ j.toNat=((2 ^ j.toNat:Nat):Int) by rw[Int.natCast_pow];rfl];exact q
section
variable {P:Program} {w:World} {K:PySem.W.Frag} {mg:Str->Option Value} {base:Heap}
theorem Ee:aE ["_law_script","_law_k","_law_cell"] ["_law_script","_law_k"] (aj KQ):=⟨rfl,rfl,rfl,by decide +kernel,rfl,by decide +kernel,by decide +kernel⟩
def Ef(K:PySem.W.Frag):Sp:=fun vs H Q _=>∃ (a:Addr) (ns:List Int) (k:Nat),vs=[.ref a,.int k]/\a_ K H a (ns.map V.int)/\k<64/\∀ (r:Addr) (H':Hp),aV H H'->H r=none->bL H' r->Q (.ref r) H'
theorem KT{f:Addr}{fd:FuncData}(F:eJ K "_law_pot" "_law_pot" KQ f fd)(B:Bl mg):be P w K mg base br 1 f fd ["_law_script","_law_k"] (Ef K):=by
 refine F.ok Ee (fun vs H Q E h=>?_) (fun cm A outer s H vs Q E hr h=>?_)
 .obtain⟨a,ns,k,rfl,_⟩:=h;rfl
 .obtain⟨a,ns,k,rfl,hS,hk,q⟩:=h;refine⟨_,(ah (aK (i:=2) Ee.nd rfl (Or.inl rfl) az)
   (ah (bZ (a8 vd (pv 1) (av aS (by rfl) B.len d9 (aa (pv 0) af)) (bb _)) (ak (aK (i:=2) Ee.nd rfl (Or.inl rfl) (cy bj (pv 0) (pv 1) (fun _ _=>rfl)))) aX)
   (ak (aN (bX (aa (av (qT rfl) (by rfl) B.max PyProof.Rows.boot_max (aa az (aa (aR gC (pv 2) (aR tf az az)) af))) (aa (aR dP (aR gG (aR tf (aR dP (aR gG (pv 2) az) (aR pi az (aR dP (pv 1) az))) az) az) az) af))))))),?_⟩
  refine Iy (fun σ Hc=>H=Hc/\σ=[some (.ref a),some (.int k),some (.int 0)]) ?_ (fun N hN=>hN _ _ ⟨rfl,rfl⟩);rintro σ _ ⟨rfl,rfl⟩;refine Iy (fun σ Hc=>H=Hc/\∃c:Int,σ=[some (.ref a),some (.int k),some (.int c)]) ?_ ?_
  rotate_left
  .intro N hN;refine⟨_,rfl,_,rfl,a,_,rfl,.inl hS,_,_,rfl,rfl,_,rfl,mx (fun e=>?_) (fun e=>hN _ _ ⟨rfl,0,rfl⟩)⟩;have e:k<ns.length:=by have:=dH e;rw[aZ] at this;lia
   exact⟨_,rfl,_,rfl,a,_,_,_,rfl,rfl,hS,bf (by rw[bi,cV e];rfl),hN _ _ ⟨rfl,_,rfl⟩⟩
  rintro σ _ ⟨rfl,c,rfl⟩;have m0:0<=c % 2147483629:=l7 _ (by decide);have m1:c % 2147483629<2147483629:=lX _ (by decide);refine⟨_,rfl,_,_,rfl,rfl,⟨by decide,by decide,by decide⟩,_,_,rfl,rfl,0,_,rfl,_,rfl,_,_,rfl,rfl,(by show (0:Int)<2147483629;decide),_,rfl,_,_,rfl,rfl,_,_,rfl,rfl,.inl ⟨by decide,by decide⟩,_,_,rfl,rfl,_,_,rfl,rfl,⟨by decide,by decide,by show (c % 2147483629+40503*((k:Int)+1)).natAbs<2 ^ 64;lia⟩,_,_,rfl,rfl,(by show (0:Int)<2147483563;decide),_,_,rfl,rfl,by show 2<=sizeLine;decide,fun r BF=>?_⟩;have v0:0<=(c % 2147483629+40503*((k:Int)+1)) ^ Int.toNat 3 % 2147483563:=l7 _ (by decide);have v1:(c % 2147483629+40503*((k:Int)+1)) ^ Int.toNat 3 % 2147483563<2147483563:=lX _ (by decide);refine q r _ (ai BF) BF ⟨_,_,ag,by split <;> lia,?_,?_⟩
  .show 0<=(c % 2147483629+40503*((k:Int)+1)) ^ Int.toNat 3 % 2147483563+1;generalize (c % 2147483629+40503*((k:Int)+1)) ^ Int.toNat 3 % 2147483563=z at *;lia
  .show (c % 2147483629+40503*((k:Int)+1)) ^ Int.toNat 3 % 2147483563+1<_;generalize (c % 2147483629+40503*((k:Int)+1)) ^ Int.toNat 3 % 2147483563=z at *;lia
theorem OC:aE ["_law_pot_here","_law_many_here","_law_digit"] ["_law_pot_here","_law_many_here"] (aj TK):=⟨rfl,rfl,rfl,by decide +kernel,rfl,by decide +kernel,by decide +kernel⟩
def wc:Sp:=fun vs H Q _=>∃ (p:Addr) (m:Nat),vs=[.ref p,.int m]/\0<m/\m<2 ^ 200/\bL H p/\∀ (d:Nat) (H':Hp),d<m->aD p H H'->bL H' p->Q (.int d) H'
theorem OD{f:Addr}{fd:FuncData}(F:eJ K "_law_draw" "_law_draw" TK f fd)(B2:WM mg):be P w K mg base br 1 f fd ["_law_pot_here","_law_many_here"] wc:=by
 refine F.ok OC (fun vs H Q E h=>?_) (fun cm A outer s H vs Q E hr h=>?_)
 .obtain⟨p,m,rfl,_⟩:=h;rfl
 .obtain⟨p,m',rfl,m0',m1',⟨a,b,hp,a0,b0,b1⟩,q'⟩:=h;generalize hm:((m':Nat):Int)=m;have m0:0<m:=by lia
  have m1:m<2 ^ 200:=by lia
  have q:∀ (d a b:Int) (H':Hp),0<=d->d<m->0<=a->0<=b->b<4294967296->aD p H H'->H' p=some (.lst [.int a,.int b])->Q (.int d) H':=fun d a b H' h1 h2 h3 h4 h5 h6 h7=>by
   have:=q' d.toNat H' (by lia) h6 ⟨a,b,h7,h3,h4,h5⟩;rw[rW h1] at this;exact this
  refine⟨_,(ah (bZ (a8 Ck (cy bj (pv 0) az (fun _ _=>rfl)) az (bb _)) (ah (mh (av uH (by rfl) B2.divmod PyProof.Rows.boot_divmod (aa (cy bj (pv 0) az (fun _ _=>rfl)) (aa (pv 1) af))) (dO (n:=2) rfl (aU (sZ (pv 0) az ln) (aU (aB (i:=2) OC.nd rfl (Or.inl rfl)) cU))))
    (ak (aN (pv 2)))) aX)
   (ah (mh (aR gG (aR dP (aR pi (cy bj (pv 0) az (fun _ _=>rfl)) az) az) az) (sZ (pv 0) az ln))
   (ak (aN (aR gG (aR nR (aR gG (aR pi (cy bj (pv 0) az (fun _ _=>rfl)) (cy bj (pv 0) az (fun _ _=>rfl))) az) az) (pv 1)))))),?_⟩
  have g0:CC [V.int a,V.int b] 0=some (.int a):=bf (j:=0) rfl;have g1:CC [V.int a,V.int b] 1=some (.int b):=bf (j:=1) rfl;refine⟨_,rfl,p,_,_,_,rfl,rfl,a_.of hp,g0,_,_,rfl,rfl,_,rfl,?_⟩;refine mx (fun e=>?_) (fun e=>?_)
  .refine⟨_,rfl,p,_,_,_,rfl,rfl,a_.of hp,g0,_,rfl,_,_,rfl,⟨m0,by lia⟩,fun t ht=>?_⟩;have ZS:p≠t:=am hp ht;refine⟨t,_,rfl,cI.of ag,rfl,_,_,rfl,?_⟩;refine⟨_,rfl,p,_,0,0,rfl,rfl,by rw[ao ZS];exact hp,nZ (j:=0) (by show 0<2;decide),_,_,rfl,rfl,_,rfl,?_⟩;exact q _ _ _ _ (l7 _ (by lia)) (lX _ m0) (Int.ediv_nonneg a0 (by lia)) b0 b1 (fun c o e n=>by rw[ao n,ao (am e ht)];exact e) ag
  .refine⟨_,rfl,p,_,_,_,rfl,rfl,a_.of hp,g1,_,_,rfl,rfl,.inl ⟨by lia,by lia⟩,_,_,rfl,rfl,_,_,rfl,rfl,(by show (0:Int)<2147483629;decide),?_⟩;refine⟨_,rfl,p,_,1,1,rfl,rfl,hp,nZ (j:=1) (by show 1<2;decide),?_⟩;have c0:0<=(b*39373+7919) % 2147483629:=l7 _ (by decide);have c1:(b*39373+7919) % 2147483629<2147483629:=lX _ (by decide);refine⟨_,rfl,p,_,_,_,rfl,rfl,a_.of ag,bf (j:=1) rfl,_,rfl,p,_,_,_,rfl,rfl,a_.of ag,bf (j:=1) rfl,_,_,rfl,rfl,.inl ⟨by lia,by lia⟩,_,_,rfl,rfl,(by show (0:Int)<2147483587;decide),_,_,rfl,rfl,⟨by decide,by decide⟩,_,rfl,_,_,rfl,rfl,m0,?_⟩;exact q _ _ _ _ (l7 _ (by lia)) (lX _ m0) a0 c0 (by lia) aD.upd ag
end
abbrev TQ:Stmt:=gK 46
abbrev TR:Stmt:=gK 47
abbrev TU:Stmt:=gK 48
theorem KU{xs:List V}{k:Nat}:lm xs none (some (k:Int))=xs.take k:=by
 have h1:HT.d_ xs.length 0 none=0:=rfl;have h2:HT.d_ xs.length xs.length (some (k:Int))=min k xs.length:=by
  unfold HT.d_;simp;try lia
 unfold lm;rw[h1,h2,sF,Nat.sub_zero,List.take_eq_take_iff];simp;try lia
section
variable {P:Program} {w:World} {K:PySem.W.Frag} {mg:Str->Option Value} {base:Heap}
theorem yD:aE ["_law_pot_here","_law_found","_law_left","_law_ways","_law_k","_law_most"] ["_law_pot_here"] (aj TQ):=⟨rfl,rfl,rfl,by decide +kernel,rfl,by decide +kernel,by decide +kernel⟩
def KW:Sp:=fun vs H Q _=>∃ (p:Addr),vs=[.ref p]/\bL H p/\∀ (r:Addr) (ns:List Nat) (H':Hp),aD p H H'->bL H' p->H' r=some (.tup (NV ns))->Bx ns->Q (.ref r) H'
theorem OE{f:Addr}{fd:FuncData}(F:eJ K "_law_sides" "_law_sides" TQ f fd)(B:Bl mg)(DR:cP P w K mg base br 1 "_law_draw" ["_law_pot_here","_law_many_here"] wc):be P w K mg base br 2 f fd ["_law_pot_here"] KW:=by
 refine F.ok yD (fun vs H Q E h=>?_) (fun cm A outer s H vs Q E hr h=>?_)
 .obtain⟨p,rfl,_⟩:=h;rfl
 .obtain⟨p,rfl,hp,q⟩:=h;refine⟨_,(ah (aK (i:=1) yD.nd rfl (Or.inl rfl) (bX af))
   (ah (aK (i:=2) yD.nd rfl (Or.inl rfl) az)
   (ah (aK (i:=3) yD.nd rfl (Or.inl rfl) (aR dP az (aH DR hr aO (aa (pv 0) (aa az af)))))
   (ah (cG d8 rfl (ck rfl B.range (aa (pv 3) af)) (aB (i:=4) yD.nd rfl (Or.inl rfl))
    (ah (aK (i:=5) yD.nd rfl (Or.inl rfl) (av (qU rfl) (by rfl) B.min PyProof.Rows.boot_min (aa az (aa (aR KR (pv 2) (aR gC (aR gC (pv 3) az) (pv 4))) af))))
    (ah (b_ (lr kQ kP kO cQ (pv 1) (aa (aR dP az (aH DR hr aO (aa (pv 0) (aa (aR gC (pv 5) az) af)))) af)))
    (ak (aK (i:=2) yD.nd rfl (Or.inl rfl) (aR nR (pv 2) (cy bj (pv 1) (yY tm az) (fun _ _=>rfl))))))))
   (ak (aN (di dw (by rfl) B.tup oo (aa (pv 1) af)))))))),?_⟩
  refine⟨by show 0<=sizeLine;decide,fun Fd hF=>?_⟩;have TV:Fd≠p:=hp.ne hF;have s0:=ai (o:=.lst []) hF;refine⟨_,rfl,p,5,rfl,by decide,by decide,hp.same s0,fun d H1 hd s1 Sk=>⟨_,_,rfl,rfl,?_⟩⟩;obtain⟨W,hW,w1,w5⟩:∃W:Nat,(1+(d:Int))=(W:Int)/\1<=W/\W<=5:=⟨1+d,by lia,by lia,by lia⟩
  change bp 3 (V.int (1+(d:Int))) _ H1 _;rw[hW];refine⟨_,rfl,_,rfl,by lia,by lia,eA (n:=W) (lo:=0) (fun k σ H2=>∃ (rm:Nat) (fs:List Nat) (x4 x5:Option V),σ=[some (.ref p),some (.ref Fd),some (.int rm),some (.int W),x4,x5]/\aD p H H2/\bL H2 p/\H2 Fd=some (.lst (NV fs))/\fs.length=k/\(∀x∈fs,2<=x/\x<=8)/\pr fs*rm<=32/\2 ^ (W-k)<=rm/\rm<=32) ?_ ?_ ?_⟩
  .refine⟨32,[],_,_,rfl,(aD.of s0).trans s1,Sk,s1 _ _ ag TV,rfl,(fun x hx=>nomatch hx),by decide,?_,by decide⟩;exact Nat.pow_le_pow_right (by decide) (show W-0<=5 by lia)
  .rintro k σ H2 hk ⟨rm,fs,x4,x5,rfl,s2,p2,Q7,fl,fb,fp,rl,WN⟩;rw[gv];have e2:2 ^ (W-k)=2 ^ (W-1-k)*2:=by rw[<-Nat.pow_succ];congr 1;lia
   have g1:1<=2 ^ (W-1-k):=Nat.one_le_two_pow;have ej:((W:Int)-1-(k:Int)).toNat=W-1-k:=by lia
   refine⟨_,rfl,_,rfl,_,_,rfl,rfl,_,rfl,_,_,rfl,rfl,_,_,rfl,rfl,⟨by show (0:Int)<=(W:Int)-1-(k:Int);lia,by show ((2 ^ ((W:Int)-1-(k:Int)).toNat:Nat):Int)<=(rm:Int);rw[ej];lia⟩,8,_,rfl,?_⟩;change bp 5 (V.int (if (rm:Int) / ((2 ^ ((W:Int)-1-(k:Int)).toNat:Nat):Int)<8 then (rm:Int) / ((2 ^ ((W:Int)-1-(k:Int)).toNat:Nat):Int) else 8)) _ H2 _;rw[ej];generalize hg:2 ^ (W-1-k)=g at *;obtain⟨tp,R_,t2,t8,tg⟩:∃tp:Nat,(if (rm:Int) / (g:Int)<8 then (rm:Int) / (g:Int) else 8)=(tp:Int)/\2<=tp/\tp<=8/\tp*g<=rm:=by
    have d1:2<=rm / g:=(Nat.le_div_iff_mul_le (by lia)).mpr (by lia);have d2:rm / g*g<=rm:=Nat.div_mul_le_self _ _;have e:(rm:Int) / (g:Int)=((rm / g:Nat):Int):=rfl;rw[e];by_cases c:rm / g<8
    .exact⟨rm / g,by rw[aq (by lia)],d1,by lia,d2⟩
    .refine⟨8,by rw[au (by lia)];rfl,by lia,by lia,aY (Nat.mul_le_mul_right g (by lia:8<=rm / g)) d2⟩
   rw[R_];refine⟨_,rfl,.inl ⟨rfl,_,a_.of Q7⟩,_,rfl,_,rfl,_,_,rfl,rfl,p,tp-1,by show [V.ref p,V.int ((tp:Int)-1)]=_;rw[show ((tp:Int)-1)=((tp-1:Nat):Int) by lia],by lia,bz (show tp-1<8 by lia) (by decide),p2,fun e H4 he s4 ZT=>?_⟩;have ZU:=s4 _ _ Q7 TV;refine⟨_,_,rfl,rfl,Fd,_,.int ((2+e:Nat):Int),rfl,by show [V.int (2+(e:Int))]=_;rw[show (2+(e:Int))=((2+e:Nat):Int) by lia],ZU,by rw[aW,fl];exact bz (show k<6 by lia) (by decide),?_⟩;have WO:(upd H4 Fd (.lst (NV fs++[.int ((2+e:Nat):Int)]))) Fd=some (.lst (NV (fs++[2+e]))):=by rw[ag,iy]
   have s5:aD p H (upd H4 Fd (.lst (NV fs++[.int ((2+e:Nat):Int)]))):=fun b o eq n=>by rw[ao (am eq hF)];exact s4 _ _ (s2 _ _ eq n) n
   have TW:bL (upd H4 Fd (.lst (NV fs++[.int ((2+e:Nat):Int)]))) p:=ZT.put TV.symm;generalize upd H4 Fd _=H5 at *;have fe:2+e<=tp:=by lia
   have ZV:CC (NV (fs++[2+e])) (-1)=some (.int ((2+e:Nat):Int)):=by rw[<-iy];exact CD _ _
   refine⟨_,rfl,_,rfl,_,rfl,Fd,_,_,_,rfl,rfl,a_.of WO,ZV,_,_,rfl,rfl,⟨by lia,by lia⟩,rm / (2+e),fs++[2+e],_,_,rfl,s5,TW,WO,by rw[cD,fl];rfl,?_,?_,?_,?_⟩
   .intro x hx;rcases cf.mp hx with z|z
    .exact fb x z
    .rw[cX.mp z];lia
   .rw[iz,oV];exact aY (mU _ (by rw[Nat.mul_comm];exact Nat.div_mul_le_self _ _)) fp
   .rw[show W-(k+1)=W-1-k by lia,hg];refine(Nat.le_div_iff_mul_le (by lia)).mpr ?_;rw[Nat.mul_comm];exact aY (Nat.mul_le_mul_right g fe) tg
   .exact aY (Nat.div_le_self _ _) WN
  .rintro σ H2 ⟨rm,fs,x4,x5,rfl,s2,p2,Q7,fl,fb,fp,rl,WN⟩;have r1:1<=rm:=aY Nat.one_le_two_pow rl;exact⟨_,rfl,Fd,_,rfl,.inl ⟨a_.of Q7,fun t ht=>q t fs _ (s2.trans (aD.of (ai ht))) (p2.same (ai ht)) ag ⟨by lia,by lia,fb,aY (wM _ r1) fp⟩⟩⟩
theorem G4:aE ["_law_sides_here","_law_found","_law_side"] ["_law_sides_here"] (aj TR):=⟨rfl,rfl,rfl,by decide +kernel,rfl,by decide +kernel,by decide +kernel⟩
def Eg:Sp:=fun vs H Q _=>∃ (a:Addr) (ns:List Nat),vs=[.ref a]/\H a=some (.tup (NV ns))/\(∀x∈ns,x<=8)/\Q (.int (pr ns:Nat)) H
theorem OF{f:Addr}{fd:FuncData}(F:eJ K "_law_many" "_law_many" TR f fd):be P w K mg base br 1 f fd ["_law_sides_here"] Eg:=by
 refine F.ok G4 (fun vs H Q E h=>?_) (fun cm A outer s H vs Q E hr h=>?_)
 .obtain⟨a,ns,rfl,_⟩:=h;rfl
 .obtain⟨a,ns,rfl,ha,hx,q⟩:=h;refine⟨_,(ah (aK (i:=1) G4.nd rfl (Or.inl rfl) az)
   (ah (cG d8 rfl (mj (pv 0)) (aB (i:=2) G4.nd rfl (Or.inl rfl))
    (ak (aK (i:=1) G4.nd rfl (Or.inl rfl) (aR pi (pv 1) (pv 2)))))
   (ak (aN (pv 1))))),?_⟩
  refine⟨_,rfl,a,rfl,⟨_,cI.of ha⟩,jq (K:=K) (xs:=NV ns) (fun i σ H2=>H=H2/\∃x,σ=[some (.ref a),some (.int ((pr (ns.take i):Nat):Int)),x]) ⟨rfl,_,rfl⟩ (fun i σ H2 _ z=>by rw[<-z.1];exact cI.of ha) ?_ ?_⟩
  .rintro i x σ _ AJ ⟨rfl,y,rfl⟩;obtain⟨v,hv,rfl⟩:=iG AJ;have h1:=hx v (cT hv);refine⟨_,rfl,_,rfl,_,_,rfl,rfl,.inr ⟨by lia,by lia⟩,rfl,some (.int v),?_⟩;rw[show ns.take (i+1)=ns.take i++[v] by rw[eL,hv];rfl,iz];rfl
  .rintro σ _ ⟨rfl,x,rfl⟩;rw[aW,fz];exact⟨_,rfl,q⟩
theorem G5:aE ["_law_sides_here","_law_house","_law_found","_law_side"] ["_law_sides_here","_law_house"] (aj TU):=⟨rfl,rfl,rfl,by decide +kernel,rfl,by decide +kernel,by decide +kernel⟩
def wd:Sp:=fun vs H Q _=>∃ (a:Addr) (ns:List Nat) (h:Nat),vs=[.ref a,.int h]/\H a=some (.tup (NV ns))/\Bx ns/\∀ (r:Addr) (H':Hp),aV H H'->H r=none->H' r=some (.lst (NV (hU ns h)))->Q (.ref r) H'
theorem OG{f:Addr}{fd:FuncData}(F:eJ K "_law_place" "_law_place" TU f fd):be P w K mg base br 1 f fd ["_law_sides_here","_law_house"] wd:=by
 refine F.ok G5 (fun vs H Q E h=>?_) (fun cm A outer s H vs Q E hr h=>?_)
 .obtain⟨a,ns,h,rfl,_⟩:=h;rfl
 .obtain⟨a,ns,h,rfl,ha,BX,k⟩:=h;have hl:=BX.l5;have hn:=BX.sd;refine⟨_,(ah (aK (i:=2) G5.nd rfl (Or.inl rfl) (bX af))
   (ah (cG d8 rfl (mj (pv 0)) (aB (i:=3) G5.nd rfl (Or.inl rfl))
    (ah (b_ (lr kQ kP kO cQ (pv 2) (aa (aR gG (pv 1) (pv 3)) af)))
    (ak (aK (i:=1) G5.nd rfl (Or.inl rfl) (aR nR (pv 1) (pv 3))))))
   (ak (aN (pv 2))))),?_⟩
  refine⟨by show 0<=sizeLine;decide,fun D hD=>?_⟩;have s0:=ai (o:=.lst []) hD;refine⟨_,rfl,a,rfl,⟨_,cI.of (s0 _ _ ha)⟩,jq (K:=K) (xs:=NV ns) (fun i σ H2=>(∃x,σ=[some (.ref a),some (.int ((h / pr (ns.take i):Nat):Int)),some (.ref D),x])/\aV H H2/\H2 D=some (.lst (NV (hU (ns.take i) h)))) ⟨⟨_,by rw[List.take_zero];show _=[_,some (V.int ((h / 1:Nat):Int)),_,_];rw[o4];rfl⟩,s0,ag⟩ (fun i σ H2 _ z=>cI.of (z.2.1 _ _ ha)) ?_ ?_⟩
  .rintro i x σ H2 hx ⟨⟨x',rfl⟩,sm,oa⟩;obtain⟨n,hv,rfl⟩:=iG hx;have hi:i<ns.length:=(cL.mp hv).1;have WB:=hn n (cT hv);have tk:ns.take (i+1)=ns.take i++[n]:=by rw[eL,hv];rfl
   rw[tk,qb,iz];have dl:(hU (ns.take i) h).length<=5:=by rw[bR,fA];lia
   refine⟨_,rfl,.inl ⟨rfl,_,a_.of oa⟩,_,rfl,_,rfl,_,_,rfl,rfl,(by show (0:Int)<(n:Int);lia),D,_,_,rfl,rfl,oa,by rw[aW];exact du dl (by decide),?_⟩;refine⟨_,rfl,_,rfl,_,_,rfl,rfl,⟨by lia,by lia⟩,⟨some (.int n),?_⟩,cH sm hD,?_⟩
   .rw[<-lT];rfl
   .rw[ag,<-iy];rfl
  .rintro σ H2 ⟨⟨x',rfl⟩,sm,oa⟩;rw[aW,fz] at oa;exact⟨_,rfl,k D H2 sm hD oa⟩
end
end pV
namespace L2
open PySem PySem.Spec PyProof.Rows
def OH(K:PySem.W.Frag)(Dc:Addr)(i:Nat)(tb:(St->XK)->TS)(th:Addr->TS):TS:=fun D σ H=>∃E,No K Dc i E (tb E) th D σ H
theorem z_{X:Cx}{body vq:List Stmt}{b₀:Stmt}{x n:Str}{np vt pos:Pos}{Dc:Addr}{i:Nat}{tb:(St->XK)->TS}{th:Addr->TS}(TD:jL X.K Dc)(hg:Gl X x)(hm:X.mg x=some (.ref Dc))(jp:X.stack=X.env::X.outer)(BY:X.env.frame=some X.env.locals)(hN:X.N.Nodup)(hi:X.N[i]?=some n)(hn:X.env.scope.names.lookup n=some .local)(hb:∀E pn xe,jw (dZ X.prog X.w) (X.fg pn xe) E->qq (X.fg pn xe) body (tb E))(hh:∀pn p,qq (X.dS pn p) (b₀::vq) (th p))(pA:(x==("__debug__":Str))=false:=by decide):
  PS X (.Try body [.ExceptHandler (some (.Name x np)) (some n) (b₀::vq) vt] [] [] pos) (OH X.K Dc i tb th):=by
 intro ae s σ H D I h;obtain⟨E,h⟩:=h;exact JN (E:=E) TD hg hm jp BY hN hi hn (hb E) hh pA ae s σ H D I h
theorem we{X:Cx}{CX:nu}{k:Nat}{f C:Addr}{fd:FuncData}{ps:List Str}{sp:Sp}{fW:List V}{ds:List Value}{E:St->XK}{m:Str}{pos jK:Pos}{e o:Expr}{es:List Expr}{ta:TE}{t:TA}{pl:Sem Bool}(he:PE X o ta)(c:As X.K C)(hm:Cp X.K C m f)(F:be X.prog X.w X.K X.mg X.base CX k f fd ps sp)(hr:bK k X.A)(hb:dJ X.K fd ps ds)(hd:aP fW ds)(hx:jw CX X E)(ha:PA X (e::es) t)(jp:starEach (e::es) X.env=(false,eval e X.env)::starEach es X.env:=by rfl)(lQ:(backTo pos (starEach es X.env)).any (·.1)=false:=by rfl)(ht:eval (.Call (.Attribute o m jK) (e::es) [] pos) X.env=(do
   let ov <- eval o X.env
   standAt jK.atName
   let (f,first) <- holding [ov] (getMethod ov m pl)
   callWith pos f first (backTo pos (starEach (e::es) X.env)) (backToKw pos (keywordEach [] X.env))):=by rfl):
  PE X (.Call (.Attribute o m jK) (e::es) [] pos) (xR C m sp fW E ta t):=by
 intro ae s σ H Q I h;refine wU (pl:=pl) (cE (he ae s σ H _ I h) fun u s1 ⟨x,H1,I1,rx,a,dx,fs,ex,ea,l,q⟩=>?_) ht;subst ex;obtain rfl:u=Value.ref a:=rx;refine kr I1 ea c hm l ?_;refine lW (first:=[.ref a]) (h₀:=X.base) I.ok.mod.B3 hm.kp (cE (ha pos ae s1 σ H1 _ I1 q) fun us s2 ⟨vs,H2,I2,r,q2⟩=>⟨I2.jm,?_⟩) jp lQ;exact FS (us:=.ref a::us) (vs:=.ref a::vs) F hr hb hd hx I2 (.cons rfl r) q2
theorem wf{G:Hp->Prop}{lo:Int}{n:Nat}{D:Addr}{g:TG}{tt:TT}{te:TE}{fin:Hp->Prop}{σB:St}{H0:Hp}(Pv:Nat->List V->St->Hp->Prop)(h0:Pv 0 [] σB H0)(hG:∀i ys σ H,Pv i ys σ H->G H)(hs:∀i ys σ H (Kt:V->St->Hp->Prop) (Kf:St->Hp->Prop),i<n->Pv i ys σ H->
   (∀v σ2 H4,H4 D=some (.lst ys)->ys.length<sizeLine->Pv (i+1) (ys++[v]) σ2 (upd H4 D (.lst (ys++[v])))->Kt v σ2 H4)->(∀σ2 H3,Pv (i+1) ys σ2 H3->Kf σ2 H3)->
   g (.int (lo+i)) σ H fun σ2 H2=>tt σ2 H2 fun b H3=>if b=true then te σ2 H3 fun v H4=>Kt v σ2 H4 else Kf σ2 H3)(hd:∀ys σ H,Pv n ys σ H->fin H):pG G (E5 lo n) g tt te D fin σB H0:=by
 obtain⟨W,w0,st⟩:=ip (lo:=lo) (n:=n) (fun i ys σ H=>Pv i ys σ H) h0 hs hd;refine⟨fun i m σ H=>m=n-i/\i<=n/\∃ys,Pv i ys σ H,⟨n,by simp,cN _,[],h0⟩,?_⟩;rintro i m σ H ⟨rfl,hi,ys,p⟩;refine⟨hG _ _ _ _ p,?_⟩;by_cases dX:i<n
 .refine .inr ⟨dX,?_⟩;rintro x H' ⟨rfl,rfl⟩;exact hs i ys σ _ (fun v σ2 H4=>∃ys,H4 D=some (.lst ys)/\ys.length<sizeLine/\∃m',m'<n-i/\m'=n-(i+1)/\i+1<=n/\∃vD,Pv (i+1) vD σ2 (upd H4 D (.lst (ys++[v]))))
   (fun σ2 H3=>∃m',m'<n-i/\m'=n-(i+1)/\i+1<=n/\∃vD,Pv (i+1) vD σ2 H3) dX p
   (fun v σ2 H4 z1 z2 z3=>⟨ys,z1,z2,_,by lia,rfl,dX,_,z3⟩) (fun σ2 H3 z=>⟨_,by lia,rfl,dX,_,z⟩)
 .obtain rfl:i=n:=by lia
  exact .inl ⟨a9 _,hd ys σ H p⟩
end L2
namespace pV
open PySem L2 iI
abbrev TX:Stmt:=gK 49
theorem Bo:(["_law_k","_law_some"]:List Str).Nodup:=by decide +kernel
theorem TY:∀j,j<12->(List.range 12).filter (fun k=>decide (k=j))=[j]:=by decide +kernel
theorem IK:bootBuiltins "ValueError"=some (.type "ValueError"):=by decide +kernel
structure WP(mg:Str->Option Value)(c:Nat->Addr):Prop where
 e0:mg "NoNet"=some (.ref (c 0))
 e1:mg "NoShape"=some (.ref (c 1))
 e2:mg "NoTie"=some (.ref (c 2))
 e3:mg "NoText"=some (.ref (c 3))
 e4:mg "NoHouse"=some (.ref (c 4))
 e5:mg "NoRanks"=some (.ref (c 5))
 e6:mg "NoStand"=some (.ref (c 6))
 e7:mg "NoBerth"=some (.ref (c 7))
 e8:mg "NoHanding"=some (.ref (c 8))
 e9:mg "NoPlan"=some (.ref (c 9))
 ZW:mg "TooMany"=some (.ref (c 10))
 ZX:mg "NoRow"=some (.ref (c 11))
structure OI(K:PySem.W.Frag)(c:Nat->Addr)(CE:Addr)(j:Nat):Prop where
 ok:jL K CE
 ZY:j<12
 kv:PySem.W.kitOne K (.ref CE) (.type "ValueError")=some true
 k0:PySem.W.kitOne K (.ref CE) (.ref (c 0))=some (decide (0=j))
 k1:PySem.W.kitOne K (.ref CE) (.ref (c 1))=some (decide (1=j))
 k2:PySem.W.kitOne K (.ref CE) (.ref (c 2))=some (decide (2=j))
 k3:PySem.W.kitOne K (.ref CE) (.ref (c 3))=some (decide (3=j))
 k4:PySem.W.kitOne K (.ref CE) (.ref (c 4))=some (decide (4=j))
 k5:PySem.W.kitOne K (.ref CE) (.ref (c 5))=some (decide (5=j))
 k6:PySem.W.kitOne K (.ref CE) (.ref (c 6))=some (decide (6=j))
 k7:PySem.W.kitOne K (.ref CE) (.ref (c 7))=some (decide (7=j))
 k8:PySem.W.kitOne K (.ref CE) (.ref (c 8))=some (decide (8=j))
 k9:PySem.W.kitOne K (.ref CE) (.ref (c 9))=some (decide (9=j))
 ZZ:PySem.W.kitOne K (.ref CE) (.ref (c 10))=some (decide (10=j))
 Z0:PySem.W.kitOne K (.ref CE) (.ref (c 11))=some (decide (11=j))
section
variable {P:Program} {w:World} {K:PySem.W.Frag} {mg:Str->Option Value} {base:Heap}
theorem G6:aE ["_law_e","_law_some"] ["_law_e"] (aj TX):=⟨rfl,rfl,rfl,by decide +kernel,rfl,by decide +kernel,by decide +kernel⟩
def Bp(K:PySem.W.Frag)(c:Nat->Addr):Sp:=fun vs H Q _=>∃ (x CE:Addr) (j:Nat),vs=[.ref x]/\OI K c CE j/\H x=some (qG x (.ref CE))/\∀ (r:Addr) (H':Hp),aV H H'->H' r=some (.lst [.int (j:Int)])->Q (.ref r) H'
theorem OJ{f:Addr}{c:Nat->Addr}{fd:FuncData}(F:eJ K "_law_kinds" "_law_kinds" TX f fd)(B:Bl mg)(R:WP mg c):q_ P w K mg base (dZ P w) 1 f fd ["_law_e"] (Bp K c):=by
 refine F.Yg G6 (fun vs H Q E h=>?_) (fun cm A outer s H vs Q E hr hd h=>?_)
 .obtain⟨x,CE,j,rfl,_⟩:=h;rfl
 .obtain⟨x,CE,j,rfl,kd,hx,q⟩:=h;refine'⟨_,(ah (aK (i:=1) G6.nd rfl (Or.inr rfl) (bX (aa (av cn (by rfl) B.rq dG (aa (pv 0) (aa (bW (v:=.ref (c 0)) rfl R.e0 rfl) af))) (aa (av cn (by rfl) B.rq dG (aa (pv 0) (aa (bW (v:=.ref (c 1)) rfl R.e1 rfl) af))) (aa (av cn (by rfl) B.rq dG (aa (pv 0) (aa (bW (v:=.ref (c 2)) rfl R.e2 rfl) af))) (aa (av cn (by rfl) B.rq dG (aa (pv 0) (aa (bW (v:=.ref (c 3)) rfl R.e3 rfl) af))) af))))))
   (ah (aK (i:=1) G6.nd rfl (Or.inr rfl) (aR pE (pv 1) (bX (aa (av cn (by rfl) B.rq dG (aa (pv 0) (aa (bW (v:=.ref (c 4)) rfl R.e4 rfl) af))) (aa (av cn (by rfl) B.rq dG (aa (pv 0) (aa (bW (v:=.ref (c 5)) rfl R.e5 rfl) af))) (aa (av cn (by rfl) B.rq dG (aa (pv 0) (aa (bW (v:=.ref (c 6)) rfl R.e6 rfl) af))) (aa (av cn (by rfl) B.rq dG (aa (pv 0) (aa (bW (v:=.ref (c 7)) rfl R.e7 rfl) af))) af)))))))
   (ah (aK (i:=1) G6.nd rfl (Or.inr rfl) (aR pE (pv 1) (bX (aa (av cn (by rfl) B.rq dG (aa (pv 0) (aa (bW (v:=.ref (c 8)) rfl R.e8 rfl) af))) (aa (av cn (by rfl) B.rq dG (aa (pv 0) (aa (bW (v:=.ref (c 9)) rfl R.e9 rfl) af))) (aa (av cn (by rfl) B.rq dG (aa (pv 0) (aa (bW (v:=.ref (c 10)) rfl R.ZW rfl) af))) (aa (av cn (by rfl) B.rq dG (aa (pv 0) (aa (bW (v:=.ref (c 11)) rfl R.ZX rfl) af))) af)))))))
   (ak (aN ?c1))))),?_⟩
  case c1=>
   refine' CK (g:=(bp 0)) (tt:=(tB (qE (FF K) (bU 1) (bU 0)))) (te:=(bU 0)) (NB:=["_law_k","_law_some"]) (src:=[none,some 1]) (cS (by kernel_rfl)) (ck rfl B.range (aa az af)) ?g ?t ?e;case g=>exact fun cl C s₃ H₃ fp=>(aB (i:=0) Bo rfl (Or.inl rfl) (Or.inr rfl))
   case t=>exact fun cl C s₃ H₃ fp=>jv (dE (cy bj (pv 1) (pv 0) (fun _ _=>rfl)))
   case e=>exact fun cl C s₃ H₃ fp=>(pv 0)
  refine⟨_,rfl,_,_,_,_,rfl,kd.k0,.exc kd.ok hx,_,rfl,_,_,_,_,rfl,kd.k1,.exc kd.ok hx,_,rfl,_,_,_,_,rfl,kd.k2,.exc kd.ok hx,_,rfl,_,_,_,_,rfl,kd.k3,.exc kd.ok hx,by show 4<=sizeLine;decide,fun l1 L4=>?_⟩;have s1:=ai (o:=.lst [V.bl (decide (0=j)),.bl (decide (1=j)),.bl (decide (2=j)),.bl (decide (3=j))]) L4;have g1:(upd H l1 (.lst [V.bl (decide (0=j)),.bl (decide (1=j)),.bl (decide (2=j)),.bl (decide (3=j))])) l1=some (.lst ((List.range 4).map fun i=>V.bl (decide (i=j)))):=ag;have x1:=s1 _ _ hx;generalize upd H l1 _=H1 at *;refine⟨_,rfl,_,rfl,_,_,_,_,rfl,kd.k4,.exc kd.ok x1,_,rfl,_,_,_,_,rfl,kd.k5,.exc kd.ok x1,_,rfl,_,_,_,_,rfl,kd.k6,.exc kd.ok x1,_,rfl,_,_,_,_,rfl,kd.k7,.exc kd.ok x1,by show 4<=sizeLine;decide,fun l2 JC=>?_⟩;have s2:=ai (o:=.lst [V.bl (decide (4=j)),.bl (decide (5=j)),.bl (decide (6=j)),.bl (decide (7=j))]) JC;refine⟨l1,l2,_,_,rfl,rfl,s2 _ _ g1,ag,by show 8<=sizeLine;decide,fun l3 Q8=>?_⟩;have s3:=s2.trans (ai (o:=.lst (((List.range 4).map fun i=>V.bl (decide (i=j)))++[V.bl (decide (4=j)),.bl (decide (5=j)),.bl (decide (6=j)),.bl (decide (7=j))])) Q8);have g3:(upd (upd H1 l2 (.lst [V.bl (decide (4=j)),.bl (decide (5=j)),.bl (decide (6=j)),.bl (decide (7=j))])) l3 (.lst (((List.range 4).map fun i=>V.bl (decide (i=j)))++[V.bl (decide (4=j)),.bl (decide (5=j)),.bl (decide (6=j)),.bl (decide (7=j))]))) l3=some (.lst ((List.range 8).map fun i=>V.bl (decide (i=j)))):=ag;have x3:=s3 _ _ x1;have OK:=s1.trans s3;generalize upd (upd H1 l2 _) l3 _=H3 at *;refine⟨_,rfl,_,rfl,_,_,_,_,rfl,kd.k8,.exc kd.ok x3,_,rfl,_,_,_,_,rfl,kd.k9,.exc kd.ok x3,_,rfl,_,_,_,_,rfl,kd.ZZ,.exc kd.ok x3,_,rfl,_,_,_,_,rfl,kd.Z0,.exc kd.ok x3,by show 4<=sizeLine;decide,fun l4 Q9=>?_⟩;have s4:=ai (o:=.lst [V.bl (decide (8=j)),.bl (decide (9=j)),.bl (decide (10=j)),.bl (decide (11=j))]) Q9;refine⟨l3,l4,_,_,rfl,rfl,s4 _ _ g3,ag,by show 12<=sizeLine;decide,fun l5 Z1=>?_⟩;have s5:=s4.trans (ai (o:=.lst (((List.range 8).map fun i=>V.bl (decide (i=j)))++[V.bl (decide (8=j)),.bl (decide (9=j)),.bl (decide (10=j)),.bl (decide (11=j))])) Z1);have g5:(upd (upd H3 l4 (.lst [V.bl (decide (8=j)),.bl (decide (9=j)),.bl (decide (10=j)),.bl (decide (11=j))])) l5 (.lst (((List.range 8).map fun i=>V.bl (decide (i=j)))++[V.bl (decide (8=j)),.bl (decide (9=j)),.bl (decide (10=j)),.bl (decide (11=j))]))) l5=some (.lst ((List.range 12).map fun i=>V.bl (decide (i=j)))):=ag;have OL:=OK.trans s5;generalize upd (upd H3 l4 _) l5 _=H5 at *;have Z2:=hd.same OL;refine⟨(12:Int),rfl,by decide,by decide,fun D hD=>?_⟩;refine wf (lo:=0) (n:=12) (fun i ys σ H6=>(∃u,σ=[u,some (.ref l5)])/\aV H5 H6/\H6 D=some (.lst ys)/\ys=NV ((List.range i).filter fun k=>decide (k=j))) ⟨⟨_,rfl⟩,ai hD,ag,rfl⟩ (fun i ys σ H6 z=>(Z2.same z.2.1).Fo) ?_ ?_
  .rintro i ys σ H6 Kt Kf hi ⟨⟨u,rfl⟩,sm,uW,rfl⟩ kt kf;rw[gv];refine⟨_,rfl,_,rfl,l5,_,_,_,rfl,rfl,a_.of (sm _ _ g5),bf (j:=i) (by rw[bi,rT hi];rfl),_,rfl,?_⟩;refine mx (fun e=>?_) (fun e=>?_)
   .refine⟨_,rfl,kt _ _ _ uW ?_ ⟨⟨_,rfl⟩,cH sm ?_,ag,?_⟩⟩
    .rw[aW];exact du (iN _ _) (by rw[kX];exact bz (show i<12 from hi) (by decide))
    .exact hD
    .rw[lZ,iO,eN,aq e,oP];exact iy
   .refine kf _ _ ⟨⟨_,rfl⟩,sm,uW,?_⟩;rw[lZ,iO,eN,au e,oP,fE]
  .rintro ys σ H6 ⟨_,sm,uW,rfl⟩;refine q D H6 (OL.trans sm) ?_;rw[uW];congr 2;rw[TY j kd.ZY];rfl
end
abbrev TZ:Stmt:=dB (gK 42) 2
abbrev KY:Stmt:=dB (gK 42) 1
section
variable {P:Program} {w:World} {K:PySem.W.Frag} {mg:Str->Option Value} {base:Heap}
theorem T4:aE ["self"] ["self"] (aj TZ):=⟨rfl,rfl,rfl,by decide +kernel,rfl,by decide +kernel,by decide +kernel⟩
def KZ(C CB:Addr):Sp:=fun vs H Q _=>∃ (L:Addr->Prop) (b:Addr) (ns:List Nat),vs=[.ref b]/\hJ C CB H L b ns/\∀sr:Addr,H sr=some (.tup (NV ns))->Q (.ref sr) H
theorem OM{f C CB:Addr}{fd:FuncData}(F:eJ K "sides" "Box.sides" TZ f fd)(TB:GZ K mg CB):be P w K mg base br 1 f fd ["self"] (KZ C CB):=by
 refine F.ok T4 (fun vs H Q E h=>?_) (fun cm A outer s H vs Q E hr h=>?_)
 .obtain⟨L,b,ns,rfl,_⟩:=h;rfl
 .obtain⟨L,b,ns,rfl,⟨BX,dx,pn,sr,hb,N,wa⟩,q⟩:=h;refine⟨_,ak (aN (dF (pv 0) rfl)),?_⟩;exact⟨_,rfl,b,CB,dx,_,_,rfl,hb,TB.cl,TB.nS,v8,q sr wa⟩
theorem ON:aE ["self"] ["self"] (aj KY):=⟨rfl,rfl,rfl,by decide +kernel,rfl,by decide +kernel,by decide +kernel⟩
def Eh(C CB Pt:Addr):Sp:=fun vs H Q _=>∃ (L:Addr->Prop) (b:Addr) (ns:List Nat),vs=[.ref b]/\hJ C CB H L b ns/\iL Pt H/\Bd C Pt H (pr ns) (uY ns) Q
theorem K0{f C CB CS Pt:Addr}{fd:FuncData}(F:eJ K "net" "Box.net" KY f fd)(TB:GZ K mg CB)(BN:cP P w K mg base (dZ P w) 10 "box_net" ["sides"] (uz K C Pt CS)):be P w K mg base br 11 f fd ["self"] (Eh C CB Pt):=by
 refine F.ok ON (fun vs H Q E h=>?_) (fun cm A outer s H vs Q E hr h=>?_)
 .obtain⟨L,b,ns,rfl,_⟩:=h;rfl
 .obtain⟨L,b,ns,rfl,⟨BX,dx,pn,sr,hb,N,wa⟩,tb,q⟩:=h;refine⟨_,ak (aN (aH BN hr jT (aa (dF (pv 0) rfl) af))),?_⟩;refine⟨_,rfl,b,CB,dx,_,_,rfl,hb,TB.cl,TB.nS,v8,_,_,rfl,II wa,tb,(fun z=>by rw[uC BX] at z;cases z),fun IL e=>?_⟩;rw[uC BX] at e;cases e;exact q
end
end pV
namespace L2
open PySem PySem.Spec PyProof.Rows
section
variable {X:Cx} {CX:nu} {k:Nat} {f C:Addr} {fd:FuncData} {ps:List Str} {sp:Sp} {fW:List V} {ds:List Value} {E:St->XK} {x:Str} {p pos:Pos} {e:Expr} {es:List Expr} {t:TA}
theorem Bq{ae:List (Addr×Obj)}{σ:St}{H:Hp}{s:Shared}{Q:VK}{us:List Value}{vs:List V}(M:Mk X.K C f)(F:be X.prog X.w X.K X.mg X.base CX k f fd ps sp)(hr:bK (k+1) X.A)(hb:dJ X.K fd ps ds)(hd:aP fW ds)(hx:jw CX X E)(I:aF X ae σ H s)(r:aP vs us)(h:∀x dx,H x=none->H dx=none->dx≠x->sp (.ref x::(vs++fW)) (upd (upd H dx (.own x)) x (.ins C dx [])) (fun v H2=>v=.bV/\Q (.ref x) H2) (E σ)):
  wpAny (model X.prog X.w) X.A (call (.ref C) us) (EP X ae σ Q) X.xe s:=by
 have hq:=h (s.heap.objs.size+1) s.heap.objs.size (I.bq.fresh (sR _)) (I.bq.fresh (a9 _)) (aT (gR _));have I2:=aF.made (C:=C) I;have r2:aP (V.ref (s.heap.objs.size+1)::(vs++fW)) (Value.ref (s.heap.objs.size+1)::(us++ds)):=.cons rfl (r.append hd);have hl:(Value.ref (s.heap.objs.size+1)::us++ds).length=ps.length:=by
  have e:=r2.length;rw[F.len _ _ _ _ hq] at e;exact e.symm
 refine kh (ve (f:=f) I.jm M.makes M.init (fm.mp M.fn) (h_ (F.run _ X.stack _ _ ⟨Value.ref (s.heap.objs.size+1)::us,[]⟩ (Value.ref (s.heap.objs.size+1)::(us++ds)) _ _ (E σ) (hr.make C us [])
  (I2.Cq.make C us []) (hb _ (Value.ref (s.heap.objs.size+1)::us) I2.jm hl) r2 hq) fun r s' Au=>?_))
 cases r with
 |error e=>exact hx ae σ _ _ e s' I2 Au
 |ok fl=>
  cases fl with
  |ret u=>
   obtain⟨v,H',I3,rv,ev,q3⟩:=I2.after Au;subst ev;exact⟨rv,⟨V.ref (s.heap.objs.size+1),H',I3,rfl,q3⟩⟩
  |next=>exact False.elim Au
  |brk=>exact False.elim Au
  |cont=>exact False.elim Au
theorem Ei(M:Mk X.K C f)(F:be X.prog X.w X.K X.mg X.base CX k f fd ps sp)(hr:bK (k+1) X.A)(hg:Gl X x)(hm:X.mg x=some (.ref C))(hb:dJ X.K fd ps ds)(hd:aP fW ds)(hx:jw CX X E)(ha:PA X (e::es) t)(pA:(x==("__debug__":Str))=false:=by decide)(he:starEach (e::es) X.env=(false,eval e X.env)::starEach es X.env:=by rfl)(lQ:(backTo pos (starEach es X.env)).any (·.1)=false:=by rfl):
  PE X (.Call (.Name x p) (e::es) [] pos) (CO C sp fW E t):=by
 intro ae s σ H Q I h;refine j8 (jo I hg hm ?_ pA);refine lW (h₀:=X.base) I.ok.mod.B3 M.kp (cE (ha pos ae s σ H _ I h) fun us s1 ⟨vs,H1,I1,r,q⟩=>⟨I1.jm,?_⟩) he lQ;exact Bq M F hr hb hd hx I1 r q
end
end L2
namespace pV
open PySem L2 iI
def Aa(ns:List Nat)(os:List (Option Int)):Bool:=decide (os.length=ns.length)&&(List.range ns.length).all fun i=>aJ (os.getD i none) 0 ((ns.getD i 0:Int)-1)
def nI(o:Option Int):Nat:=(o.getD 0).toNat
section
variable {P:Program} {w:World} {K:PySem.W.Frag} {mg:Str->Option Value} {base:Heap}
def qf(K:PySem.W.Frag)(C CB CS Pt:Addr):Sp:=fun vs H Q E=>∃ (b dx:Addr) (x:V) (o:Option (List (Option Int))),vs=[.ref b,x]/\H b=some (.ins CB dx [])/\Sd K H x o/\iL Pt H/\(v3 o=none->E (.ref CS) none H)/\
 ∀ns,v3 o=some ns->∀H',hJ C CB H' (fun a=>H a=none) b ns->iL Pt H'->jY b Pt H H'->Q .bV H'
theorem G7{f C CB CS Pt:Addr}{fd:FuncData}(F:eJ K "__init__" "Box.__init__" GY f fd)(B:Bl mg)(TB:GZ K mg CB)(BN:cP P w K mg base (dZ P w) 10 "box_net" ["sides"] (uz K C Pt CS)):be P w K mg base (dZ P w) 11 f fd ["self","sides"] (qf K C CB CS Pt):=by
 refine F.FT OA (fun vs H Q E h=>?_) (fun cm A outer s H vs Q E hr h=>?_)
 .obtain⟨b,dx,x,o,rfl,_⟩:=h;rfl
 .obtain⟨b,dx,x,o,rfl,hb,sd,tb,k1,q⟩:=h;refine⟨_,ah (mm (pv 0) (aH BN hr (pI (E':=E) fun _ _ _ z=>z) (aa (pv 1) af)) rfl)
   (ak (mm (pv 0) (di dw (by rfl) B.tup oo (aa (pv 1) af)) rfl)),?_⟩
  refine⟨_,rfl,_,_,rfl,sd,tb,k1,fun ns e pn H1 IM N1 t1 s1=>?_⟩;cases sd with
  |no ty h=>cases e
  |@tup sr xs os wa hl ew=>
   obtain⟨e1,l1,l2,hn,hm,eo⟩:=v4 e;have ha:os.all (fun o=>aJ o 2 8)=true:=iQ.mpr fun o ho=>by
    rw[eo] at ho;obtain⟨n,HW,rfl⟩:=bu.mp ho;have:=hn n HW;unfold aJ;simp;lia
   obtain⟨ex,_⟩:=Sd.nums wa hl ew ha;rw[<-e1] at ex;subst ex;have BX:Bx ns:=⟨l1,l2,hn,hm⟩
   have nb:b≠Pt:=tb.not hb (by intro ps z;cases z);have WQ:sr≠b:=by rintro rfl;rw[hb] at wa;cases wa
   have Kq:=s1 _ _ hb nb;refine⟨_,rfl,b,CB,dx,_,rfl,Kq,TB.cl,TB.nN,by show 0<1000;decide,?_⟩;have OO:=s1 _ _ wa (tb.not wa (by intro ps z;cases z));refine⟨_,rfl,sr,_,rfl,.inr ⟨cI.of (by rw[ao WQ];exact OO),?_⟩⟩;refine⟨_,rfl,b,CB,dx,_,rfl,ag,TB.cl,TB.nS,by show 1<1000;decide,?_⟩;have kp:∀c o,c≠b->H1 c=some o->(upd (upd H1 b (.ins CB dx (cx "tied_net" (.ref pn) []))) b (.ins CB dx (cx "side_row" (.ref sr) (cx "tied_net" (.ref pn) [])))) c=some o:=fun c o n e=>by rw[ao n,ao n];exact e
   refine q ns e _ ⟨BX,dx,pn,sr,ag,N1.keep (fun c o l e=>kp c o (by rintro rfl;rw[hb] at l;cases l) e) (fun o e=>kp pn o (by rintro rfl;rw[hb] at IM;cases IM) e),kp _ _ WQ OO⟩ ?_ (fun c o e n1 n2=>kp c o n1 (s1 _ _ e n2));rcases t1 with z|⟨c,z,y⟩
   .exact .inl (kp _ _ nb.symm z)
   .exact .inr ⟨c,kp _ _ nb.symm z,kp _ _ (by rintro rfl;rw[Kq] at y;cases y) y⟩
def qg(K:PySem.W.Frag)(C CB CE:Addr):Sp:=fun vs H Q E=>∃ (L:Addr->Prop) (b a:Addr) (ns:List Nat) (xs:List V) (os:List (Option Int)),vs=[.ref b,.ref a]/\hJ C CB H L b ns/\H a=some (.tup xs)/\os.length=xs.length/\(∀ (i:Nat) x o,xs[i]?=some x->os[i]?=some o->Q6 K H x o)/\
 (Aa ns os=false->∀H',aV H H'->E (.ref CE) none H')/\(Aa ns os=true->∀H',aV H H'->Q (.int (Fh ns (os.map nI):Nat)) H')
theorem G8{f C CB CE:Addr}{fd:FuncData}(F:eJ K "house" "Box.house" KM f fd)(B:Bl mg)(hz:mg "zip"=none)(TB:GZ K mg CB)(e:Er K mg "NoHouse" CE)(R:cP P w K mg base br 1 "is_row" ["thing","length"] (vX K))(HO:cP P w K mg base br 3 "is_house" ["many","thing"] (lF K)):be P w K mg base (dZ P w) 4 f fd ["self","place"] (qg K C CB CE):=by
 refine F.FT qe (fun vs H Q E h=>?_) (fun cm A outer s H vs Q E hr h=>?_)
 .obtain⟨L,b,a,ns,xs,os,rfl,_⟩:=h;rfl
 .obtain⟨L,b,a,ns,xs,os,rfl,⟨BX,dx,pn,sr,hb,N,wa⟩,ha,ol,ew,k1,k2⟩:=h;have h1:bK 1 _:=hr.mono (by decide);have l5:=BX.l5;refine⟨_,ah (bZ (et (dE (aH R h1 aO (aa (pv 1) (aa (av aS (by rfl) B.len d9 (aa (dF (pv 0) rfl) af)) af))))) (ak (g9 (q:=fun H1=>E (.ref CE) none H1) rfl e.ok rfl e.at_ (aa kn af) (fun _ _ _ _ _ _ _ I m q=>g7 I m q))) aX)
   (ah (aK (i:=2) qe.nd rfl (Or.inl rfl) az)
   (ah (aK (i:=3) qe.nd rfl (Or.inl rfl) az)
   (ah (cG JH rfl (oh (ka:=false) (kb:=false) rfl hz (aa (pv 1) (aa (dF (pv 0) rfl) af))) (dO (n:=2) rfl (aU (aB (i:=4) qe.nd rfl (Or.inl rfl)) (aU (aB (i:=5) qe.nd rfl (Or.inl rfl)) cU)))
    (ah (bZ (et (dE (aH HO hr aO (aa (pv 5) (aa (pv 4) af))))) (ak (g9 (q:=fun H1=>E (.ref CE) none H1) rfl e.ok rfl e.at_ (aa kn af) (fun _ _ _ _ _ _ _ I m q=>g7 I m q))) aX)
    (ah (mi (i:=2) qe.nd rfl (Or.inl rfl) (aR pi (pv 3) (pv 4)) B5)
    (ak (mi (i:=3) qe.nd rfl (Or.inl rfl) (pv 5) yx)))))
   (ak (aN (pv 2)))))),?_⟩
  refine⟨_,rfl,_,rfl,b,CB,dx,_,_,rfl,hb,TB.cl,TB.nS,v8,sr,_,rfl,.inr (cI.of wa),_,_,_,rfl,.tup ha,_,rfl,?_⟩;have er:Ix (some xs) (((NV ns).length:Nat):Int)=decide (os.length=ns.length):=by
   show decide ((xs.length:Int)=_)=_;rw[aW,ol];rw[l8,w9,w9];exact⟨iD,congrArg _⟩
  rw[er];by_cases c:os.length=ns.length
  rotate_left
  .rw[d6 c];exact z8 rfl ⟨by show 1<=sizeLine;decide,k1 (by unfold Aa;rw[d6 c];rfl) H (aV.refl _)⟩
  rw[bJ c];refine eY rfl ?_;have xl:xs.length=ns.length:=ol.symm.trans c;refine⟨_,rfl,_,rfl,b,CB,dx,_,_,rfl,hb,TB.cl,TB.nS,v8,a,sr,_,_,rfl,cI.of ha,cI.of wa,by rw[aW];exact xl,?_⟩;refine G0 (K:=K) (xs:=xs) (ys:=NV ns) (by rw[aW];exact xl) (fun i σ H2=>(∃x4 x5,σ=[some (.ref b),some (.ref a),some (.int ((Fh (ns.take i) ((os.map nI).take i):Nat):Int)),some (.int ((pr (ns.take i):Nat):Int)),x4,x5])/\aV H H2/\∀j,j<i->aJ (os.getD j none) 0 ((ns.getD j 0:Int)-1)=true) ⟨⟨_,_,rfl⟩,aV.refl _,fun j h=>absurd h (xt _)⟩ (fun i σ H2 _ z=>⟨cI.of (z.2.1 _ _ ha),cI.of (z.2.1 _ _ wa)⟩) ?_ ?_
  .rintro i x y pp σ H2 hx hy ⟨⟨x4,x5,rfl⟩,sm,m_⟩ Z3;obtain⟨n,hn,rfl⟩:=iG hy;have hi:i<ns.length:=(cL.mp hn).1;have ho:os[i]?=some (os.getD i none):=by rw[dY,cV (by rw[c];exact hi)];rfl
   have en:ns.getD i 0=n:=by rw[dY,hn];rfl
   have n8:=BX.sd n (cT hn);have sp:=ai (o:=.tup [x,.int (n:Int)]) Z3;have wh:=ew i x _ hx ho _ (sm.trans sp);have tk:ns.take (i+1)=ns.take i++[n]:=by rw[eL,hn];rfl
   have Z4:(os.map nI).take (i+1)=(os.map nI).take i++[nI (os.getD i none)]:=by rw[eL,bi,ho];rfl
   rw[tk,Z4,v7 (by rw[fA,fA,aZ,c]),iz];refine⟨pp,_,rfl,cI.of ag,rfl,_,_,rfl,_,_,rfl,rfl,?_⟩;refine⟨_,rfl,_,rfl,_,_,_,rfl,wh,_,rfl,?_⟩;cases hw:aJ (os.getD i none) 0 ((n:Int)-1) with
   |false=>
    refine z8 rfl ⟨by show 1<=sizeLine;decide,k1 ?_ _ (sm.trans sp)⟩;unfold Aa;have:((List.range ns.length).all fun i=>aJ (os.getD i none) 0 ((ns.getD i 0:Int)-1))=false:=rY.mpr ⟨i,dv.mpr hi,by rw[en,hw];decide⟩;rw[this,Bool.and_false]
   |true=>
    obtain⟨e,he,eo⟩:=fY hw;rw[eo] at wh |-;obtain rfl:=jf wh;refine eY rfl ?_;refine⟨_,rfl,_,rfl,_,rfl,_,_,rfl,rfl,.inr ⟨by lia,by lia⟩,_,_,rfl,rfl,?_⟩;refine⟨_,rfl,_,rfl,_,_,rfl,rfl,.inr ⟨by lia,by lia⟩,⟨_,_,rfl⟩,sm.trans sp,fun j hj=>?_⟩;rcases Nat.lt_or_ge j i with z|z
    .exact m_ j z
    .obtain rfl:j=i:=by lia
     rw[en];exact hw
  .rintro σ H2 ⟨⟨x4,x5,rfl⟩,sm,m_⟩;rw[xl,fz,<-c,<-aZ (f:=nI),fz];refine⟨_,rfl,k2 ?_ H2 sm⟩;unfold Aa;rw[bJ c,sJ];exact iQ.mpr fun j hj=>m_ j (by rw[xl];exact dv.mp hj)
end
abbrev Ab:Stmt:=gK 52
abbrev BJ:Stmt:=gK 53
abbrev wz:Stmt:=gK 54
inductive At where
 |bV|bl (b:Bool)|int (i:Int)|neg (i:Int)|str (s:Str)
inductive Ox where
 |at (a:At)|tup (as:List At)|lst (as:List At)|wg
def Mh:Expr->Option At
 |.Constant .none _ _=>some .bV
 |.Constant (.bool b) _ _=>some (.bl b)
 |.Constant (.int i) _ _=>some (.int i)
 |.Constant (.str s) _ _=>some (.str s)
 |.UnaryOp .USub (.Constant (.int i) _ _) _=>some (.neg i)
 |_=>none
def Ej:List Expr->Option (List At)
 |[]=>some []
 |e::es=>(Mh e).bind fun o=>(Ej es).map (o::·)
def OP:Expr->Option Ox
 |.List es _=>(Ej es).map .lst
 |.Tuple es _ _=>(Ej es).map .tup
 |.Dict [] [] _=>some .wg
 |e=>(Mh e).map .at
def uI:List Expr->Option (List Ox)
 |[]=>some []
 |e::es=>(OP e).bind fun o=>(uI es).map (o::·)
def At.val:At->V
 |.bV=>.bV
 |.bl b=>.bl b
 |.int i=>.int i
 |.neg i=>.int (-i)
 |.str s=>.str s
def Q_:At->TE
 |.neg i=>RM (rU fun i=>.int (-i)) (tC (.int i))
 |a=>tC a.val
def Ek:List At->TA
 |[]=>eC
 |a::as=>bQ (Q_ a) (Ek as)
def T5:Ox->TE
 |.at a=>Q_ a
 |.tup as=>Jv (Ek as)
 |.lst as=>Fx (Ek as)
 |.wg=>Dh
def G9:List Ox->TA->TA
 |[],t=>t
 |o::os,t=>bQ (T5 o) (G9 os t)
section
variable {X:Cx}
theorem Ac{e:Expr}{es:List Expr}{a:At}(h:Mh e=some a):starEach (e::es) X.env=(false,eval e X.env)::starEach es X.env:=by
 unfold Mh at h;split at h;all_goals first|rfl|cases h
theorem IN{e:Expr}{a:At}(h:Mh e=some a):PE X e (Q_ a):=by
 unfold Mh at h;split at h;all_goals first|(cases h;done)|(cases h;first|exact sY|exact gg|exact az|exact kn|exact(yY tm az:PE X _ (RM (rU fun i=>V.int (-i)) (tC (V.int _)))))
theorem El:∀ {es:List Expr} {as:List At},Ej es=some as->PA X es (Ek as)
 |[],as,h=>by cases h;exact af
 |e::es,as,h=>by
  unfold Ej at h;obtain⟨o,h1,h2⟩:=Option.bind_eq_some_iff.mp h;obtain⟨RT,h3,rfl⟩:=lS.mp h2;exact aa (IN h1) (El h3) (Ac h1)
theorem OQ{e:Expr}{o:Ox}(h:OP e=some o):PE X e (T5 o):=by
 unfold OP at h;split at h
 .obtain⟨as,h1,rfl⟩:=lS.mp h;exact bX (El h1)
 .obtain⟨as,h1,rfl⟩:=lS.mp h;exact fV (El h1)
 .cases h;exact Di
 .obtain⟨a,h1,rfl⟩:=lS.mp h;exact IN h1
theorem G_{e:Expr}{es:List Expr}{o:Ox}(h:OP e=some o):starEach (e::es) X.env=(false,eval e X.env)::starEach es X.env:=by
 unfold OP at h;split at h
 .rfl
 .rfl
 .rfl
 .obtain⟨a,h1,rfl⟩:=lS.mp h;exact Ac h1
theorem wj:∀ {es:List Expr} {os:List Ox} {r:List Expr} {t:TA},uI es=some os->PA X r t->PA X (es++r) (G9 os t)
 |[],os,r,t,h,hr=>by cases h;exact hr
 |e::es,os,r,t,h,hr=>by
  unfold uI at h;obtain⟨o,h1,h2⟩:=Option.bind_eq_some_iff.mp h;obtain⟨RT,h3,rfl⟩:=lS.mp h2;exact aa (OQ h1) (wj h3 hr) (G_ h1)
theorem Em{es:List Expr}{os:List Ox}(h:uI es=some os):PA X es (G9 os eC):=by
 have:=wj (X:=X) h af;rwa [fE] at this
end
def IP(p:Addr)(H:Hp)(o:Ox)(v:V):Prop:=match o with
 |.at a=>v=a.val
 |.tup as=>∃q,v=.ref q/\q≠p/\H q=some (.tup (as.map At.val))
 |.lst as=>∃q,v=.ref q/\q≠p/\H q=some (.lst (as.map At.val))
 |.wg=>∃q,v=.ref q/\q≠p/\H q=some (.dK [])
def K1:Ox->Bool
 |.tup as=>decide (as.length<=100)
 |.lst as=>decide (as.length<=100)
 |_=>true
theorem IP.b9{p:Addr}{H H':Hp}{o:Ox}{v:V}(h:IP p H o v)(s:aD p H H'):IP p H' o v:=by
 cases o with
 |«at» a=>exact h
 |tup as=>obtain⟨q,e,n,g⟩:=h;exact⟨q,e,n,s _ _ g n⟩
 |lst as=>obtain⟨q,e,n,g⟩:=h;exact⟨q,e,n,s _ _ g n⟩
 |wg=>obtain⟨q,e,n,g⟩:=h;exact⟨q,e,n,s _ _ g n⟩
theorem OR{σ:St}{H:Hp}{Q:V->Hp->Prop}:∀ {a:At},Q a.val H->Q_ a σ H Q
 |.bV,k=>k
 |.bl _,k=>k
 |.int _,k=>k
 |.neg i,k=>⟨i,rfl,k⟩
 |.str _,k=>k
theorem En{σ:St}{H:Hp}:∀ {as:List At} {Q:List V->Hp->Prop},Q (as.map At.val) H->Ek as σ H Q
 |[],Q,k=>k
 |a::as,Q,k=>OR (En (as:=as) k)
theorem mI{p:Addr}{H H':Hp}(hp:H p≠none)(s:aV H H'):H' p≠none:=fun z=>by
 cases e:H p with
 |none=>exact hp e
 |some u=>rw[s _ _ e] at z;cases z
theorem T6{p:Addr}{σ:St}:∀ {o:Ox} {H:Hp} {Q:V->Hp->Prop},K1 o=true->H p≠none->(∀v H',aV H H'->IP p H' o v->Q v H')->T5 o σ H Q
 |.at a,H,Q,_,hp,k=>OR (k _ _ (aV.refl _) rfl)
 |.tup as,H,Q,z,hp,k=>En (show _/\_ from ⟨aY (show (as.map At.val).length<=100 by rw[aZ];exact dH z) (by decide),fun q hq=>k _ _ (ai hq) ⟨q,rfl,(fun e=>hp (e ▸ hq)),ag⟩⟩)
 |.lst as,H,Q,z,hp,k=>En (show _/\_ from ⟨aY (show (as.map At.val).length<=100 by rw[aZ];exact dH z) (by decide),fun q hq=>k _ _ (ai hq) ⟨q,rfl,(fun e=>hp (e ▸ hq)),ag⟩⟩)
 |.wg,H,Q,_,hp,k=>fun q hq=>k _ _ (ai hq) ⟨q,rfl,(fun e=>hp (e ▸ hq)),ag⟩
inductive mJ (p:Addr) (H:Hp):List Ox->List V->Prop where
 |nil:mJ p H [] []
 |cons {o:Ox} {os:List Ox} {v:V} {vs:List V} (h:IP p H o v) (hs:mJ p H os vs):mJ p H (o::os) (v::vs)
theorem mJ.b9{p:Addr}{H H':Hp}(s:aD p H H'):∀ {os:List Ox} {vs:List V},mJ p H os vs->mJ p H' os vs
 |_,_,.nil=>.nil
 |_,_,.cons h hs=>.cons (h.b9 s) (mJ.b9 s hs)
theorem mJ.len{p:Addr}{H:Hp}:∀ {os:List Ox} {vs:List V},mJ p H os vs->vs.length=os.length
 |_,_,.nil=>rfl
 |_,_,.cons _ hs=>congrArg (·+1) (mJ.len hs)
theorem mJ.all{p:Addr}{H:Hp}{R:V->Prop}:∀ {os:List Ox} {vs:List V},mJ p H os vs->(∀o∈os,∀v,IP p H o v->R v)->∀v∈vs,R v
 |_,_,.nil,_=>fun v h=>(nomatch h)
 |_,_,.cons h hs,k=>fun v hv=>by
  rcases bg.mp hv with rfl|hv
  .exact k _ ci _ h
  .exact hs.all (fun o ho=>k o (b8 _ ho)) v hv
theorem rF{p:Addr}{σ:St}{t:TA}:∀ {os:List Ox} {H:Hp} {Q:List V->Hp->Prop},os.all K1=true->H p≠none->(∀vs H',aV H H'->mJ p H' os vs->t σ H' fun xs H2=>Q (vs++xs) H2)->G9 os t σ H Q
 |[],H,Q,z,hp,k=>k [] H (aV.refl _) .nil
 |o::os,H,Q,z,hp,k=>by
  rw[xy,gT] at z;refine T6 z.1 hp fun v H' s sh=>?_;refine rF (p:=p) (os:=os) z.2 (mI hp s) fun vs H2 s2 hv=>?_;exact k (v::vs) H2 (s.trans s2) (.cons (sh.b9 (aD.of s2)) hv)
def T7:At->Option Int
 |.int i=>some i
 |.neg i=>some (-i)
 |_=>none
def OS:Ox->Option (List (Option Int))
 |.tup as=>some (as.map T7)
 |_=>none
def Mi:Ox->Option Int
 |.at a=>T7 a
 |_=>none
def nE(K:PySem.W.Frag)(p:Addr)(H:Hp)(v:V):Prop:=∃o,(∀H',aD p H H'->Sd K H' v o)/\v3 o=none
def qh(K:PySem.W.Frag)(p:Addr)(m:Nat)(H:Hp)(v:V):Prop:=∃o,(∀H',aD p H H'->Wh K H' v o)/\aJ o 0 ((m:Int)-1)=false
theorem nE.b9{K:PySem.W.Frag}{p:Addr}{H H':Hp}{v:V}(h:nE K p H v)(s:aD p H H'):nE K p H' v:=let ⟨o,a,b⟩:=h;⟨o,fun H2 s2=>a H2 (s.trans s2),b⟩
theorem qh.b9{K:PySem.W.Frag}{p:Addr}{m:Nat}{H H':Hp}{v:V}(h:qh K p m H v)(s:aD p H H'):qh K p m H' v:=let ⟨o,a,b⟩:=h;⟨o,fun H2 s2=>a H2 (s.trans s2),b⟩
section
variable {K:PySem.W.Frag} {p:Addr} {H:Hp}
theorem IQ{a:At}:Wh K H a.val (T7 a):=by
 cases a with
 |bV=>exact .no ⟨_,.of .bV,.inl (by kernel_rfl)⟩
 |bl b=>exact .no ⟨_,.of (.bl b),.inr ⟨by kernel_rfl,by kernel_rfl⟩⟩
 |int i=>exact .int i
 |neg i=>exact .int _
 |str z=>exact .no ⟨_,.of (.str z),.inl (by kernel_rfl)⟩
theorem IR{o:Ox}{v:V}(h:IP p H o v){H':Hp}(s:aD p H H'):Wh K H' v (Mi o):=by
 have h:=h.b9 s;cases o with
 |«at» a=>rw[show v=a.val from h];exact IQ
 |tup as=>obtain⟨q,rfl,n,g⟩:=h;exact .no ⟨_,.of (.tup g),.inl (by kernel_rfl)⟩
 |lst as=>obtain⟨q,rfl,n,g⟩:=h;exact .no ⟨_,.of (.lst g),.inl (by kernel_rfl)⟩
 |wg=>obtain⟨q,rfl,n,g⟩:=h;exact .no ⟨_,.of (.dK g),.inl (by kernel_rfl)⟩
theorem Eo{o:Ox}{v:V}(h:IP p H o v){H':Hp}(s:aD p H H'):Sd K H' v (OS o):=by
 have h:=h.b9 s;cases o with
 |«at» a=>
  rw[show v=a.val from h];cases a with
  |bV=>exact .no (.of .bV) (by kernel_rfl)
  |bl b=>exact .no (.of (.bl b)) (by kernel_rfl)
  |int i=>exact .no (.of (.int i)) (by kernel_rfl)
  |neg i=>exact .no (.of (.int _)) (by kernel_rfl)
  |str z=>exact .no (.of (.str z)) (by kernel_rfl)
 |tup as=>
  obtain⟨q,rfl,n,g⟩:=h;refine .tup g (by rw[aZ,aZ]) fun i x o hx ho=>?_;rw[bi] at hx ho;cases c:as[i]? with
  |none=>rw[c] at hx;cases hx
  |some a=>rw[c] at hx ho;cases hx;cases ho;exact IQ
 |lst as=>obtain⟨q,rfl,n,g⟩:=h;exact .no (.of (.lst g)) (by kernel_rfl)
 |wg=>obtain⟨q,rfl,n,g⟩:=h;exact .no (.of (.dK g)) (by kernel_rfl)
end
def Br:Stmt->List Expr
 |.Assign _ (.List es _) _=>es
 |.Assign _ (.BinOp _ _ (.List es _) _) _=>es
 |_=>[]
def uZ(s:Stmt)(i:Nat):Expr:=(Br s).getD i (.Name "x" ⟨0,0,0,0⟩)
abbrev bo(s:Stmt)(i:Nat):Stmt:=(bh s).getD i (.Pass ⟨0,0,0,0⟩)
theorem Hh:∃es T8 T9 os OT OU q1 q2 q3 q4 q5 q6 q7 q8,bh Ab=[.Assign [.Name "_law_some" q1] (.List (es++(uZ (bo Ab 0) 6::T8)) q2) q3,.Assign [.Name "_law_some" q4] (.BinOp (.Name "_law_some" q5) .Add (.List (T9++[uZ (bo Ab 1) 6,uZ (bo Ab 1) 7]) q6) q7) q8,bo Ab 2]/\
    uI es=some os/\uI T8=some OT/\uI T9=some OU/\os.all K1=true/\OT.all K1=true/\OU.all K1=true/\(∀o∈os++OT++OU,v3 (OS o)=none)/\os.length=6/\OT.length=7/\OU.length=6:=
  ⟨(Br (bo Ab 0)).take 6,(Br (bo Ab 0)).drop 7,(Br (bo Ab 1)).take 6,
    [.at .bV,.at (.int 7),.at (.bl true),.at (.str "22"),.tup [],.lst []],
    [.tup [.int 1,.int 2],.tup [.int 2,.int 9],.tup [.int 0],.tup [.int 2,.neg 2],.tup [.int 2,.bl true],.tup [.bl true],.tup [.int 2,.bV]],
    [.tup [.int 2,.str "2"],.tup [.int 2,.int 2,.int 2,.int 2,.int 2,.int 2],.tup [.int 6,.int 6],.tup [.int 2,.int 4,.int 5],.tup [.int 3,.int 11],.tup [.int 33]],
    _,_,_,_,_,_,_,_,rfl,by kernel_rfl,by kernel_rfl,by kernel_rfl,by decide,by decide,by decide,by decide +kernel,rfl,rfl,rfl⟩
section
variable {P:Program} {w:World} {K:PySem.W.Frag} {mg:Str->Option Value} {base:Heap}
theorem K2:aE ["_law_pot_here","_law_sides_here","_law_some"] ["_law_pot_here","_law_sides_here"] (aj Ab):=⟨rfl,rfl,rfl,by decide +kernel,rfl,by decide +kernel,by decide +kernel⟩
def K3(K:PySem.W.Frag):Sp:=fun vs H Q _=>∃ (p a:Addr) (ns:List Nat),vs=[.ref p,.ref a]/\bL H p/\H a=some (.tup (NV ns))/\Bx ns/\∀v H',aD p H H'->bL H' p->nE K p H' v->Q v H'
theorem OV{f:Addr}{fd:FuncData}(F:eJ K "_law_no_sides" "_law_no_sides" Ab f fd)(B:Bl mg)(DR:cP P w K mg base br 1 "_law_draw" ["_law_pot_here","_law_many_here"] wc):be P w K mg base br 2 f fd ["_law_pot_here","_law_sides_here"] (K3 K):=by
 refine F.ok K2 (fun vs H Q E h=>?_) (fun cm A outer s H vs Q E hr h=>?_)
 .obtain⟨p,a,ns,rfl,_⟩:=h;rfl
 .obtain⟨p,a,ns,rfl,hp,ha,BX,q⟩:=h;have l5:=BX.l5;obtain⟨es,T8,T9,os,OT,OU,q1,q2,q3,q4,q5,q6,q7,q8,eb,r1,r2,r3,z1,z2,z3,K4,ol,Z5,Z6⟩:=Hh;rw[eb];refine⟨_,(ah (aK (i:=2) K2.nd rfl (Or.inl rfl) (bX (wj r1 (aa (e:=uZ (bo Ab 0) 6) (di ik (by rfl) B.lst oB (aa (pv 1) af)) (Em r2)))))
   (ah (aK (i:=2) K2.nd rfl (Or.inl rfl) (aR pE (pv 2) (bX (wj r3 (aa (e:=uZ (bo Ab 1) 6) (aR jB (pv 1) (fV (aa az af))) (aa (e:=uZ (bo Ab 1) 7) (fV (aa (pv 1) af)) af))))))
   (ak (aN (cy bj (pv 2) (aH DR hr aO (aa (pv 0) (aa (av aS (by rfl) B.len d9 (aa (pv 2) af)) af))) (fun _ _=>rfl)))))),?_⟩
  have WR:=hp.neT ha;refine rF (p:=p) z1 hp.full fun vs H1 s1 BH=>?_;refine⟨_,rfl,a,_,rfl,.inr (cI.of (s1 _ _ ha)),fun l hl=>?_⟩;have sl:=ai (o:=.lst (NV ns)) hl;have gl:(upd H1 l (.lst (NV ns))) l=some (.lst (NV ns)):=ag;have Z7:l≠p:=(hp.same s1).ne hl;generalize upd H1 l (.lst (NV ns))=H2 at *;have ur:=s1.trans sl;refine rF (p:=p) z2 (mI hp.full ur) fun Ra H3 s3 KJ=>?_;have OK:=ur.trans s3;have lv:(vs++(V.ref l::(Ra++[]))).length=14:=by rw[cD,cM,fE,BH.len,KJ.len,ol,Z5]
  refine⟨by rw[lv];decide,fun D hD=>?_⟩;have Kq:∀v∈vs++(V.ref l::(Ra++[])),nE K p H3 v:=by
   intro v hv;rw[fE] at hv;rcases cf.mp hv with z|z
   .exact(BH.b9 (aD.of (sl.trans s3))).all (R:=nE K p H3) (fun o ho v hv=>⟨OS o,fun H' s'=>Eo hv s',K4 o (gO _ (gO _ ho))⟩) v z
   .rcases bg.mp z with rfl|z
    .exact⟨none,fun H' s'=>.no (.of (.lst (s' _ _ (s3 _ _ gl) Z7))) (by kernel_rfl),rfl⟩
    .exact KJ.all (R:=nE K p H3) (fun o ho v hv=>⟨OS o,fun H' s'=>Eo hv s',K4 o (gO _ (iA _ ho))⟩) v z
  change bp 2 (V.ref D) _ (upd H3 D (.lst (vs++(V.ref l::(Ra++[]))))) _;generalize vs++(V.ref l::(Ra++[]))=us at *;have sD:=ai (o:=.lst us) hD;have gD:(upd H3 D (.lst us)) D=some (.lst us):=ag;have WS:=OK.trans sD;have Bb:∀v∈us,nE K p (upd H3 D (.lst us)) v:=fun v hv=>(Kq v hv).b9 (aD.of sD);generalize upd H3 D (.lst us)=H4 at *;clear Kq sD BH KJ s3 sl gl;refine⟨_,rfl,rF (p:=p) z3 (mI hp.full WS) fun T_ H5 s5 WT=>?_⟩;have OL:=WS.trans s5;refine⟨_,rfl,by show 1<=sizeLine;decide,fun t1 Ua=>?_⟩;have uT:=ai (o:=.tup [.int 1]) Ua;refine⟨a,t1,_,[.int 1],rfl,rfl,uT _ _ (OL _ _ ha),ag,aY (show _<=20 by rw[aW,oC];lia) (by decide),fun K5 H6 s6 Bc=>?_⟩;have WU:=uT.trans s6;have Ub:=OL.trans WU;refine⟨_,rfl,by show 1<=sizeLine;decide,fun t2 KE=>?_⟩;have fU:=ai (o:=.tup [.ref a]) KE;have OW:(upd H6 t2 (.tup [.ref a])) t2=some (.tup [.ref a]):=ag;have Tk:=fU _ _ Bc;have WV:=Ub.trans fU;have K6:=WU.trans fU;have Z8:t2≠p:=(hp.same Ub).ne KE;have Z9:K5≠p:=(hp.same Ub).neT Bc;generalize upd H6 t2 (.tup [.ref a])=H7 at *;have Uc:(T_++[V.ref K5,.ref t2]).length=8:=by rw[cD,WT.len,Z6];rfl
  refine⟨by rw[Uc];decide,fun D2 oa=>?_⟩;have QS:∀v∈us++(T_++[V.ref K5,.ref t2]),nE K p H7 v:=by
   intro v hv;rcases cf.mp hv with z|z
   .exact(Bb v z).b9 (aD.of (s5.trans K6))
   rcases cf.mp z with z|z
   .exact(WT.b9 (aD.of K6)).all (R:=nE K p H7) (fun o ho v hv=>⟨OS o,fun H' s'=>Eo hv s',K4 o (iA _ ho)⟩) v z
   .simp only[bg,jQ,gx] at z;rcases z with rfl|rfl
    .refine⟨some (ns.map (fun (n:Nat)=>some (n:Int))++[some 1]),fun H' s'=>.tup (s' _ _ Tk Z9) (by rw[cD,cD,aW,aZ];rfl) fun i x o hx ho=>?_,lJ ?_⟩
     .by_cases c:i<ns.length
      .rw[gN (by rw[aW];exact c)] at hx;rw[gN (by rw[aZ];exact c)] at ho;obtain⟨n,hn,rfl⟩:=iG hx;rw[bi,hn] at ho;cases ho;exact .int _
      .rw[iM (by rw[aW];lia),aW] at hx;rw[iM (by rw[aZ];lia),aZ] at ho;cases d:i-ns.length with
       |zero=>rw[d] at hx ho;cases hx;cases ho;exact .int _
       |succ k=>rw[d] at hx;cases hx
     .have:(ns.map (fun (n:Nat)=>some (n:Int))++[some 1]).all (fun o=>aJ o 2 8)=false:=rY.mpr ⟨some 1,by simp,by decide⟩;rw[this];simp
    .refine⟨some [none],fun H' s'=>.tup (s' _ _ OW Z8) rfl fun i x o hx ho=>?_,rfl⟩;cases i with
     |zero=>cases hx;cases ho;exact .no ⟨_,.of (.tup (s' _ _ (WV _ _ ha) WR)),.inl (by kernel_rfl)⟩
     |succ i=>cases hx
  generalize T_++[V.ref K5,.ref t2]=ws at *;have Ud:=ai (o:=.lst ws) oa;have Z_:(upd H7 D2 (.lst ws)) D2=some (.lst ws):=ag;have WW:=WV.trans Ud;have hb4:∀v∈us++ws,nE K p (upd H7 D2 (.lst ws)) v:=fun v hv=>(QS v hv).b9 (aD.of Ud);have gD8:=Ud _ _ (K6 _ _ (s5 _ _ gD));generalize upd H7 D2 (.lst ws)=H8 at *;refine⟨D,D2,us,ws,rfl,rfl,gD8,Z_,by rw[lv,Uc];decide,fun D3 yr=>?_⟩;have WX:=ai (o:=.lst (us++ws)) yr;have WY:(upd H8 D3 (.lst (us++ws))) D3=some (.lst (us++ws)):=ag;have WZ:=WW.trans WX;have Rb:∀v∈us++ws,nE K p (upd H8 D3 (.lst (us++ws))) v:=fun v hv=>(hb4 v hv).b9 (aD.of WX);have n3:D3≠p:=(hp.same WW).ne yr;change bp 2 (V.ref D3) _ (upd H8 D3 (.lst (us++ws))) _;have W0:(us++ws).length=22:=by rw[cD,lv,Uc]
  generalize upd H8 D3 (.lst (us++ws))=H9 at *;generalize us++ws=xs at *;refine⟨_,rfl,_,rfl,_,rfl,D3,_,rfl,.inl (a_.of WY),p,22,by rw[W0];rfl,by decide,by decide,hp.same WZ,fun d K7 hd uJ Mj=>?_⟩;have yR:d<xs.length:=by rw[W0];exact hd
  exact⟨D3,_,_,xs[d],rfl,rfl,a_.of (uJ _ _ WY n3),bf (cV yR),q _ K7 ((aD.of WZ).trans uJ) Mj ((Rb _ (eM yR)).b9 uJ)⟩
end
def Hj(o:Ox):Bool:=match Mi o with
 |none=>true
 |some i=>decide (i<0)
theorem IS{o:Ox}(h:Hj o=true){m:Nat}:aJ (Mi o) 0 ((m:Int)-1)=false:=by
 unfold Hj at h;cases c:Mi o with
 |none=>rfl
 |some i=>
  rw[c] at h;have:i<0:=dH h;unfold aJ;simp;lia
theorem Ue{i:Int}{m:Nat}(h:i<0\/(m:Int)<=i):aJ (some i) 0 ((m:Int)-1)=false:=by
 unfold aJ;simp;lia
theorem lL{K:PySem.W.Frag}{p:Addr}{m:Nat}{H:Hp}{i:Int}(h:i<0\/(m:Int)<=i):qh K p m H (.int i):=⟨some i,fun _ _=>.int i,Ue h⟩
theorem Hk:∃es os q1 q2 q3,bh BJ=[.Assign [.Name "_law_some" q1] (.List (es++[uZ (bo BJ 0) 7,uZ (bo BJ 0) 8,uZ (bo BJ 0) 9]) q2) q3,bo BJ 1]/\uI es=some os/\os.all K1=true/\(∀o∈os,Hj o=true)/\os.length=7:=
 ⟨(Br (bo BJ 0)).take 7,[.at .bV,.at (.bl true),.at (.bl false),.at (.str "0"),.tup [.int 0],.lst [.int 0],.at (.neg 1)],_,_,_,rfl,by kernel_rfl,by decide,by decide +kernel,rfl⟩
theorem Hl:∃es os q1 q2 q3,bh wz=[bo wz 0,bo wz 1,bo wz 2,bo wz 3,.Assign [.Name "_law_odd" q1] (.List (uZ (bo wz 4) 0::uZ (bo wz 4) 1::uZ (bo wz 4) 2::es) q2) q3,bo wz 5]/\uI es=some os/\os.all K1=true/\(∀o∈os,Hj o=true)/\os.length=7:=
 ⟨(Br (bo wz 4)).drop 3,[.at .bV,.at (.bl true),.at (.bl false),.at (.str "0"),.tup [.int 0],.lst [.int 0],.wg],_,_,_,rfl,by kernel_rfl,by decide,by decide +kernel,rfl⟩
theorem wm{xs:List Nat}{j:Nat}(h:j<xs.length):(NV xs)[j]?=some (.int ((xs.getD j 0:Nat):Int)):=by
 unfold NV;rw[bi,dY,cV h];rfl
theorem wn{xs:List V}{k:Nat}(h:k<=xs.length):lm xs (some (k:Int)) none=xs.drop k:=by
 unfold lm;rw[HT.Cw,HT.FB,Nat.min_eq_left h];exact wR (by rw[lY];exact a9 _)
def yE(K:PySem.W.Frag)(p:Addr)(H:Hp)(xs:List V)(os:List (Option Int)):Prop:=os.length=xs.length/\∀ (i:Nat) x o,xs[i]?=some x->os[i]?=some o->∀H',aD p H H'->Wh K H' x o
theorem yE.app{K:PySem.W.Frag}{p:Addr}{H:Hp}{xs ys:List V}{os ps:List (Option Int)}(a:yE K p H xs os)(b:yE K p H ys ps):yE K p H (xs++ys) (os++ps):=by
 refine⟨by rw[cD,cD,a.1,b.1],fun i x o hx ho=>?_⟩;by_cases c:i<xs.length
 .rw[gN c] at hx;rw[gN (by rw[a.1];exact c)] at ho;exact a.2 i x o hx ho
 .rw[iM (by lia)] at hx;rw[iM (by rw[a.1];lia),a.1] at ho;exact b.2 _ x o hx ho
def sI(ns:List Nat):List (Option Int):=ns.map fun (n:Nat)=>some (n:Int)
theorem jE{K:PySem.W.Frag}{p:Addr}{H:Hp}{ns:List Nat}:yE K p H (NV ns) (sI ns):=by
 refine⟨by unfold sI;rw[aW,aZ],fun i x o hx ho=>?_⟩;obtain⟨n,hn,rfl⟩:=iG hx;unfold sI at ho;rw[bi,hn] at ho;cases ho;exact fun _ _=>.int _
theorem wo{K:PySem.W.Frag}{p:Addr}{H:Hp}{v:V}{o:Option Int}(h:∀H',aD p H H'->Wh K H' v o):yE K p H [v] [o]:=by
 refine⟨rfl,fun i x o' hx ho=>?_⟩;cases i with
 |zero=>cases hx;cases ho;exact h
 |succ i=>cases hx
theorem Ep{ns:List Nat}{os:List (Option Int)}(h:os.length≠ns.length):Aa ns os=false:=by unfold Aa;rw[d6 h];rfl
theorem OX{ns:List Nat}{os:List (Option Int)}{k:Nat}(hk:k<ns.length)(h:aJ (os.getD k none) 0 ((ns.getD k 0:Int)-1)=false):Aa ns os=false:=by
 unfold Aa;have:((List.range ns.length).all fun i=>aJ (os.getD i none) 0 ((ns.getD i 0:Int)-1))=false:=rY.mpr ⟨k,dv.mpr hk,by rw[h];decide⟩;rw[this,Bool.and_false]
section
variable {P:Program} {w:World} {K:PySem.W.Frag} {mg:Str->Option Value} {base:Heap}
theorem OY:aE ["_law_pot_here","_law_many_here","_law_some"] ["_law_pot_here","_law_many_here"] (aj BJ):=⟨rfl,rfl,rfl,by decide +kernel,rfl,by decide +kernel,by decide +kernel⟩
def K8(K:PySem.W.Frag):Sp:=fun vs H Q _=>∃ (p:Addr) (m:Nat),vs=[.ref p,.int m]/\bL H p/\∀v H',aD p H H'->bL H' p->qh K p m H' v->Q v H'
theorem OZ{f:Addr}{fd:FuncData}(F:eJ K "_law_no_house" "_law_no_house" BJ f fd)(B:Bl mg)(DR:cP P w K mg base br 1 "_law_draw" ["_law_pot_here","_law_many_here"] wc):be P w K mg base br 2 f fd ["_law_pot_here","_law_many_here"] (K8 K):=by
 refine F.ok OY (fun vs H Q E h=>?_) (fun cm A outer s H vs Q E hr h=>?_)
 .obtain⟨p,m,rfl,_⟩:=h;rfl
 .obtain⟨p,m,rfl,hp,q⟩:=h;obtain⟨es,os,q1,q2,q3,eb,r1,z1,Uf,ol⟩:=Hk;rw[eb];refine⟨_,(ah (aK (i:=2) OY.nd rfl (Or.inl rfl) (bX (wj r1 (aa (e:=uZ (bo BJ 0) 7) (pv 1) (aa (e:=uZ (bo BJ 0) 8) (aR dP (pv 1) (aH DR hr aO (aa (pv 0) (aa (aR tf az az) af)))) (aa (e:=uZ (bo BJ 0) 9) (aR gC (yY tm az) (aH DR hr aO (aa (pv 0) (aa az af)))) af))))))
   (ak (aN (cy bj (pv 2) (aH DR hr aO (aa (pv 0) (aa (av aS (by rfl) B.len d9 (aa (pv 2) af)) af))) (fun _ _=>rfl))))),?_⟩
  refine rF (p:=p) z1 hp.full fun vs H1 s1 BH=>?_;refine⟨_,rfl,_,rfl,_,rfl,_,_,rfl,rfl,⟨by decide,by decide,by decide⟩,p,10 ^ 30,rfl,by decide,by decide,hp.same s1,fun d H2 hd s2 p2=>⟨_,_,rfl,rfl,?_⟩⟩;refine⟨_,rfl,_,rfl,p,99,rfl,by decide,by decide,p2,fun d2 H3 Tx s3 p3=>⟨_,_,rfl,rfl,?_⟩⟩;have lv:∀x y z:V,(vs++[x,y,z]).length=10:=fun x y z=>by rw[cD,BH.len,ol];rfl
  refine⟨by rw[lv];decide,fun D hD=>?_⟩;have sv:=s2.trans s3;have hb:∀v∈vs++[V.int (m:Int),.int ((m:Int)+(d:Int)),.int (-2-(d2:Int))],qh K p m H3 v:=by
   intro v hv;rcases cf.mp hv with z|z
   .exact(BH.b9 sv).all (R:=qh K p m H3) (fun o ho v hv=>⟨Mi o,fun H' s'=>IR hv s',IS (Uf o ho)⟩) v z
   .simp only[bg,jQ,gx] at z;rcases z with rfl|rfl|rfl <;> exact lL (by lia)
  change bp 2 (V.ref D) _ (upd H3 D (.lst (vs++[V.int (m:Int),.int ((m:Int)+(d:Int)),.int (-2-(d2:Int))]))) _;have lw:=lv (V.int (m:Int)) (.int ((m:Int)+(d:Int))) (.int (-2-(d2:Int)));generalize vs++[V.int (m:Int),.int ((m:Int)+(d:Int)),.int (-2-(d2:Int))]=ws at *;have sD:=ai (o:=.lst ws) hD;have gD:(upd H3 D (.lst ws)) D=some (.lst ws):=ag;have nD:D≠p:=p3.ne hD;have Bb:∀v∈ws,qh K p m (upd H3 D (.lst ws)) v:=fun v hv=>(hb v hv).b9 (aD.of sD);have p4:=p3.same sD;have s4:aD p H (upd H3 D (.lst ws)):=((aD.of s1).trans sv).trans (aD.of sD);generalize upd H3 D (.lst ws)=H4 at *;refine⟨_,rfl,_,rfl,_,rfl,D,_,rfl,.inl (a_.of gD),p,10,by rw[lw];rfl,by decide,by decide,p4,fun d K7 hd uJ Mj=>?_⟩;have yR:d<ws.length:=by rw[lw];exact hd
  exact⟨D,_,_,ws[d],rfl,rfl,a_.of (uJ _ _ gD nD),bf (cV yR),q _ K7 (s4.trans uJ) Mj ((Bb _ (eM yR)).b9 uJ)⟩
theorem Hm:aE ["_law_pot_here","_law_sides_here","_law_place_here","_law_way","_law_k","_law_odd"] ["_law_pot_here","_law_sides_here","_law_place_here"] (aj wz):=⟨rfl,rfl,rfl,by decide +kernel,rfl,by decide +kernel,by decide +kernel⟩
def K9(K:PySem.W.Frag):Sp:=fun vs H Q _=>∃ (p a b:Addr) (ns ds:List Nat),vs=[.ref p,.ref a,.ref b]/\bL H p/\H a=some (.tup (NV ns))/\H b=some (.tup (NV ds))/\Bx ns/\ds.length=ns.length/\
 ∀ (t:Addr) (xs:List V) (os:List (Option Int)) (H':Hp),aD p H H'->bL H' p->H' t=some (.tup xs)->yE K p H' xs os->Aa ns os=false->Q (.ref t) H'
theorem O0{f:Addr}{fd:FuncData}(F:eJ K "_law_no_place" "_law_no_place" wz f fd)(B:Bl mg)(DR:cP P w K mg base br 1 "_law_draw" ["_law_pot_here","_law_many_here"] wc):be P w K mg base br 2 f fd ["_law_pot_here","_law_sides_here","_law_place_here"] (K9 K):=by
 refine F.ok Hm (fun vs H Q E h=>?_) (fun cm A outer s H vs Q E hr h=>?_)
 .obtain⟨p,a,b,ns,ds,rfl,_⟩:=h;rfl
 .obtain⟨p,a,b,ns,ds,rfl,hp,ha,hb,BX,dl,q⟩:=h;have l1:=BX.l1;have l5:=BX.l5;obtain⟨es,os,q1,q2,q3,eb,r1,z1,Uf,ol⟩:=Hl;rw[eb];refine⟨_,(ah (aK (i:=3) Hm.nd rfl (Or.inl rfl) (aH DR hr aO (aa (pv 0) (aa az af))))
   (ah (aK (i:=4) Hm.nd rfl (Or.inl rfl) (aH DR hr aO (aa (pv 0) (aa (av aS (by rfl) B.len d9 (aa (pv 2) af)) af))))
   (ah (bZ (a8 lg (pv 3) az (bb _)) (ak (aN (aR jB (gZ jC (pv 2) js (jt (pv 4))) (gZ jC (pv 2) (jt (aR dP (pv 4) az)) js)))) aX)
   (ah (bZ (a8 lg (pv 3) az (bb _)) (ak (aN (aR jB (aR jB (gZ jC (pv 2) js (jt (pv 4))) (fV (aa az af))) (gZ jC (pv 2) (jt (pv 4)) js)))) aX)
   (ah (aK (i:=5) Hm.nd rfl (Or.inl rfl) (bX (aa (e:=uZ (bo wz 4) 0) (yY tm az) (aa (e:=uZ (bo wz 4) 1) (cy tE (pv 1) (pv 4) (fun _ _=>rfl)) (aa (e:=uZ (bo wz 4) 2) (aR dP (cy tE (pv 1) (pv 4) (fun _ _=>rfl)) (aH DR hr aO (aa (pv 0) (aa (aR tf az az) af)))) (Em r1))))))
   (ak (aN (aR jB (aR jB (gZ jC (pv 2) js (jt (pv 4))) (fV (aa (cy bj (pv 5) (aH DR hr aO (aa (pv 0) (aa (av aS (by rfl) B.len d9 (aa (pv 5) af)) af))) (fun _ _=>rfl)) af))) (gZ jC (pv 2) (jt (aR dP (pv 4) az)) js))))))))),?_⟩
  have nb:=hp.neT hb;have na:=hp.neT ha;have lz:∀ {xs ys:List V},xs.length<=10->ys.length<=10->xs.length+ys.length<=sizeLine:=fun h1 h2=>aY (Nat.add_le_add h1 h2) (by decide);have nvl:(NV ds).length=ds.length:=aW;refine⟨_,rfl,p,4,rfl,by decide,by decide,hp,fun wy H1 hw s1 p1=>?_⟩;refine⟨_,rfl,_,rfl,b,_,rfl,.inr (cI.of (s1 _ _ hb nb)),p,ds.length,by rw[nvl];rfl,by lia,du (show ds.length<=5 by lia) (by decide),p1,fun k H2 hk s2 p2=>?_⟩;have ur:=s1.trans s2;have Bb:=ur _ _ hb nb;have ek:(k:Int)+1=((k+1:Nat):Int):=by lia
  have e1:lm (NV ds) none (some (k:Int))=NV (ds.take k):=by rw[KU];unfold NV;rw[List.map_take]
  have e2:lm (NV ds) (some ((k:Int)+1)) none=NV (ds.drop (k+1)):=by rw[ek,wn (by lia)];unfold NV;rw[List.map_drop]
  have e3:lm (NV ds) (some (k:Int)) none=NV (ds.drop k):=by rw[wn (by lia)];unfold NV;rw[List.map_drop]
  have t1:(NV (ds.take k)).length<=5:=by rw[aW,fA];lia
  have t2:∀j,(NV (ds.drop j)).length<=5:=fun j=>by rw[aW,lY];lia
  refine⟨_,rfl,rfl,_,rfl,mx (fun c0=>?_) (fun c0=>?_)⟩
  .refine⟨_,rfl,_,rfl,_,rfl,b,_,rfl,Bb,fun u1 H3 s3 h3=>?_⟩;refine⟨_,rfl,_,rfl,_,_,rfl,rfl,_,rfl,?_⟩;unfold nV;show GU _ _ _ _ _;refine⟨b,_,rfl,s3 _ _ Bb,fun u2 H4 s4 h4=>?_⟩;rw[e1] at h3;rw[e2] at h4;refine⟨u1,u2,_,_,rfl,rfl,s4 _ _ h3,h4,lz (by lia) (aY (t2 _) (by decide)),fun u5 H5 s5 h5=>?_⟩;have W1:=(s3.trans s4).trans s5;refine q u5 _ _ H5 (ur.trans (aD.of W1)) (p2.same W1) h5 (jE.app jE) (Ep ?_);unfold sI;rw[cD,aZ,aZ,fA,lY];lia
  refine⟨_,rfl,rfl,_,rfl,mx (fun c1=>?_) (fun c1=>?_)⟩
  .refine⟨_,rfl,_,rfl,_,rfl,b,_,rfl,Bb,fun u1 H3 s3 h3=>?_⟩;refine⟨by show 1<=sizeLine;decide,fun u2 O1=>?_⟩;have su:=ai (o:=.tup [.int 0]) O1;rw[e1] at h3;refine⟨u1,u2,_,[.int 0],rfl,rfl,su _ _ h3,ag,lz (by lia) (by decide),fun u4 H4 s4 h4=>?_⟩;have W2:=(s3.trans su).trans s4;refine⟨_,rfl,_,rfl,_,rfl,?_⟩;unfold nV;show GU _ _ _ _ _;refine⟨b,_,rfl,W2 _ _ Bb,fun u5 H5 s5 h5=>?_⟩;rw[e3] at h5;refine⟨u4,u5,_,_,rfl,rfl,s5 _ _ h4,h5,lz (by rw[cD,oC];lia) (aY (t2 _) (by decide)),fun u6 H6 s6 h6=>?_⟩;have W3:=(W2.trans s5).trans s6;refine q u6 _ _ H6 (ur.trans (aD.of W3)) (p2.same W3) h6 ((jE.app (wo (o:=some 0) fun _ _=>.int 0)).app jE) (Ep ?_);unfold sI;rw[cD,cD,aZ,aZ,fA,lY,oC];lia
  have JE:k<ns.length:=by lia
  have Ug:=ur _ _ ha na;have gk:(NV ns)[k]?=some (.int ((ns.getD k 0:Nat):Int)):=wm JE;refine⟨_,rfl,_,rfl,_,rfl,a,_,_,_,rfl,rfl,cI.of Ug,bf gk,?_⟩;refine⟨_,rfl,_,rfl,a,_,_,_,rfl,rfl,cI.of Ug,bf gk,_,rfl,_,_,rfl,rfl,⟨by decide,by decide,by decide⟩,p,10 ^ 30,rfl,by decide,by decide,p2,fun d3 H3 hd3 s3 p3=>⟨_,_,rfl,rfl,?_⟩⟩;refine rF (p:=p) z1 p3.full fun vs H4 s4 W4=>?_;have lw:(V.int (-1)::V.int ((ns.getD k 0:Nat):Int)::V.int (((ns.getD k 0:Nat):Int)+(d3:Int))::(vs++[])).length=10:=by
   rw[cM,cM,cM,fE,W4.len,ol]
  refine⟨by rw[lw];decide,fun D hD=>?_⟩;have VZ:∀v∈V.int (-1)::V.int ((ns.getD k 0:Nat):Int)::V.int (((ns.getD k 0:Nat):Int)+(d3:Int))::(vs++[]),qh K p (ns.getD k 0) H4 v:=by
   intro v hv;rw[fE] at hv;simp only[bg] at hv;rcases hv with rfl|rfl|rfl|z
   .exact lL (.inl (by decide))
   .exact lL (.inr (iU _))
   .exact lL (.inr (by lia))
   .exact W4.all (R:=qh K p (ns.getD k 0) H4) (fun o ho v hv=>⟨Mi o,fun H' s'=>IR hv s',IS (Uf o ho)⟩) v z
  change bp 5 (V.ref D) _ (upd H4 D (.lst (V.int (-1)::V.int ((ns.getD k 0:Nat):Int)::V.int (((ns.getD k 0:Nat):Int)+(d3:Int))::(vs++[])))) _;generalize V.int (-1)::V.int ((ns.getD k 0:Nat):Int)::V.int (((ns.getD k 0:Nat):Int)+(d3:Int))::(vs++[])=ws at *;have sD:=ai (o:=.lst ws) hD;have gD:(upd H4 D (.lst ws)) D=some (.lst ws):=ag;have p4:=p3.same s4;have nD:D≠p:=p4.ne hD;have Uh:∀v∈ws,qh K p (ns.getD k 0) (upd H4 D (.lst ws)) v:=fun v hv=>(VZ v hv).b9 (aD.of sD);have p5:=p4.same sD;have W5:aD p H (upd H4 D (.lst ws)):=(ur.trans s3).trans (aD.of (s4.trans sD));generalize upd H4 D (.lst ws)=H5 at *;have Rb:=W5 _ _ hb nb;refine⟨_,rfl,_,rfl,_,rfl,b,_,rfl,Rb,fun u1 H6 s6 h6=>?_⟩;rw[e1] at h6;refine⟨_,rfl,_,rfl,_,rfl,D,_,rfl,.inl (a_.of (s6 _ _ gD)),p,10,by rw[lw];rfl,by decide,by decide,p5.same s6,fun d7 H7 hd7 s7 p7=>?_⟩;have yR:d7<ws.length:=by rw[lw];exact hd7
  refine⟨D,_,_,ws[d7],rfl,rfl,a_.of (s7 _ _ (s6 _ _ gD) nD),bf (cV yR),by show 1<=sizeLine;decide,fun u2 O1=>?_⟩;have bv:=((Uh _ (eM yR)).b9 (aD.of s6)).b9 s7;generalize ws[d7]=v at *;have su:=ai (o:=.tup [v]) O1;have n1:u1≠p:=(p5.same s6).neT h6;refine⟨u1,u2,_,[v],rfl,rfl,su _ _ (s7 _ _ h6 n1),ag,lz (by lia) (show 1<=10 by decide),fun u8 H8 s8 h8=>?_⟩;have O2:=su.trans s8;have W6:aD p H5 H8:=((aD.of s6).trans s7).trans (aD.of O2);refine⟨_,rfl,_,rfl,_,_,rfl,rfl,_,rfl,?_⟩;unfold nV;show GU _ _ _ _ _;refine⟨b,_,rfl,W6 _ _ Rb nb,fun u9 H9 s9 h9=>?_⟩;rw[e2] at h9;refine⟨u8,u9,_,_,rfl,rfl,s9 _ _ h8,h9,lz (by rw[cD,oC];lia) (aY (t2 _) (by decide)),fun u10 K7 uJ h10=>?_⟩;have O4:=(O2.trans s9).trans uJ;obtain⟨o,ho,hwi⟩:=bv;refine q u10 _ _ K7 (W5.trans (W6.trans (aD.of (s9.trans uJ)))) (p7.same O4) h10 ((jE.app (wo (o:=o) fun H' s'=>ho H' ((aD.of O4).trans s'))).app jE) (OX JE ?_);have tl:(sI (ds.take k)).length=k:=by unfold sI;rw[aZ,fA];lia
  have:(sI (ds.take k)++[o]++sI (ds.drop (k+1))).getD k none=o:=by
   rw[dY,gN (by rw[cD,tl];exact gR _),iM (by rw[tl];exact a9 _),tl,Nat.sub_self];rfl
  rw[this];exact hwi
end
end pV
namespace L2
open PySem PySem.Spec PyProof.Rows
theorem Ad{X:Cx}{d:Nat}(hu:X.A.units+(d+1)<cLine):lR X (compareOp .Eq) (ID X false d):=by
 intro ae s σ H x y v u Q I rx ry h;obtain⟨p,q,xs,ys,rfl,rfl,hp,hq,hl,he,k⟩:=h;obtain rfl:v=Value.ref p:=rx;obtain rfl:u=Value.ref q:=ry;obtain⟨us,r1,p1,_⟩:=I.list hp;obtain⟨vs,r2,p2,_⟩:=I.list hq;refine SeqAt.eq_listAt (e:=fun _=>true) p1.isList p2.isList (by simp only[cs];rw[<-r1.length,<-r2.length];exact hl) (by lia) (jA I (by show X.A.units+1+d<cLine;lia) r1 r2 he) ⟨.bl _,H,I,rfl,?_⟩;rw[lI];exact k
theorem Es{X:Cx}{H:Hp}{i:Bool}:Fg X H 0 (.bl i) (.bl i):=by
 intro ae s σ A u v I hu rx ry;have h:=xO (A:=A) (s:=s) rx ry rfl rfl;rw[show E9 (.bl i) (.bl i)=true by cases i <;> rfl] at h;exact h
end L2
namespace pV
open PySem L2 iI
theorem qi{Pt:Addr}{H H':Hp}(t:iL Pt H)(s:aV H H'):iL Pt H':=by
 rcases t with z|⟨c,z,y⟩
 .exact .inl (s _ _ z)
 .exact .inr ⟨c,s _ _ z,s _ _ y⟩
abbrev Rc:Stmt:=gK 50
abbrev Re:Stmt:=gK 51
section
variable {P:Program} {w:World} {K:PySem.W.Frag} {mg:Str->Option Value} {base:Heap}
theorem Hn:aE ["_law_sides_here","_law_found","_law_e"] ["_law_sides_here"] (aj Re):=⟨rfl,rfl,rfl,by decide +kernel,rfl,by decide +kernel,by decide +kernel⟩
def K_(K:PySem.W.Frag)(Pt:Addr):Sp:=fun vs H Q _=>∃ (x:V) (o:Option (List (Option Int))),vs=[x]/\(∀H',aV H H'->Sd K H' x o)/\v3 o=none/\iL Pt H/\∀H',aV H H'->Q (.bl true) H'
theorem O5{f fI C CB CS cB Pt:Addr}{c:Nat->Addr}{fd Op:FuncData}(F:eJ K "_law_no_box" "_law_no_box" Re f fd)(B:Bl mg)(TB:GZ K mg CB)(Et:Er K mg "BeatError" cB)(kd:OI K c CS 1)(ss:PySem.W.subIn K (.ref CS) (.ref cB)=some true)(KD:CU P w K mg base 1 "_law_kinds" ["_law_e"] (Bp K c))(M:Mk K CB fI)(GI:be P w K mg base (dZ P w) 11 fI Op ["self","sides"] (qf K C CB CS Pt))(bI:dJ K Op ["self","sides"] []):be P w K mg base br 13 f fd ["_law_sides_here"] (K_ K Pt):=by
 refine F.ok Hn (fun vs H Q E h=>?_) (fun cm A outer s H vs Q E hr h=>?_)
 .obtain⟨x,o,rfl,_⟩:=h;rfl
 .obtain⟨x,o,rfl,sd,bo,tb,q⟩:=h;have h1:bK 1 _:=hr.mono (by decide);refine'⟨_,ah (aK (i:=1) Hn.nd rfl (Or.inl rfl) (bX af))
   (ah (z_ (i:=2) (tb:=fun E=>HY (CO CB (qf K C CB CS Pt) [] E (bQ (bU 0) eC))) (th:=fun p'=>Al (qE JB (tR ((A.deeper (PyProof.Rows.envOfC "_law_no_box" (aj Re) s.heap.objs.size f cm)).mark (some (.ref p'))) (Bp K c) [] E0 (bQ (bU 2) eC)) (Fx (bQ (E7 (JL K) (bQ (bU 2) (bQ (tC (.ty "ValueError")) eC))) eC))) (bp 1)) Et.ok rfl Et.at_ rfl rfl Hn.nd rfl rfl
      (fun E Ui xe hx=>?tb)
      ?hh)
   (ak (aN (lh (Ad (d:=0) hr.u) (pv 1) (bX (aa az (aa gg af))) (bb _))))),?_⟩
  case tb=>exact ak (b_ (Ei M GI hr rfl TB.QK bI .nil hx (aa (pv 0) af)))
  case hh=>exact fun Ui p'=>ak (aK (i:=1) Hn.nd rfl (Or.inl rfl) (aR pE (zi KD ⟨h1.dp,h1.un⟩ jT (aa (pv 2) af)) (bX (aa (av eT (by rfl) B.rq dG (aa (pv 2) (aa (gh (v:=.ty "ValueError") rfl B.N5 IK rfl) af))) af))))
  refine⟨by show 0<=sizeLine;decide,fun l0 Nb=>?_⟩;have s0:=ai (o:=.lst []) Nb;generalize upd H l0 (.lst [])=H0 at *;refine⟨fun σ' C' a H'=>σ'=[some x,some (.ref l0),none]/\C'=.ref CS/\aV H H',⟨?_,?_⟩⟩
  .refine⟨_,rfl,fun b dx hb hdx tK=>?_⟩;have sN:aV H0 (upd (upd H0 dx (.own b)) b (.ins CB dx [])):=(ai (o:=.own b) hdx).trans (ai (D:=b) (o:=.ins CB dx []) (by rw[ao tK.symm];exact hb));have s1:=s0.trans sN;refine⟨b,dx,x,o,rfl,ag,sd _ s1,qi tb s1,fun _=>⟨rfl,rfl,s1⟩,fun ns z=>?_⟩;rw[bo] at z;cases z
  .rintro σ' C' H4 ⟨rfl,rfl,s4⟩;refine⟨ss,⟨_,rfl⟩,fun px Uj=>?_⟩;have s5:=ai (o:=qG px (.ref CS)) Uj;refine⟨_,rfl,.inr ⟨px,_,rfl,ag⟩,px,CS,1,rfl,kd,ag,fun r H6 s6 Bc=>?_⟩;refine⟨_,rfl,_,_,_,.ref CS,true,rfl,⟨rfl,kd.kv⟩,.exc kd.ok (s6 _ _ ag),by show 1<=sizeLine;decide,fun l hl=>?_⟩;refine⟨r,l,_,_,rfl,rfl,(ai hl) _ _ Bc,ag,by show 2<=sizeLine;decide,fun l2 JC=>?_⟩;have s8:=(((s4.trans s5).trans s6).trans (ai (o:=.lst [.bl true]) hl)).trans (ai (o:=.lst ([.int (1:Nat)]++[.bl true])) JC);have g8:(upd (upd H6 l (.lst [.bl true])) l2 (.lst ([V.int (1:Nat)]++[.bl true]))) l2=some (.lst [.int 1,.bl true]):=ag;generalize upd (upd H6 l (.lst [.bl true])) l2 (.lst ([V.int (1:Nat)]++[.bl true]))=H8 at *;refine⟨_,rfl,by show 2<=sizeLine;decide,fun l3 Q8=>?_⟩;refine⟨l2,l3,_,_,rfl,rfl,a_.of ((ai Q8) _ _ g8),a_.of ag,rfl,fun i h1 _=>?_,?_⟩
   .match i,h1 with
    |0,_=>exact lH
    |1,_=>exact Es
    |i+2,h=>exact absurd h (by simp)
   .exact q _ (s8.trans (ai Q8))
theorem Eu:aE ["_law_box","_law_way","_law_thing","_law_told_here","_law_e"] ["_law_box","_law_way","_law_thing"] (aj Rc):=⟨rfl,rfl,rfl,by decide +kernel,rfl,by decide +kernel,by decide +kernel⟩
def La(K:PySem.W.Frag)(C CB:Addr):Sp:=fun vs H Q _=>∃ (L:Addr->Prop) (b:Addr) (ns:List Nat) (Ml:Nat) (x:V),vs=[.ref b,.int Ml,x]/\hJ C CB H L b ns/\
  ((Ml=0/\∃o,Q6 K H x o/\(aJ o 0 ((pr ns:Int)-1)=false->∀ (r:Addr) (H':Hp),aV H H'->H' r=some (.lst [.int (4:Nat),.bl true])->Q (.ref r) H')/\∀h:Nat,h<pr ns->o=some (h:Int)->∀ (t:Addr) (H':Hp),aV H H'->H' t=some (.tup (NV (hU ns h)))->Q (.ref t) H')\/
   (Ml=1/\∃ (a:Addr) (xs:List V) (os:List (Option Int)),x=.ref a/\H a=some (.tup xs)/\os.length=xs.length/\(∀ (i:Nat) y o,xs[i]?=some y->os[i]?=some o->Q6 K H y o)/\(Aa ns os=false->∀ (r:Addr) (H':Hp),aV H H'->H' r=some (.lst [.int (4:Nat),.bl true])->Q (.ref r) H')/\(Aa ns os=true->∀H',aV H H'->Q (.int (Fh ns (os.map nI):Nat)) H')))
theorem O6{f C CB CE cB:Addr}{c:Nat->Addr}{fd:FuncData}(F:eJ K "_law_told" "_law_told" Rc f fd)(B:Bl mg)(TB:GZ K mg CB)(Et:Er K mg "BeatError" cB)(kd:OI K c CE 4)(ss:PySem.W.subIn K (.ref CE) (.ref cB)=some true)(KD:CU P w K mg base 1 "_law_kinds" ["_law_e"] (Bp K c))(MP:eX P w K mg base (dZ P w) 5 CB "place" ["self","house"] (v_ K C CB CE))(MH:eX P w K mg base (dZ P w) 4 CB "house" ["self","place"] (qg K C CB CE)):
  be P w K mg base br 6 f fd ["_law_box","_law_way","_law_thing"] (La K C CB):=by
 obtain⟨fP,fdP,mP,bP,GP⟩:=MP.ex;obtain⟨fH,fdH,mH,bH,GH⟩:=MH.ex;refine F.ok Eu (fun vs H Q E h=>?_) (fun cm A outer s H vs Q E hr h=>?_)
 .obtain⟨L,b,ns,Ml,x,rfl,_⟩:=h;rfl
 .obtain⟨L,b,ns,Ml,x,rfl,BA,hk⟩:=h;have h1:bK 1 _:=hr.mono (by decide);have h4:bK 4 _:=hr.mono (by decide);refine'⟨_,ah (aK (i:=3) Eu.nd rfl (Or.inl rfl) (bX af))
   (ah (z_ (i:=4) (tb:=fun E=>Al (VH (y4 (qE RP (bU 1) (tC (.int 0)))) (xR CB "place" (v_ K C CB CE) [] E (bU 0) (bQ (bU 2) eC)) (xR CB "house" (qg K C CB CE) [] E (bU 0) (bQ (bU 2) eC))) (bp 3)) (th:=fun p'=>Al (qE JB (tR ((A.deeper (PyProof.Rows.envOfC "_law_told" (aj Rc) s.heap.objs.size f cm)).mark (some (.ref p'))) (Bp K c) [] E0 (bQ (bU 4) eC)) (Fx (bQ (E7 (JL K) (bQ (bU 4) (bQ (tC (.ty "ValueError")) eC))) eC))) (bp 3)) Et.ok rfl Et.at_ rfl rfl Eu.nd rfl rfl
      (fun E Ui xe hx=>?tb)
      ?hh)
   (ak (aN (pv 3)))),?_⟩
  case tb=>exact ak (aK (i:=3) Eu.nd rfl (Or.inl rfl) (B4 (a8 lg (pv 1) az (bb _)) (we (pv 0) TB.cl mP GP hr bP .nil hx (aa (pv 2) af)) (we (pv 0) TB.cl mH GH h4 bH .nil hx (aa (pv 2) af))))
  case hh=>exact fun Ui p'=>ak (aK (i:=3) Eu.nd rfl (Or.inl rfl) (aR pE (zi KD ⟨h1.dp,h1.un⟩ jT (aa (pv 4) af)) (bX (aa (av eT (by rfl) B.rq dG (aa (pv 4) (aa (gh (v:=.ty "ValueError") rfl B.N5 IK rfl) af))) af))))
  refine⟨by show 0<=sizeLine;decide,fun l0 Nb=>?_⟩;have s0:=ai (o:=.lst []) Nb;have Uk:=BA.same s0;obtain⟨dx,pn,sr,hb,N,wa⟩:=Uk.ob;have keep:∀a o,H a=some o->(upd H l0 (.lst [])) a=some o:=fun a o e=>s0 a o e;generalize upd H l0 (.lst [])=H0 at *;refine⟨fun σ' C' a H'=>σ'=[some (.ref b),some (.int (Ml:Int)),some x,some (.ref l0),none]/\C'=.ref CE/\aV H H'/\∀ (r:Addr) (H2:Hp),aV H H2->H2 r=some (.lst [.int (4:Nat),.bl true])->Q (.ref r) H2,⟨?_,?_⟩⟩
  .rcases hk with ⟨rfl,o,wh,k1,k2⟩|⟨rfl,a,xs,os,rfl,ha,ol,ew,k1,k2⟩
   .refine⟨_,rfl,rfl,_,rfl,z8 (bJ rfl) ?_⟩;refine⟨_,rfl,b,dx,_,rfl,hb,qd,_,rfl,L,b,ns,x,o,rfl,Uk,wh _ s0,fun z=>⟨rfl,rfl,s0,k1 z⟩,fun h hh e t H' s' ht=>⟨_,rfl,k2 h hh e t H' (s0.trans s') ht⟩⟩
   .refine⟨_,rfl,rfl,_,rfl,eY rfl ?_⟩;refine⟨_,rfl,b,dx,_,rfl,hb,v9,_,rfl,L,b,a,ns,xs,os,rfl,Uk,keep _ _ ha,ol,fun i y o h1 h2 H' s'=>ew i y o h1 h2 H' (s0.trans s'),fun z H' s'=>⟨rfl,rfl,s0.trans s',k1 z⟩,fun z H' s'=>⟨_,rfl,k2 z H' (s0.trans s')⟩⟩
  .rintro σ' C' H4 ⟨rfl,rfl,s4,k⟩;refine⟨ss,⟨_,rfl⟩,fun px Uj=>?_⟩;have s5:=ai (o:=qG px (.ref CE)) Uj;refine⟨_,rfl,.inr ⟨px,_,rfl,ag⟩,px,CE,4,rfl,kd,ag,fun r H6 s6 Bc=>?_⟩;refine⟨_,rfl,_,_,_,.ref CE,true,rfl,⟨rfl,kd.kv⟩,.exc kd.ok (s6 _ _ ag),by show 1<=sizeLine;decide,fun l hl=>?_⟩;refine⟨r,l,_,_,rfl,rfl,(ai hl) _ _ Bc,ag,by show 2<=sizeLine;decide,fun l2 JC=>⟨_,rfl,?_⟩⟩;exact k l2 _ ((((s4.trans s5).trans s6).trans (ai hl)).trans (ai JC)) ag
end
def Lb(x:Int):Int:=if x<0 then -x else x
def df(ns:List Nat)(a b k:Nat):Int:=Lb (((hU ns a).getD k 0:Nat)-((hU ns b).getD k 0:Nat))
theorem Ae:∀ {ns:List Nat} {a b:Nat},((List.range ns.length).map (df ns a b)).sum=((l1 ns a b:Nat):Int)
 |[],_,_=>rfl
 |n::ns,a,b=>by
  rw[cM,wS,fJ,List.sum_cons,eO];have ih:=Ae (ns:=ns) (a:=a / n) (b:=b / n);show df (n::ns) a b 0+((List.range ns.length).map (df ns (a / n) (b / n))).sum=((jX (a % n) (b % n)+l1 ns (a / n) (b / n):Nat):Int);rw[ih,Int.natCast_add];congr 1;show Lb ((a % n:Nat)-(b % n:Nat))=((jX (a % n) (b % n):Nat):Int);unfold Lb jX;split <;> lia
theorem Ev{n:Nat}{ts us vs:Ts}(F:iJ n ts)(p:us.Perm ts)(q:vs.Perm ts)(ou:Kc us)(ov:Kc vs):us=vs:=by
 have n2:=F.n2;have st:∀ {ws:Ts},ws.Perm ts->Kc ws->ws.Pairwise (fun u v=>L2.pk u<L2.pk v):=fun {ws} pw ow=>by
  have:=ow.and (on.mp (pw.nodup_iff.mpr F.nd));refine this.imp_of_mem fun {u v} hu hv z=>?_;have r1:=(F.rg u (pw.mem_iff.mp hu)).2;have r2:=(F.rg v (pw.mem_iff.mp hv)).2;obtain⟨z1,z2⟩:=z;unfold L2.pk at z1 |-;by_cases c:u.1=v.1
  .have:u.2≠v.2:=fun d=>z2 (ig c d);lia
  .lia
 exact gn (st p ou) (st q ov) fun x=>by rw[p.mem_iff,q.mem_iff]
theorem O7(n:Int)(tl ol ds:Addr):(je n tl ol ds).lookup ("many":Str)=none:=jx n tl ol ds (by decide +kernel) (by decide +kernel) (by decide +kernel) (by decide +kernel)
theorem O8(n:Int)(tl ol ds:Addr):(je n tl ol ds).lookup ("ties":Str)=none:=jx n tl ol ds (by decide +kernel) (by decide +kernel) (by decide +kernel) (by decide +kernel)
theorem Lc{X:Cx}{H:Hp}{zs ys:Zs}(h1:PO H zs)(h2:PO H ys)(e:zp zs=zp ys){i:Nat}(hi:i<(zr zs).length):Fg X H 1 ((zr zs).getD i .bV) ((zr ys).getD i .bV):=by
 rw[eH] at hi;have hl:zs.length=ys.length:=by rw[<-bD,e,bD]
 have hj:i<ys.length:=by lia
 have e1:(zr zs).getD i .bV=.ref zs[i].1:=by unfold zr;rw[dY,bi,cV hi];rfl
 have e2:(zr ys).getD i .bV=.ref ys[i].1:=by unfold zr;rw[dY,bi,cV hj];rfl
 have e3:zs[i].2=ys[i].2:=by
  have:=congrArg (fun l=>l[i]?) e;unfold zp at this;simp only[bi,cV hi,cV hj] at this;exact bt this
 rw[e1,e2];have g1:=h1 zs[i] (eM hi);have g2:=h2 ys[i] (eM hj);rw[<-e3] at g2;refine GJ (d:=0) (cI.of g1) (cI.of g2) rfl fun j hj _=>?_
 match j,hj with
 |0,_=>exact lH
 |1,_=>exact lH
 |j+2,h=>exact absurd h (by simp)
def qM(ns:List Nat)(i j:Nat):Ts:=((List.range j).filter fun b=>decide (l1 ns i b=1)).map fun b=>(((i:Nat):Int),((b:Nat):Int))
def yF(ns:List Nat)(m:Nat):Nat->Ts
 |0=>[]
 |i+1=>yF ns m i++qM ns i m
theorem Ew{ns:List Nat}{i j:Nat}:qM ns i (j+1)=qM ns i j++if l1 ns i j=1 then [(((i:Nat):Int),((j:Nat):Int))] else []:=by
 unfold qM;rw[lZ,iO,dI];congr 1;by_cases c:l1 ns i j=1
 .rw[aq c,eN,aq (bJ c)];rfl
 .rw[au c,eN,au (by simpa using c)];rfl
theorem yG{ns:List Nat}{i j:Nat}{u:Int×Int}:u∈qM ns i j↔∃b,b<j/\l1 ns i b=1/\u=((i:Int),(b:Int)):=by
 unfold qM;constructor
 .intro h;obtain⟨b,hb,rfl⟩:=bu.mp h;obtain⟨h1,h2⟩:=fk.mp hb;exact⟨b,dv.mp h1,dH h2,rfl⟩
 .rintro⟨b,h1,h2,rfl⟩;exact bu.mpr ⟨b,fk.mpr ⟨dv.mpr h1,bJ h2⟩,rfl⟩
theorem yH{ns:List Nat}{m:Nat}{u:Int×Int}:∀ {i:Nat},u∈yF ns m i↔∃a b,a<i/\b<m/\l1 ns a b=1/\u=((a:Int),(b:Int))
 |0=>⟨fun h=>(nomatch h),fun ⟨_,_,h,_⟩=>absurd h (xt _)⟩
 |i+1=>by
  show u∈yF ns m i++qM ns i m↔_;rw[cf,yH,yG];constructor
  .rintro(⟨a,b,h1,h2⟩|⟨b,h1,h2,e⟩)
   .exact⟨a,b,cr h1,h2⟩
   .exact⟨i,b,gR i,h1,h2,e⟩
  .rintro⟨a,b,h1,h2,h3,e⟩;rcases Nat.lt_or_ge a i with z|z
   .exact .inl ⟨a,b,z,h2,h3,e⟩
   .obtain rfl:a=i:=by lia
    exact .inr ⟨b,h2,h3,e⟩
theorem Ld{ns:List Nat}{i j:Nat}:(qM ns i j).Pairwise fun u v=>L2.pk u<L2.pk v:=by
 unfold qM;rw[f9];refine List.Pairwise.filter _ (List.pairwise_lt_range.imp fun {a b} h=>?_);unfold L2.pk;show 64*(i:Int)+(a:Int)<64*(i:Int)+(b:Int);lia
theorem yI{ns:List Nat}{m:Nat}(hm:m<=32):∀ {i:Nat},(yF ns m i).Pairwise fun u v=>L2.pk u<L2.pk v
 |0=>List.Pairwise.nil
 |i+1=>by
  refine rP.mpr ⟨yI hm,Ld,fun u hu v hv=>?_⟩;obtain⟨a,b,h1,h2,_,rfl⟩:=yH.mp hu;obtain⟨c,h3,_,rfl⟩:=yG.mp hv;unfold L2.pk;show 64*(a:Int)+(b:Int)<64*(i:Int)+(c:Int);lia
theorem Ey:∀ {ns:List Nat} {k a b:Nat},Mf ns k a b->l1 ns a b=1
 |[],_,_,_,h=>h.elim
 |n::ns,0,a,b,⟨h,e⟩=>by
  subst e;obtain⟨s1,s2⟩:=eG h;show jX (a % n) ((a+1) % n)+l1 ns (a / n) ((a+1) / n)=1;rw[s1,s2,uD];unfold jX;lia
 |n::ns,k+1,a,b,⟨e,h⟩=>by
  show jX (a % n) (b % n)+l1 ns (a / n) (b / n)=1;rw[Ey h,e];unfold jX;lia
theorem Ez:∀ {ns:List Nat} {a b:Nat},l1 ns a b=l1 ns b a
 |[],_,_=>rfl
 |n::ns,a,b=>by
  show jX (a % n) (b % n)+l1 ns (a / n) (b / n)=jX (b % n) (a % n)+l1 ns (b / n) (a / n);rw[Ez (ns:=ns)];unfold jX;lia
theorem uK{ns:List Nat}{a b:Nat}(BX:Bx ns)(ha:a<pr ns)(hb:b<pr ns):l1 ns a b=1↔∃k,QX ns a b k:=by
 constructor
 .intro h;obtain⟨c,hc,t,e⟩:=uF (d:=0) BX.pos ha hb h;rw[uE hc hb e] at t;exact t
 .rintro⟨k,h|h⟩
  .exact Ey h
  .rw[Ez];exact Ey h
theorem Le{ns:List Nat}(BX:Bx ns)(FI:iJ (pr ns) (uY ns)):(yF ns (pr ns) (pr ns)).Perm (uY ns):=by
 have nd:(yF ns (pr ns) (pr ns)).Nodup:=(yI BX.rE).imp fun {u v} h e=>by rw[e] at h;exact absurd h (Int.lt_irrefl _)
 refine(List.perm_ext_iff_of_nodup nd FI.nd).mpr fun u=>?_;rw[yH];constructor
 .rintro⟨a,b,ha,hb,e,rfl⟩;exact(jD BX.pos ha hb).mpr ((uK BX ha hb).mp e)
 .intro hu;obtain⟨⟨r1,r2⟩,r3,r4⟩:=FI.rg u hu;obtain⟨a,ha⟩:∃a:Nat,u.1=(a:Int):=⟨u.1.toNat,(rW r1).symm⟩
  obtain⟨b,hb⟩:∃b:Nat,u.2=(b:Int):=⟨u.2.toNat,(rW r3).symm⟩
  have e:u=((a:Int),(b:Int)):=ig ha hb;have FN:a<pr ns:=by rw[ha] at r2;exact Int.ofNat_lt.mp r2
  have qF:b<pr ns:=by rw[hb] at r4;exact Int.ofNat_lt.mp r4
  refine⟨a,b,FN,qF,(uK BX FN qF).mpr ((jD BX.pos FN qF).mp ?_),e⟩;rw[e] at hu;exact hu
theorem qj{n h b:Nat}(hb:b<n):((h:Int)+key n h b) % (n:Int)=(b:Int):=by
 unfold key;rw[show ((h:Int)+((b:Int)-(h:Int)) % (n:Int)) % (n:Int)=((h:Int)+((b:Int)-(h:Int))) % (n:Int) by simp,show (h:Int)+((b:Int)-(h:Int))=(b:Int) by lia];exact xi (by lia) (by lia)
theorem Bs{n:Nat}{ts:Ts}{h:Nat}(F:iJ n ts)(hh:h<n){bs:List Nat}(nd:bs.Nodup)(hm:∀b,b∈bs↔T ts h b){S:List Int}(p:S.Perm (bs.map (key n h)))(so:S.Pairwise (·<=·)):S.map (fun s=>((h:Int)+s) % (n:Int))=(c_ n ts h).map fun (x:Nat)=>(x:Int):=by
 have lt:∀ {b},T ts h b->b<n:=fun t=>(F.QJ t).2.1;have nk:(bs.map (key n h)).Nodup:=by
  unfold List.Nodup;rw[f9];refine nd.imp_of_mem fun {a b} ha hb ne e=>ne ?_;have:=congrArg (fun z=>((h:Int)+z) % (n:Int)) e;simp only[qj (lt ((hm _).mp ha)),qj (lt ((hm _).mp hb))] at this;exact iD this
 have sS:S.Pairwise (fun x y=>id x<id y):=by
  refine(so.and (p.nodup_iff.mpr nk)).imp fun {a b} z=>?_;have:=z.1;have:=z.2;show a<b;lia
 have e:S=(c_ n ts h).map (key n h):=by
  refine gn (k:=id) sS (f9.mpr (ng hh)) fun x=>?_;rw[p.mem_iff,bu,bu];exact⟨fun ⟨b,hb,e⟩=>⟨b,(fX F hh).mpr ((hm b).mp hb),e⟩,fun ⟨b,hb,e⟩=>⟨b,(hm b).mpr ((fX F hh).mp hb),e⟩⟩
 rw[e,eO];exact kT fun b hb=>qj (lE F hh hb)
abbrev Ul:Stmt:=gK 55
theorem ft:(["_law_house","_law_sides_here"]:List Str).Nodup:=by decide +kernel
theorem mK:(["_law_x","_law_y"]:List Str).Nodup:=by decide +kernel
theorem uL{K:PySem.W.Frag}{ns:List Nat}{a b:Nat}{r1 r2 D:Addr}{H:Hp}{σB:St}{fin:Hp->Prop}(l5:ns.length<=5)(h1:H r1=some (.lst (NV (hU ns a))))(h2:H r2=some (.lst (NV (hU ns b))))(hD:H D=none)(hs:∃u v,σB=[u,v])(q:∀H',aV H H'->H' D=some (.lst (((List.range ns.length).map (df ns a b)).map V.int))->fin H'):
  jS (yC true true K r1 r2) (qD K 2 (dN (bp 0) (dN (bp 1) qC))) CJ (E7 (fun xs H Q=>∃i,xs=[.int i]/\Q (.int (if i<0 then -i else i)) H) (bQ (qE (yX fun i j=>.int (i-j)) (bU 0) (bU 1)) eC)) D fin σB (upd H D (.lst [])):=by
 refine Bn (ka:=true) (kb:=true) (xs:=NV (hU ns a)) (ys:=NV (hU ns b)) (by rw[aW,aW,bR,bR]) (fun i ys σ H3=>(∃u v,σ=[u,v])/\aV H H3/\H3 D=some (.lst ys)/\ys=((List.range i).map (df ns a b)).map V.int) ⟨hs,ai hD,ag,rfl⟩ (fun i ys σ H3 _ z=>⟨a_.of (z.2.1 _ _ h1),a_.of (z.2.1 _ _ h2)⟩) ?_ ?_
 .rintro i x y p ys σ H3 Kt Kf hx hy ⟨⟨u,v,rfl⟩,s3,d3,rfl⟩ hp kt kf;have hi:i<ns.length:=by have:=(cL.mp hx).1;rwa [aW,bR] at this
  obtain rfl:=bt (hx.symm.trans (wm (by rw[bR];exact hi)));obtain rfl:=bt (hy.symm.trans (wm (by rw[bR];exact hi)));have sp:=ai (o:=.tup [.int (((hU ns a).getD i 0:Nat):Int),.int (((hU ns b).getD i 0:Nat):Int)]) hp;refine⟨p,_,rfl,cI.of ag,rfl,_,_,rfl,_,_,rfl,rfl,?_⟩;refine⟨_,rfl,_,rfl,_,_,rfl,rfl,_,rfl,?_⟩;refine kt _ _ _ (sp _ _ d3) (by rw[aZ,aZ,kX];exact bz (show i<17 by lia) (by decide)) ⟨⟨_,_,rfl⟩,cH (s3.trans sp) hD,ag,?_⟩;rw[lZ,dI,dI];rfl
 .rintro ys σ H3 ⟨_,s3,d3,rfl⟩;rw[aW,bR] at d3;exact q H3 s3 d3
section
variable {P:Program} {w:World} {K:PySem.W.Frag} {mg:Str->Option Value} {base:Heap}
theorem yJ:aE ["_law_sides_here","_law_places","_law_found","_law_one","_law_here","_law_other","_law_there"] ["_law_sides_here"] (aj Ul):=⟨rfl,rfl,rfl,by decide +kernel,rfl,by decide +kernel,by decide +kernel⟩
theorem wq{n:Nat}{D:Addr}{H0:Hp}{ns:List Nat}{a:Addr}{σB:St}{fin:Hp->Prop}(hs:∃u,σB=[u,some (.ref a)])(hD:H0 D=none)(ha:H0 a=some (.tup (NV ns)))(BX:Bx ns)(hn:n=pr ns)(q:∀H' as,aV H0 H'->H' D=some (.lst (as.map V.ref))->Holds H' as (pr ns) (fun h=>.lst (NV (hU ns h)))->(∀x∈as,H0 x=none)->fin H'):
  jS (E5 0 n) (bp 0) CJ (pz wd [] E0 (bQ (bU 1) (bQ (bU 0) eC))) D fin σB (upd H0 D (.lst [])):=by
 subst hn;have rE:=BX.rE;refine ip (lo:=0) (n:=pr ns) (fun i ys σ H=>(∃u,σ=[u,some (.ref a)])/\aV H0 H/\H D=some (.lst ys)/\∃as,ys=as.map V.ref/\(Holds H as i fun h=>.lst (NV (hU ns h)))/\∀x∈as,H0 x=none) ⟨hs,ai hD,ag,[],rfl,Holds.nil,fun x h=>(nomatch h)⟩ ?_ ?_
 .rintro i ys σ H Kt Kf hi ⟨⟨u,rfl⟩,sm,hl,as,rfl,hA,fr⟩ kt kf;rw[gv];refine⟨_,rfl,_,rfl,a,ns,i,rfl,sm _ _ ha,BX,fun r H4 s4 nr On=>?_⟩;have Q9:=s4 _ _ hl;have Ky:r≠D:=fun e=>by rw[e] at nr;rw[nr] at hl;cases hl
  refine kt _ _ _ Q9 (by rw[aZ,hA.1];exact bz (show i<33 by lia) (by decide)) ⟨⟨_,rfl⟩,cH (sm.trans s4) hD,ag,as++[r],by rw[dI];rfl,?_,fun x hx=>(cf.mp hx).elim (fr x) fun z=>by rw[cX.mp z];exact sm.free nr⟩;refine Holds.snoc ?_ (by rw[ao Ky];exact On);refine hA.mono fun j hj e=>?_;have e4:=s4 _ _ e;rw[ao (dM e4 Q9 (fun z=>?_))]
  .exact e4
  .injection z with z;have:=congrArg (fun l=>l[0]?) z;simp only[wm (xs:=hU ns j) (j:=0) (by rw[bR];exact BX.l1),bi] at this;cases c:as[0]? <;> rw[c] at this <;> cases this
 .rintro ys σ H ⟨_,sm,hl,as,rfl,hA,fr⟩;exact q H as sm hl hA fr
def Lf:Sp:=fun vs H Q _=>∃ (a:Addr) (ns:List Nat),vs=[.ref a]/\H a=some (.tup (NV ns))/\Bx ns/\∀ (r:Addr) (zs:Zs) (H':Hp),aV H H'->H r=none->H' r=some (.lst (zr zs))->PO H' zs->zp zs=yF ns (pr ns) (pr ns)->Q (.ref r) H'
theorem EA{ns:List Nat}{i j:Nat}:(qM ns i j).length<=j:=by
 unfold qM;rw[aZ];exact aY (iN _ _) (by rw[kX];exact a9 _)
theorem yK{ns:List Nat}{m:Nat}:∀ {i:Nat},(yF ns m i).length<=i*m
 |0=>cN _
 |i+1=>by
  show (yF ns m i++qM ns i m).length<=_;rw[cD,Nat.succ_mul];exact Nat.add_le_add yK EA
theorem O9{f:Addr}{fd:FuncData}(F:eJ K "_law_ties" "_law_ties" Ul f fd)(B:Bl mg)(IT:mg "enumerate"=none)(Ho:mg "sum"=none)(Hq:mg "zip"=none)(Hr:mg "abs"=none)(PL:cP P w K mg base br 1 "_law_place" ["_law_sides_here","_law_house"] wd)(MA:cP P w K mg base br 1 "_law_many" ["_law_sides_here"] Eg):be P w K mg base br 2 f fd ["_law_sides_here"] Lf:=by
 refine F.ok yJ (fun vs H Q E h=>?_) (fun cm A outer s H vs Q E hr h=>?_)
 .obtain⟨a,ns,rfl,_⟩:=h;rfl
 .obtain⟨a,ns,rfl,ha,BX,q⟩:=h;have l5:=BX.l5;have rE:=BX.rE;refine'⟨_,(ah (im (i:=1) (g:=(bp 0)) (tt:=CJ) (te:=(pz wd [] E0 (bQ (bU 1) (bQ (bU 0) eC)))) (NB:=["_law_house","_law_sides_here"]) (src:=[none,some 0]) (cS (by kernel_rfl)) rfl (ck rfl B.range (aa (aH MA hr aO (aa (pv 0) af)) af)) ?g1 ?t1 ?e1 yJ.nd rfl rfl rfl)
   (ah (aK (i:=2) yJ.nd rfl (Or.inl rfl) (bX af))
   (ah (cG d8 rfl (zE rfl IT (aa (pv 1) af)) (dO (n:=2) rfl (aU (aB (i:=3) yJ.nd rfl (Or.inl rfl)) (aU (aB (i:=4) yJ.nd rfl (Or.inl rfl)) cU)))
    (ak (cG d8 rfl (zE rfl IT (aa (pv 1) af)) (dO (n:=2) rfl (aU (aB (i:=5) yJ.nd rfl (Or.inl rfl)) (aU (aB (i:=6) yJ.nd rfl (Or.inl rfl)) cU)))
     (ak (bZ (a8 lg (av (qa rfl) (by rfl) Ho wV (aa ?c2 af)) az (bb _)) (ak (b_ (lr kQ kP kO cQ (pv 2) (aa (fV (aa (pv 3) (aa (pv 5) af))) af)))) aX)))))
   (ak (aN (pv 2)))))),?_⟩
  case g1=>exact fun cl C s₃ H₃ fp=>(aB (i:=0) ft rfl (Or.inl rfl) (Or.inr rfl))
  case t1=>exact fun cl C s₃ H₃ fp=>dR
  case e1=>exact fun cl C s₃ H₃ fp=>(aH PL hr aO (aa (pv 1) (aa (pv 0) af)))
  case c2=>
   refine' dC (g:=(qD K 2 (dN (bp 0) (dN (bp 1) qC)))) (te:=(E7 (fun xs H Q=>∃i,xs=[.int i]/\Q (.int (if i<0 then -i else i)) H) (bQ (qE (yX fun i j=>.int (i-j)) (bU 0) (bU 1)) eC))) (NB:=["_law_x","_law_y"]) (src:=[none,none]) (cS (by kernel_rfl)) rfl (oh (ka:=true) (kb:=true) rfl Hq (aa (pv 4) (aa (pv 6) af))) ?g ?t ?e;case g=>exact fun cl C s₃ H₃ fp=>(dO (n:=2) rfl (aU (aB (i:=0) mK rfl (Or.inl rfl) (Or.inr rfl)) (aU (aB (i:=1) mK rfl (Or.inl rfl) (Or.inr rfl)) cU)))
   case t=>exact fun cl C s₃ H₃ fp=>dR
   case e=>exact fun cl C s₃ H₃ fp=>(av pq (by rfl) Hr wW (aa (aR gC (pv 0) (pv 1)) af))
  refine⟨_,rfl,a,ns,rfl,ha,(fun x hx=>(BX.sd x hx).2),_,rfl,by lia,by lia,fun P1 O_=>?_⟩;refine wq ⟨_,rfl⟩ O_ ha BX (by simp) fun H1 as s1 W7 W8 _=>?_;refine⟨by show 0<=sizeLine;decide,fun D hD=>?_⟩;have Um:=ai (o:=.lst []) hD;have s2:=s1.trans Um;have W9:H D=none:=s1.free hD;have gD:(upd H1 D (.lst [])) D=some (.lst []):=ag;generalize upd H1 D (.lst [])=H2 at *;have gP:=Um _ _ W7;have hA:Holds H2 as (pr ns) (fun h=>.lst (NV (hU ns h))):=W8.mono fun j _ e=>Um _ _ e;have Uo:P1≠D:=am W7 hD;have Rf:∀j,j<pr ns->as.getD j 0≠D:=fun j hj=>am (W8.2 j hj) hD;have Pa:∀ {i j:Nat},j<=pr ns->i<=pr ns->∀zs:Zs,zp zs=yF ns (pr ns) i++qM ns i j->zs.length<=2000:=fun {i j} hj hi zs e=>by
   have l:=congrArg List.length e;rw[bD,cD] at l;have l1:=yK (ns:=ns) (m:=pr ns) (i:=i);have l2:=EA (ns:=ns) (i:=i) (j:=j);have:=oQ (aY hi rE) rE;lia
  refine⟨_,rfl,P1,_,rfl,gP,vE (K:=K) (a:=P1) (xs:=as.map V.ref) (fun i σ H3=>(∃x3 x4 x5 x6,σ=[some (.ref a),some (.ref P1),some (.ref D),x3,x4,x5,x6])/\aD D H2 H3/\iH H D (yF ns (pr ns) i) H3) ⟨⟨_,_,_,_,rfl⟩,aD.refl,s2,[],gD,PO.nil,rfl⟩ (fun i σ H3 _ z=>a_.of (z.2.1 _ _ gP Uo)) ?_ ?_⟩
  .rintro i x p σ H3 hx ⟨⟨x3,x4,x5,x6,rfl⟩,s3,P3⟩ hp;obtain⟨hi,rfl⟩:=z7 hx;rw[hA.1] at hi;refine⟨p,_,rfl,cI.of ag,rfl,_,_,rfl,_,_,rfl,rfl,?_⟩;have sp:=ai (o:=.tup [.int (i:Int),.ref (as.getD i 0)]) hp;have s4:=s3.trans (aD.of sp);have P4:iH H D (yF ns (pr ns) i) (upd H3 p (.tup [.int (i:Int),.ref (as.getD i 0)])):=by
    obtain⟨a1,zs,a2,a3,a4⟩:=P3;exact⟨a1.trans sp,zs,sp _ _ a2,a3.same sp,a4⟩
   generalize upd H3 p (.tup [.int (i:Int),.ref (as.getD i 0)])=H4 at *;refine⟨_,rfl,P1,_,rfl,s4 _ _ gP Uo,vE (K:=K) (a:=P1) (xs:=as.map V.ref) (fun j σ H5=>(∃x5 x6,σ=[some (.ref a),some (.ref P1),some (.ref D),some (.int (i:Int)),some (.ref (as.getD i 0)),x5,x6])/\aD D H2 H5/\iH H D (yF ns (pr ns) i++qM ns i j) H5) ⟨⟨_,_,rfl⟩,s4,by rw[show qM ns i 0=[] from rfl,fE];exact P4⟩ (fun j σ H5 _ z=>a_.of (z.2.1 _ _ gP Uo)) ?_ ?_⟩
   .rintro j y p5 σ H5 hy ⟨⟨Up,x6',rfl⟩,s5,P5⟩ TW;obtain⟨hj,rfl⟩:=z7 hy;rw[hA.1] at hj;refine⟨p5,_,rfl,cI.of ag,rfl,_,_,rfl,_,_,rfl,rfl,?_⟩;have W_:=ai (o:=.tup [.int (j:Int),.ref (as.getD j 0)]) TW;have s6:=s5.trans (aD.of W_);generalize upd H5 p5 (.tup [.int (j:Int),.ref (as.getD j 0)])=H6 at *;refine⟨_,rfl,_,rfl,as.getD i 0,as.getD j 0,_,_,rfl,a_.of (s6 _ _ (hA.2 i hi) (Rf i hi)),a_.of (s6 _ _ (hA.2 j hj) (Rf j hj)),by rw[aW,aW,bR,bR],fun D' QM=>?_⟩;refine uL l5 (s6 _ _ (hA.2 i hi) (Rf i hi)) (s6 _ _ (hA.2 j hj) (Rf j hj)) QM ⟨_,_,rfl⟩ fun H7 s7 d7=>⟨D',_,rfl,a_.of d7,?_⟩
    rw[Ae];have K6:=W_.trans s7;obtain⟨a1,zs,a2,a3,a4⟩:=P5;have b1:=a1.trans K6;have b2:=K6 _ _ a2;have b3:PO H7 zs:=a3.same K6;rw[Ew,<-iP];refine⟨rfl,_,rfl,mx (fun e=>?_) (fun e=>?_)⟩
    .have e:l1 ns i j=1:=by have:=dH e;injection this with z;lia
     rw[aq e];refine⟨_,rfl,.inl ⟨rfl,_,a_.of b2⟩,_,rfl,_,rfl,by show 2<=sizeLine;decide,fun t ht=>?_⟩;refine⟨D,_,_,rfl,rfl,ai ht _ _ b2,by rw[eH];exact du (Pa (iE hj) (iE hi) zs a4) (by decide),⟨_,_,rfl⟩,?_,iH.add (u:=((i:Int),(j:Int))) W9 b1 b2 b3 a4 ht⟩;exact fun b o eb nb=>by rw[ao nb];exact ai ht _ _ (s7 _ _ (s6 _ _ eb nb))
    .have e:¬ l1 ns i j=1:=fun z=>e (by rw[z];exact bJ rfl);rw[au e,fE];exact⟨⟨_,_,rfl⟩,s6.trans (aD.of s7),b1,zs,b2,b3,a4⟩
   .rintro σ H5 ⟨⟨Up,x6',rfl⟩,s5,P5⟩;rw[aZ,hA.1] at P5;exact⟨⟨_,_,_,_,rfl⟩,s5,P5⟩
  .rintro σ H3 ⟨⟨x3,x4,x5,x6,rfl⟩,s3,sm,zs,z1,z2,z3⟩;rw[aZ,hA.1] at z3;exact⟨_,rfl,q D zs H3 sm W9 z1 z2 z3⟩
end
end pV
namespace L2
open PySem PySem.Spec PyProof.Rows PySem.W
def Lg(K:PySem.W.Frag):List V->Hp->VK->Prop:=fun xs H Q=>∃ (l:Addr) (ns:List Int),xs=[.ref l]/\a_ K H l (ns.map V.int)/\ns.length<64/\∀ (D:Addr) (IL:List Int),H D=none->IL.Perm ns->IL.Pairwise (·<=·)->Q (.ref D) (upd H D (.lst (IL.map V.int)))
theorem yL{X:Cx}:eR X (.builtin "sorted") (Lg X.K):=by
 intro ae s σ H xs us Q I r h;obtain⟨l,ns,rfl,hl,ND,q⟩:=h;obtain⟨u1,rfl,r1⟩:=r.one;obtain rfl:u1=Value.ref l:=r1;obtain⟨its,rv,pl,_⟩:=I.list hl;have ia:=pC rv;refine sorted_ints pl.isList ia (by rw[ia.length];exact ND) fun out IL a1 a2 a3=>?_;obtain⟨⟨e,ho⟩,keep⟩:=vU (h:=s.heap) (vs:=its) (out:=out);have vT:s.heap.get? (s.heap.objs.size+1)=none:=rX (sR _);have eo:out=out.toList.toArray:=by simp
 refine⟨.ref (s.heap.objs.size+1),_,I.CM (t':=s.toks) (o:=.lst (IL.map V.int)) keep vT ⟨?_,out.toList,e,mv a1,by rw[ho]⟩,rfl,q _ IL (I.bq.mB vT) a2 a3⟩;rw[aZ,a2.length_eq];exact aY (iE ND) (by decide)
end L2
namespace pV
open PySem L2 iI
abbrev Rg:Stmt:=gK 56
theorem dA:(["_law_here","_law_there","_law_one","_law_places"]:List Str).Nodup:=by decide +kernel
theorem kJ:(["_law_step","_law_one","_law_places"]:List Str).Nodup:=by decide +kernel
theorem Uq(n:Int)(tl ol ds:Addr):(je n tl ol ds).lookup ("out":Str)=none:=jx n tl ol ds (by decide +kernel) (by decide +kernel) (by decide +kernel) (by decide +kernel)
theorem Pb(n:Int)(tl ol ds:Addr):(je n tl ol ds).lookup ("good":Str)=none:=jx n tl ol ds (by decide +kernel) (by decide +kernel) (by decide +kernel) (by decide +kernel)
theorem nvI(l:List Nat):NV l=(l.map fun (x:Nat)=>(x:Int)).map V.int:=by unfold NV;rw[eO];rfl
theorem qk{X:Cx}{H:Hp}{xs:List Nat}:∀i,i<(NV xs).length->i<(NV xs).length->Fg X H 0 ((NV xs).getD i .bV) ((NV xs).getD i .bV):=fun i h1 _=>by
 have h2:i<xs.length:=by rwa [aW] at h1
 rw[dY,wm h2];exact lH
theorem EB{ns:List Nat}{m a:Nat}:∀ {i:Nat},(yF ns m i).filter (fun u=>decide (u.1=(a:Int)))=if a<i then qM ns a m else []
 |0=>rfl
 |i+1=>by
  show (yF ns m i++qM ns i m).filter _=_;rw[iO,EB];have all:∀u∈qM ns i m,u.1=(i:Int):=fun u hu=>by
   obtain⟨b,_,_,rfl⟩:=yG.mp hu;rfl
  by_cases c:a=i
  .subst c;rw[au (f_ _),aq (gR _),List.nil_append,List.filter_eq_self.mpr fun u hu=>bJ (all u hu)]
  .have e:(qM ns i m).filter (fun u=>decide (u.1=(a:Int)))=[]:=List.filter_eq_nil_iff.mpr fun u hu z=>by
    have z:=dH z;rw[all u hu] at z;exact c (iD z).symm
   rw[e,fE];by_cases d:a<i
   .rw[aq d,aq (cr d)]
   .rw[au d,au (by lia)]
theorem Hs{ns:List Nat}{i j:Nat}(BX:Bx ns)(FI:iJ (pr ns) (uY ns))(hi:i<pr ns)(hj:j<pr ns):DS (pr ns) (uY ns) i j=(c_ (pr ns) (uY ns) i).filter fun o=>decide (l1 ns o j<l1 ns i j):=by
 unfold DS;refine List.filter_congr fun o ho=>?_;rw[uG BX FI (lE FI hi ho) hj,uG BX FI hi hj]
section
variable {P:Program} {w:World} {K:PySem.W.Frag} {mg:Str->Option Value} {base:Heap}
theorem ql:aE ["_law_pot_here","_law_sides_here","_law_net","_law_ties_here","_law_places","_law_turn","_law_one","_law_other","_law_far","_law_steps","_law_outs","_law_good","_law_there"] ["_law_pot_here","_law_sides_here","_law_net"] (aj Rg):=⟨rfl,rfl,rfl,by decide +kernel,rfl,by decide +kernel,by decide +kernel⟩
def Lh(C:Addr):Sp:=fun vs H Q _=>∃ (L:Addr->Prop) (p a pn:Addr) (ns:List Nat),vs=[.ref p,.ref a,.ref pn]/\bL H p/\H a=some (.tup (NV ns))/\Bx ns/\dL C H L pn (pr ns) (uY ns)/\¬ L p/\∀H',aD p H H'->bL H' p->Q (.bl true) H'
theorem Pc{f C CE:Addr}{fd:FuncData}(F:eJ K "_law_net_right" "_law_net_right" Rg f fd)(B:Bl mg)(T:NT K mg C)(Ho:mg "sum"=none)(Hq:mg "zip"=none)(Hr:mg "abs"=none)(PL:cP P w K mg base br 1 "_law_place" ["_law_sides_here","_law_house"] wd)(MA:cP P w K mg base br 1 "_law_many" ["_law_sides_here"] Eg)(TI:cP P w K mg base br 2 "_law_ties" ["_law_sides_here"] Lf)(DR:cP P w K mg base br 1 "_law_draw" ["_law_pot_here","_law_many_here"] wc)(MO:eX P w K mg base (dZ P w) 5 C "out" ["self","house"] (DJ K C CE Kg))(MF:eX P w K mg base (dZ P w) 5 C "far" ["self","one","other"] (z0 K C CE))(MG:eX P w K mg base (dZ P w) 6 C "good" ["self","house","home"] (yu K C CE))(MT:eX P w K mg base br 1 C "ties" ["self"] (yw C)):
  be P w K mg base br 7 f fd ["_law_pot_here","_law_sides_here","_law_net"] (Lh C):=by
 obtain⟨fO,fdO,mO,bO,GO⟩:=MO.ex;obtain⟨fF,fdF,mF,bF,GF⟩:=MF.ex;obtain⟨fG,fdG,mG,bG,GG⟩:=MG.ex;obtain⟨fT,fdT,mT,bT,GT⟩:=MT.ex;refine F.ok ql (fun vs H Q E h=>?_) (fun cm A outer s H vs Q E hr h=>?_)
 .obtain⟨L,p,a,pn,ns,rfl,_⟩:=h;rfl
 .obtain⟨L,p,a,pn,ns,rfl,hp,ha,BX,N,uM,q⟩:=h;have l5:=BX.l5;have rE:=BX.rE;have h1:bK 1 _:=hr.mono (by decide);have h2:bK 2 _:=hr.mono (by decide);have h5:bK 5 _:=hr.mono (by decide);have O1:(A.deeper (PyProof.Rows.envOfC "_law_net_right" (aj Rg) s.heap.objs.size f cm)).units+(1+1)<cLine:=by have:=hr.un;lia
  refine'⟨_,(ah (aK (i:=3) ql.nd rfl (Or.inl rfl) (aH TI h2 aO (aa (pv 1) af)))
   (ah (aK (i:=4) ql.nd rfl (Or.inr rfl) ?c1)
   (ah (cG d8 rfl (ck rfl B.range (aa az af)) (aB (i:=5) ql.nd rfl (Or.inl rfl))
    (ah (mh (fV (aa (aH DR h1 aO (aa (pv 0) (aa (av aS (by rfl) B.len d9 (aa (pv 4) af)) af))) (aa (aH DR h1 aO (aa (pv 0) (aa (av aS (by rfl) B.len d9 (aa (pv 4) af)) af))) af))) (dO (n:=2) rfl (aU (aB (i:=6) ql.nd rfl (Or.inr rfl)) (aU (aB (i:=7) ql.nd rfl (Or.inl rfl)) cU))))
    (ah (aK (i:=8) ql.nd rfl (Or.inl rfl) (av (qa rfl) (by rfl) Ho wV (aa ?c2 af)))
    (ah (aK (i:=9) ql.nd rfl (Or.inl rfl) (av yL (by rfl) B.sorted wJ (aa ?c3 af)))
    (ah (im (i:=10) (g:=(bp 0)) (tt:=CJ) (te:=(qE (rI (fun _ j=>0<j) fun i j=>.int (i % j)) (qE (yX fun i j=>.int (i+j)) (bU 1) (bU 0)) (E7 (fun xs H Q=>∃p ys,xs=[V.ref p]/\(a_ K H p ys\/cI K H p ys)/\Q (.int ys.length) H) (bQ (bU 2) eC)))) (NB:=["_law_step","_law_one","_law_places"]) (src:=[none,some 6,some 4]) (cS (by kernel_rfl)) rfl (dh (pv 9)) ?g4 ?t4 ?e4 ql.nd rfl rfl rfl)
    (ah (bZ (PW.pt (va (a8 (og (d:=0) hr.u) (dQ (pv 2) T.cl mO GO h5 bO .nil jT (aa (pv 6) af)) (pv 10) (bb _)) (pc (a8 pj (dQ (pv 2) T.cl mF GF h5 bF .nil jT (aa (pv 6) (aa (pv 7) af))) (pv 8) (bb _))))) (ak (aN gg)) aX)
    (ah (aK (i:=11) ql.nd rfl (Or.inl rfl) (bX af))
    (ah (cG d8 rfl (dh (pv 10)) (aB (i:=12) ql.nd rfl (Or.inl rfl))
     (ak (bZ (a8 vd (av (qa rfl) (by rfl) Ho wV (aa ?c5 af)) (pv 8) (bb _)) (ak (b_ (lr kQ kP kO cQ (pv 11) (aa (pv 12) af)))) aX)))
    (ak (bZ (a8 (og (d:=0) hr.u) (dQ (pv 2) T.cl mG GG hr bG .nil jT (aa (pv 6) (aa (pv 7) af))) (pv 11) (bb _)) (ak (aN gg)) aX))))))))))
   (ak (aN (lh (Ad (d:=1) O1) (i7 (pv 2) T.cl mT GT h1 bT .nil aO) (pv 3) (bb _))))))),?_⟩
  case c1=>
   refine' dC (g:=(bp 0)) (te:=(pz wd [] E0 (bQ (bU 1) (bQ (bU 0) eC)))) (NB:=["_law_house","_law_sides_here"]) (src:=[none,some 1]) (cS (by kernel_rfl)) rfl (ck rfl B.range (aa (aH MA h1 aO (aa (pv 1) af)) af)) ?g ?t ?e;case g=>exact fun cl C s₃ H₃ fp=>(aB (i:=0) ft rfl (Or.inl rfl) (Or.inr rfl))
   case t=>exact fun cl C s₃ H₃ fp=>dR
   case e=>exact fun cl C s₃ H₃ fp=>(aH PL h1 aO (aa (pv 1) (aa (pv 0) af)))
  case c2=>
   refine' dC (g:=(qD K 2 (dN (bp 0) (dN (bp 1) qC)))) (te:=(E7 (fun xs H Q=>∃i,xs=[.int i]/\Q (.int (if i<0 then -i else i)) H) (bQ (qE (yX fun i j=>.int (i-j)) (bU 0) (bU 1)) eC))) (NB:=["_law_x","_law_y"]) (src:=[none,none]) (cS (by kernel_rfl)) rfl (oh (ka:=true) (kb:=true) rfl Hq (aa (cy bj (pv 4) (pv 6) (fun _ _=>rfl)) (aa (cy bj (pv 4) (pv 7) (fun _ _=>rfl)) af))) ?g ?t ?e;case g=>exact fun cl C s₃ H₃ fp=>(dO (n:=2) rfl (aU (aB (i:=0) mK rfl (Or.inl rfl) (Or.inr rfl)) (aU (aB (i:=1) mK rfl (Or.inl rfl) (Or.inr rfl)) cU)))
   case t=>exact fun cl C s₃ H₃ fp=>dR
   case e=>exact fun cl C s₃ H₃ fp=>(av pq (by rfl) Hr wW (aa (aR gC (pv 0) (pv 1)) af))
  case c3=>
   refine' dC (g:=(qD K 2 (dN (bp 0) (dN (bp 1) qC)))) (tt:=(y4 (qE (RP) (bU 0) (bU 2)))) (te:=(qE (rI (fun _ j=>0<j) fun i j=>.int (i % j)) (qE (yX fun i j=>.int (i-j)) (bU 1) (bU 2)) (E7 (fun xs H Q=>∃p ys,xs=[V.ref p]/\(a_ K H p ys\/cI K H p ys)/\Q (.int ys.length) H) (bQ (bU 3) eC)))) (NB:=["_law_here","_law_there","_law_one","_law_places"]) (src:=[none,none,some 6,some 4]) (cS (by kernel_rfl)) rfl (dh (pv 3)) ?g ?t ?e;case g=>exact fun cl C s₃ H₃ fp=>(dO (n:=2) rfl (aU (aB (i:=0) dA rfl (Or.inl rfl) (Or.inr rfl)) (aU (aB (i:=1) dA rfl (Or.inl rfl) (Or.inr rfl)) cU)))
   case t=>exact fun cl C s₃ H₃ fp=>jv (a8 lg (pv 0) (pv 2) (bb _))
   case e=>exact fun cl C s₃ H₃ fp=>(aR gG (aR gC (pv 1) (pv 2)) (av aS (by rfl) B.len d9 (aa (pv 3) af)))
  case g4=>exact fun cl C s₃ H₃ fp=>(aB (i:=0) kJ rfl (Or.inl rfl) (Or.inr rfl))
  case t4=>exact fun cl C s₃ H₃ fp=>dR
  case e4=>exact fun cl C s₃ H₃ fp=>(aR gG (aR dP (pv 1) (pv 0)) (av aS (by rfl) B.len d9 (aa (pv 2) af)))
  case c5=>
   refine' dC (g:=(qD K 2 (dN (bp 0) (dN (bp 1) qC)))) (te:=(E7 (fun xs H Q=>∃i,xs=[.int i]/\Q (.int (if i<0 then -i else i)) H) (bQ (qE (yX fun i j=>.int (i-j)) (bU 0) (bU 1)) eC))) (NB:=["_law_x","_law_y"]) (src:=[none,none]) (cS (by kernel_rfl)) rfl (oh (ka:=true) (kb:=true) rfl Hq (aa (cy bj (pv 4) (pv 12) (fun _ _=>rfl)) (aa (cy bj (pv 4) (pv 7) (fun _ _=>rfl)) af))) ?g ?t ?e;case g=>exact fun cl C s₃ H₃ fp=>(dO (n:=2) rfl (aU (aB (i:=0) mK rfl (Or.inl rfl) (Or.inr rfl)) (aU (aB (i:=1) mK rfl (Or.inl rfl) (Or.inr rfl)) cU)))
   case t=>exact fun cl C s₃ H₃ fp=>dR
   case e=>exact fun cl C s₃ H₃ fp=>(av pq (by rfl) Hr wW (aa (aR gC (pv 0) (pv 1)) af))
  have FI:=N.qK;have m0:0<pr ns:=Ec BX.pos;refine⟨_,rfl,a,ns,rfl,ha,BX,fun T1 zs H1 s1 Xa Xb Xc ez=>?_⟩;refine⟨_,rfl,a,ns,rfl,s1 _ _ ha,(fun x hx=>(BX.sd x hx).2),_,rfl,by lia,by lia,fun P1 O_=>?_⟩;refine wq ⟨_,rfl⟩ O_ (s1 _ _ ha) BX (by simp) fun H2 as s2 Mm Mn fr=>?_;have ur:=s1.trans s2;have p2:=hp.same ur;have N2:=N.same ur;obtain⟨IJ,tl,ol,ds,Pd,_⟩:=id N2.ob;have IM:pn≠p:=by
   rintro rfl;obtain⟨u,v,e,_⟩:=p2;rw[Pd] at e;cases e
  have Xd:T1≠p:=hp.ne Xa;have Mo:P1≠p:=(hp.same s1).ne O_;have Ur:∀j,j<pr ns->as.getD j 0≠p:=fun j hj=>(hp.same s1).ne (fr _ (by
   rw[dY,cV (by rw[Mn.1];exact hj)];exact eM _))
  have WR:=hp.neT ha;have Ug:=ur _ _ ha;have Xe:=s2 _ _ Xb;have IE:PO H2 zs:=Xc.same s2;have zl:zs.length<=2000:=by
   have l:=congrArg List.length ez;rw[bD] at l;have:=yK (ns:=ns) (m:=pr ns) (i:=pr ns);have:=oQ rE rE;lia
  clear s2 Xb Xc O_ fr Xa;have kN:∀ {H'},aD p H2 H'->dL C H' L pn (pr ns) (uY ns):=fun s=>N2.keep (fun b o l e=>s b o e (fun z=>uM (z ▸ l))) (fun o e=>s _ _ e IM);have kR:∀ {H'},aD p H2 H'->∀j,j<pr ns->H' (as.getD j 0)=some (.lst (NV (hU ns j))):=fun s j hj=>s _ _ (Mn.2 j hj) (Ur j hj);have kA:∀j,j<pr ns->(as.map V.ref)[j]?=some (.ref (as.getD j 0)):=fun j hj=>by
   rw[bi,dY,cV (by rw[Mn.1];exact hj)];rfl
  have al:(as.map V.ref).length=pr ns:=by rw[aZ,Mn.1]
  refine⟨6,rfl,by decide,by decide,eA (n:=6) (lo:=0) (fun k σ H3=>(∃x5 x6 x7 x8 x9 Us Ut Pe,σ=[some (.ref p),some (.ref a),some (.ref pn),some (.ref T1),some (.ref P1),x5,x6,x7,x8,x9,Us,Ut,Pe])/\aD p H2 H3/\bL H3 p) ⟨⟨_,_,_,_,_,_,_,_,rfl⟩,aD.refl,p2⟩ ?_ ?_⟩
  rotate_left
  .rintro σ H3 ⟨⟨x5,x6,x7,x8,x9,Us,Ut,Pe,rfl⟩,s3,p3⟩;refine⟨_,rfl,pn,IJ,_,rfl,s3 _ _ Pd IM,O8 _ _ _ _,L,pn,_,_,rfl,kN s3,fun r4 Os H4 s4 nr4 gr4 QW pm4 or4=>?_⟩;have e4:zp Os=zp zs:=by
    rw[ez];refine Ev FI pm4 (Le BX FI) or4 ((yI rE).imp fun {u v} h=>Int.le_of_lt h)
   have zl4:(zr Os).length=(zr zs).length:=by rw[eH,eH,<-bD,e4,bD]
   have Ku:PO H3 zs:=fun z hz=>s3 _ _ (IE z hz) (p2.neT (IE z hz));refine⟨_,rfl,r4,T1,_,_,rfl,rfl,a_.of gr4,a_.of (s4 _ _ (s3 _ _ Xe Xd)),zl4,fun j hj _=>Lc (QW.same s4) (Ku.same s4) e4 hj,?_⟩;exact q H4 ((aD.of ur).trans (s3.trans (aD.of s4))) (p3.same s4)
  rintro k σ H3 hk ⟨⟨x5,x6,x7,x8,x9,Us,Ut,Pe,rfl⟩,s3,p3⟩;have Xf:=s3 _ _ Mm Mo;refine⟨_,rfl,_,rfl,P1,_,rfl,.inl (a_.of Xf),p,pr ns,by rw[al];rfl,m0,du rE (by decide),p3,fun one H4 yM s4 p4=>?_⟩;have Uu:=s3.trans s4;refine⟨_,rfl,_,rfl,P1,_,rfl,.inl (a_.of (Uu _ _ Mm Mo)),p,pr ns,by rw[al];rfl,m0,du rE (by decide),p4,fun wA H5 Fj s5 p5=>⟨by show 2<=sizeLine;decide,fun t ht=>⟨t,_,rfl,cI.of ag,rfl,_,_,rfl,_,_,rfl,rfl,?_⟩⟩⟩;have st:=ai (o:=.tup [.int (one:Int),.int (wA:Int)]) ht;have s6:=(Uu.trans s5).trans (aD.of st);have p6:=p5.same st;generalize upd H5 t (.tup [.int (one:Int),.int (wA:Int)])=H6 at *;clear s3 s4 Uu s5 p3 p4 p5 st ht Xf;have Uv:=s6 _ _ Mm Mo;refine⟨_,rfl,_,rfl,P1,_,_,_,rfl,rfl,a_.of Uv,bf (kA one yM),_,rfl,_,rfl,P1,_,_,_,rfl,rfl,a_.of Uv,bf (kA wA Fj),?_⟩;refine⟨_,_,_,_,rfl,a_.of (kR s6 one yM),a_.of (kR s6 wA Fj),by rw[aW,aW,bR,bR],fun D hD=>?_⟩;refine uL l5 (kR s6 one yM) (kR s6 wA Fj) hD ⟨_,_,rfl⟩ fun H7 Li d7=>⟨D,_,rfl,a_.of d7,?_⟩
  rw[Ae];have s7:=s6.trans (aD.of Li);have p7:=p6.same Li;clear s6 p6 Li d7 hD Uv;have Uw:=s7 _ _ Xe Xd;have Xg:=s7 _ _ Mm Mo;have Xh:PO H7 zs:=fun z hz=>s7 _ _ (IE z hz) (p2.neT (IE z hz));refine⟨_,rfl,T1,rfl,⟨_,a_.of Uw⟩,fun D3 yr=>?_⟩;refine eE (K:=K) (xs:=zr zs) (fun i ys σ H=>(∃u v,σ=[u,v,some (.int (one:Int)),some (.ref P1)])/\aV H7 H/\H D3=some (.lst ys)/\ys=((((zp zs).take i).filter fun u=>decide (u.1=(one:Int))).map fun u=>(u.2-(one:Int)) % (pr ns:Int)).map V.int) ⟨⟨_,_,rfl⟩,ai yr,ag,rfl⟩ (fun i ys σ H _ z=>a_.of (z.2.1 _ _ Uw)) ?_ ?_
  .rintro i x ys σ H Kt Kf hx ⟨⟨u,v,rfl⟩,sm,d3,rfl⟩ kt kf;obtain⟨z,hz,rfl⟩:=pW hx;have hi:i<zs.length:=(cL.mp hz).1;have hz3:=sm _ _ (Xh z (cT hz));have e2:(zp zs)[i]?=some z.2:=by unfold zp;rw[bi,hz];rfl
   have tk:(zp zs).take (i+1)=(zp zs).take i++[z.2]:=by rw[eL,e2];rfl
   rw[tk,iO] at kt kf;refine⟨_,_,rfl,cI.of hz3,rfl,_,_,rfl,_,_,rfl,rfl,?_⟩;refine⟨_,rfl,_,rfl,rfl,_,rfl,mx (fun e=>?_) (fun e=>?_)⟩
   .have e:z.2.1=(one:Int):=by have:=dH e;injection this
    rw[eN,aq (bJ e)] at kt;refine⟨_,rfl,_,rfl,_,_,rfl,rfl,_,rfl,P1,_,rfl,.inl (a_.of (sm _ _ Xg)),_,_,rfl,rfl,by rw[al];lia,kt _ _ _ d3 ?_ ⟨⟨_,_,rfl⟩,cH sm yr,ag,?_⟩⟩
    .rw[aZ,aZ];exact du (aY (iN _ _) (wX _ _)) (by rw[bD];exact du zl (by decide))
    .rw[al,dI,dI];rfl
   .have e:¬ z.2.1=(one:Int):=fun y=>e (by rw[y];exact bJ rfl);rw[eN,au (by simpa using e),oP,fE] at kf;exact kf _ _ ⟨⟨_,_,rfl⟩,sm,d3,rfl⟩
  rintro ys σ H8 ⟨_,O2,d3,rfl⟩;rw[eH,<-bD,fz,ez,EB,aq yM] at d3;have eb:(qM ns one (pr ns)).map (fun u=>(u.2-(one:Int)) % (pr ns:Int))=((List.range (pr ns)).filter fun b=>decide (l1 ns one b=1)).map (key (pr ns) one):=by
   unfold qM;rw[eO];rfl
  rw[eb] at d3;have Qy:∀b,b∈(List.range (pr ns)).filter (fun b=>decide (l1 ns one b=1))↔iI.T (uY ns) one b:=fun b=>by
   rw[fk,dv,w9];constructor
   .rintro⟨hb,e⟩;exact(jD BX.pos yM hb).mpr ((uK BX yM hb).mp e)
   .intro tt;have hb:=(FI.QJ tt).2.1;exact⟨hb,(uK BX yM hb).mpr ((jD BX.pos yM hb).mp tt)⟩
  refine⟨D3,_,rfl,a_.of d3,?_,fun D4 S Xi pm so=>?_⟩
  .rw[aZ];exact du (iN _ _) (by rw[kX];lia)
  have eo:=Bs FI yM (List.Nodup.sublist rV si) Qy pm so;have Sl:S.length<=32:=by
   rw[pm.length_eq,aZ];exact aY (iN _ _) (by rw[kX];exact rE)
  have Xj:=ai (o:=.lst (S.map V.int)) Xi;have g4:(upd H8 D4 (.lst (S.map V.int))) D4=some (.lst (S.map V.int)):=ag;generalize upd H8 D4 (.lst (S.map V.int))=H9 at *;have Ux:=O2.trans Xj;have s9:=s7.trans (aD.of Ux);have p9:=p7.same Ux;clear Qy eb d3 O2 Xj Ux Xi pm so yr Xh Uw Xg s7 p7;have Xk:=s9 _ _ Mm Mo;refine⟨_,rfl,D4,rfl,⟨_,a_.of g4⟩,fun D5 Uy=>?_⟩;refine eE (K:=K) (xs:=S.map V.int) (fun i ys σ H=>(∃u,σ=[u,some (.int (one:Int)),some (.ref P1)])/\aV H9 H/\H D5=some (.lst ys)/\ys=((S.take i).map fun s=>((one:Int)+s) % (pr ns:Int)).map V.int) ⟨⟨_,rfl⟩,ai Uy,ag,rfl⟩ (fun i ys σ H _ z=>a_.of (z.2.1 _ _ g4)) ?_ ?_
  .rintro i x ys σ H Kt Kf hx ⟨⟨u,rfl⟩,sm,d5,rfl⟩ kt kf;rw[bi] at hx;cases hs:S[i]? with
   |none=>rw[hs] at hx;cases hx
   |some s0=>
    rw[hs] at hx;cases hx;refine⟨_,rfl,_,rfl,_,_,rfl,rfl,_,rfl,P1,_,rfl,.inl (a_.of (sm _ _ Xk)),_,_,rfl,rfl,by rw[al];lia,kt _ _ _ d5 ?_ ⟨⟨_,rfl⟩,cH sm Uy,ag,?_⟩⟩
    .rw[aZ,aZ];exact du (aY (wX _ _) Sl) (by decide)
    .rw[al,eL,hs,dI,dI];rfl
  rintro ys σ K7 ⟨_,Lj,d5,rfl⟩;rw[aZ,fz,eo,<-nvI] at d5;have uJ:=s9.trans (aD.of Lj);have Mj:=p9.same Lj;clear eo Sl g4 Xk s9 p9 Lj Uy;refine⟨_,rfl,pn,IJ,_,rfl,uJ _ _ Pd IM,Uq _ _ _ _,_,rfl,L,pn,pr ns,_,_,_,rfl,kN uJ,.int _,(fun z=>by rw[cR yM] at z;cases z),fun i hi e r1 Rh IU nr gr=>?_⟩;cases e;have gr:Rh r1=some (.lst (NV (c_ (pr ns) (uY ns) one))):=gr;refine⟨_,rfl,r1,D5,_,_,rfl,rfl,a_.of gr,a_.of (IU _ _ d5),rfl,qk,_,rfl,eY rfl ?_⟩;have sa:=uJ.trans (aD.of IU);refine⟨_,rfl,pn,IJ,_,rfl,sa _ _ Pd IM,N_ _ _ _ _,_,rfl,_,rfl,L,pn,pr ns,_,_,_,_,_,rfl,kN sa,.int _,.int _,(fun z=>by rw[cR yM,cR Fj] at z;rcases z with z|z <;> cases z),fun i j2 hi hj2 e1 e2=>?_⟩;cases e1;cases e2;rw[uG BX FI yM Fj];refine⟨_,rfl,rfl,_,rfl,eY (by show (!decide (V.int _=V.int _))=false;rw[bJ rfl];rfl) ?_⟩;have Pf:=Mj.same IU;have Uz:=IU _ _ d5;clear d5 uJ Mj IU gr nr;refine⟨by show 0<=sizeLine;decide,fun D6 uW=>?_⟩;have Ri:=ai (o:=.lst []) uW;have g6:(upd Rh D6 (.lst [])) D6=some (.lst []):=ag;have sb:=sa.trans (aD.of Ri);have pb:=Pf.same Ri;have d56:D5≠D6:=am Uz uW;have n6p:D6≠p:=Pf.ne uW;have Xl:∀b o,H2 b=some o->b≠p->b≠D6:=fun b o e n=>am (sa _ _ e n) uW;have Xm:=Ri _ _ Uz;generalize upd Rh D6 (.lst [])=Hb at *;clear Uz Ri sa Pf uW;have UA:(c_ (pr ns) (uY ns) one).length<=32:=aY (aY (iN _ _) (by rw[aZ,kX];exact a9 _)) rE;have glt:∀x∈c_ (pr ns) (uY ns) one,x<pr ns:=fun x hx=>lE FI yM hx;have eg:=Hs BX FI yM Fj;generalize c_ (pr ns) (uY ns) one=xs at *;refine⟨_,rfl,D5,rfl,⟨_,a_.of Xm⟩,lf (K:=K) (xs:=NV xs) (fun i σ H=>(∃x5 Pe,σ=[some (.ref p),some (.ref a),some (.ref pn),some (.ref T1),some (.ref P1),x5,some (.int (one:Int)),some (.int (wA:Int)),some (.int ((l1 ns one wA:Nat):Int)),some (.ref D4),some (.ref D5),some (.ref D6),Pe])/\aD D6 Hb H/\H D6=some (.lst (NV ((xs.take i).filter fun o=>decide (l1 ns o wA<l1 ns one wA))))) ⟨⟨_,_,rfl⟩,aD.refl,g6⟩ (fun i σ H _ z=>a_.of (z.2.1 _ _ Xm d56)) ?_ ?_⟩
  .rintro i x σ H hx ⟨⟨Up,UB,rfl⟩,sm,g⟩;obtain⟨y,hy,rfl⟩:=iG hx;have UC:=glt y (cT hy);have sH:∀b o,H2 b=some o->b≠p->H b=some o:=fun b o e n=>sm _ _ (sb _ _ e n) (Xl b o e n);have K5:=sH _ _ (Mn.2 y UC) (Ur y UC);have Xn:=sH _ _ (Mn.2 wA Fj) (Ur wA Fj);have Xo:=sH _ _ Mm Mo;have tk:xs.take (i+1)=xs.take i++[y]:=by rw[eL,hy];rfl
   rw[tk,iO];refine⟨_,rfl,_,rfl,P1,_,_,_,rfl,rfl,a_.of Xo,bf (kA y UC),_,rfl,_,rfl,P1,_,_,_,rfl,rfl,a_.of Xo,bf (kA wA Fj),?_⟩;refine⟨_,_,_,_,rfl,a_.of K5,a_.of Xn,by rw[aW,aW,bR,bR],fun D hD=>?_⟩;refine uL l5 K5 Xn hD ⟨_,_,rfl⟩ fun H7 Li d7=>⟨D,_,rfl,a_.of d7,?_⟩
   rw[Ae];have g':=Li _ _ g;refine⟨_,rfl,_,_,rfl,rfl,_,rfl,mx (fun e=>?_) (fun e=>?_)⟩
   .have e:l1 ns y wA<l1 ns one wA:=by have:=dH e;lia
    rw[eN,aq (bJ e),oP,<-iy];refine⟨_,rfl,.inl ⟨rfl,_,a_.of g'⟩,_,rfl,D6,_,_,rfl,rfl,g',?_,⟨_,_,rfl⟩,fun b o eb nb=>by rw[ao nb];exact Li _ _ (sm _ _ eb nb),ag⟩;rw[aW];exact du (aY (iN _ _) (aY (wX _ _) UA)) (by decide)
   .have e:¬ l1 ns y wA<l1 ns one wA:=fun z=>e (bJ (by lia));rw[eN,au (by simpa using e),oP,fE];exact⟨⟨_,_,rfl⟩,sm.trans (aD.of Li),g'⟩
  .rintro σ H ⟨⟨Up,UB,rfl⟩,sm,g⟩;rw[aW,fz,<-eg] at g;have sH:aD p H2 H:=fun b o e n=>sm _ _ (sb _ _ e n) (Xl b o e n);have pH:bL H p:=by
    obtain⟨u,v,e,r⟩:=pb;exact⟨u,v,sm _ _ e n6p.symm,r⟩
   refine⟨_,rfl,pn,IJ,_,rfl,sH _ _ Pd IM,Pb _ _ _ _,_,rfl,_,rfl,L,pn,pr ns,_,_,_,_,_,rfl,kN sH,.int _,.int _,(fun z=>by rw[cR yM,cR Fj] at z;rcases z with z|z <;> cases z),fun i j2 hi hj2 e1 e2 r2 H12 Lk nr gr=>?_⟩;cases e1;cases e2;refine⟨_,rfl,r2,D6,_,_,rfl,rfl,a_.of gr,a_.of (Lk _ _ g),rfl,qk,_,rfl,eY rfl ?_⟩;exact⟨⟨_,_,_,_,_,_,_,_,rfl⟩,sH.trans (aD.of Lk),pH.same Lk⟩
end
abbrev yN:Stmt:=gK 57
theorem EC{pn sr:Addr}:(Eb pn sr).lookup ("sides":Str)=none:=uB (by decide +kernel) (by decide +kernel)
theorem ED{pn sr:Addr}:(Eb pn sr).lookup ("net":Str)=none:=uB (by decide +kernel) (by decide +kernel)
theorem Ll{ns:List Nat}(B:Bx ns):2<=pr ns:=by
 have h1:=B.l1;have hs:=B.sd;have hp:=B.pos;cases ns with
 |nil=>exact absurd h1 (by decide)
 |cons n l=>
  have a:=(hs n ci).1;have b:=Ec (ns:=l) fun x hx=>hp x (b8 _ hx);show 2<=n*pr l;exact aY (show 2<=n*1 by lia) (mU n b)
theorem _root_.L2.rh.kE{lp:Pos}{q:Str}{p Pt:Addr}{H H':Hp}(t:rh lp q Pt H)(s:aD p H H')(hp:bL H p):rh lp q Pt H':=by
 obtain⟨a,b,e,_⟩:=hp;rcases t with z|⟨c,z,y⟩
 .exact .inl (s _ _ z (by rintro rfl;rw[z] at e;cases e))
 .exact .inr ⟨c,s _ _ z (by rintro rfl;rw[z] at e;cases e),s _ _ y (by rintro rfl;rw[y] at e;cases e)⟩
theorem hJ.Rj{C CB b Pt:Addr}{H H':Hp}{L:Addr->Prop}{ns:List Nat}(h:hJ C CB H L b ns)(t:iL Pt H)(nl:¬ L Pt)(s:ni Pt H H'):hJ C CB H' L b ns:=by
 obtain⟨dx,pn,sr,a,c,d⟩:=h.ob;obtain⟨_,_,_,_,g,_⟩:=c.ob;have k:∀a o,H a=some o->(L a\/(∀ps,o≠.nQ ps))->H' a=some o:=fun a o e z=>s a o e (z.elim (fun l x=>nl (x ▸ l)) fun z=>t.not e z);exact⟨h.bx,dx,pn,sr,k _ _ a (.inr fun _ z=>(nomatch z)),c.keep (fun q o l e=>k _ _ e (.inl l)) (fun o e=>k _ _ e (.inr (by rw[g] at e;injection e with e;subst e;exact fun _ z=>(nomatch z)))),k _ _ d (.inr fun _ z=>(nomatch z))⟩
theorem Pg{X:Cx}{H:Hp}:∀i,i<([V.int (4:Nat),.bl true]:List V).length->i<([V.int 4,.bl true]:List V).length->Fg X H 0 (([V.int (4:Nat),.bl true]:List V).getD i .bV) (([V.int 4,.bl true]:List V).getD i .bV):=fun i h1 _=>by
 match i,h1 with
 |0,_=>exact lH
 |1,_=>exact Es
 |i+2,h=>exact absurd h (by simp)
theorem EE{ns:List Nat}{h:Nat}(BX:Bx ns):Aa ns (sI (hU ns h))=true:=by
 unfold Aa sI;rw[aZ,bR,bJ rfl,sJ];refine iQ.mpr fun i hi=>?_;have hi:=dv.mp hi;rw[dY,bi,cV (by rw[bR];exact hi)];have:=D1 (h:=h) BX.pos hi;rw[dY,cV (by rw[bR];exact hi)] at this;exact cR this
theorem IW{ds:List Nat}:(sI ds).map nI=ds:=by
 unfold sI;rw[eO];conv=>rhs;rw[<-ic ds]
 exact kT fun d _=>rfl
theorem IX{K:PySem.W.Frag}{H:Hp}{ds:List Nat}:∀ (i:Nat) y o,(NV ds)[i]?=some y->(sI ds)[i]?=some o->Q6 K H y o:=fun i y o hy ho H' _=>by
 obtain⟨n,hn,rfl⟩:=iG hy;unfold sI at ho;rw[bi,hn] at ho;cases ho;exact .int _
section
variable {P:Program} {w:World} {K:PySem.W.Frag} {mg:Str->Option Value} {base:Heap}
def BK(K:PySem.W.Frag)(H:Hp)(a:Addr)(xs:List V):Prop:=(∃o,H a=some (.qR o (.lst xs)))\/(∀H':Hp,a_ K H' a xs)
theorem BK.seq{H:Hp}{a:Addr}{xs:List V}(h:BK K H a xs):a_ K H a xs:=by
 rcases h with ⟨o,h⟩|h
 .exact .inl (.inr ⟨o,h⟩)
 .exact h H
theorem BK.mono{H H':Hp}{a:Addr}{xs:List V}(h:BK K H a xs)(e:∀o u,H a=some (.qR o u)->H' a=some (.qR o u)):BK K H' a xs:=by
 rcases h with ⟨o,h⟩|h
 .exact .inl ⟨o,e _ _ h⟩
 .exact .inr h
theorem BK.b9{H H':Hp}{a p:Addr}{xs:List V}(h:BK K H a xs)(s:aD p H H')(hp:bL H p):BK K H' a xs:=by
 obtain⟨x,y,e,_⟩:=hp;exact h.mono fun o u z=>s _ _ z (by rintro rfl;rw[z] at e;cases e)
structure LS(K:PySem.W.Frag)(C CB p bx sd a Pt:Addr)(L:Addr->Prop)(ns:List Nat)(rG:List Int)(H:Hp):Prop where
 S:BK K H a (rG.map V.int)
 t:iL Pt H
 Af:bL H p
 hd:H sd=some (.tup (NV ns))
 BA:hJ C CB H L bx ns
theorem bL.ne2{H:Hp}{p c:Addr}{o:HO}(hp:bL H p)(e:H c=some o)(n:∀xs,o≠.lst xs):c≠p:=fun z=>by
 obtain⟨u,v,g,_⟩:=hp;rw[<-z,e] at g;exact n _ (bt g)
theorem LS.b9{C CB p bx sd a Pt:Addr}{L:Addr->Prop}{ns:List Nat}{rG:List Int}{H H':Hp}(c:LS K C CB p bx sd a Pt L ns rG H)(nl:¬ L p)(s:aD p H H')(hp:bL H' p):LS K C CB p bx sd a Pt L ns rG H':=by
 refine⟨c.S.b9 s c.Af,c.t.kE s c.Af,hp,s _ _ c.hd (c.Af.neT c.hd),?_⟩;obtain⟨dx,pn,sr,a1,c1,d1⟩:=c.BA.ob;obtain⟨_,_,_,_,g1,_⟩:=c1.ob;exact⟨c.BA.bx,dx,pn,sr,s _ _ a1 (c.Af.ne2 a1 fun _ z=>nomatch z),c1.keep (fun q o l e=>s _ _ e (fun z=>nl (z ▸ l))) (fun o e=>s _ _ e (c.Af.ne2 e (by rw[g1] at e;injection e with e;subst e;exact fun _ z=>nomatch z))),s _ _ d1 (c.Af.neT d1)⟩
theorem LS.same{C CB p bx sd a Pt:Addr}{L:Addr->Prop}{ns:List Nat}{rG:List Int}{H H':Hp}(c:LS K C CB p bx sd a Pt L ns rG H)(nl:¬ L p)(s:aV H H'):LS K C CB p bx sd a Pt L ns rG H':=c.b9 nl (aD.of s) (c.Af.same s)
theorem LS.Rj{C CB p bx sd a Pt:Addr}{L:Addr->Prop}{ns:List Nat}{rG:List Int}{H H':Hp}(c:LS K C CB p bx sd a Pt L ns rG H)(nl:¬ L Pt)(s:ni Pt H H')(t:iL Pt H'):LS K C CB p bx sd a Pt L ns rG H':=by
 refine⟨c.S.mono fun o u e=>s _ _ e (c.t.not e (by intro ps z;cases z)),t,?_,s _ _ c.hd (c.t.not c.hd (by intro ps z;cases z)),c.BA.Rj c.t nl s⟩;obtain⟨u,v,e,r⟩:=c.Af;exact⟨u,v,s _ _ e (c.t.not e (by intro ps z;cases z)),r⟩
theorem j4:aE ["_law_script","_law_k","_law_pot_here","_law_sides_here","_law_box","_law_many_here","_law_turn","_law_house","_law_place_here"] ["_law_script"] (aj yN):=⟨rfl,rfl,rfl,by decide +kernel,rfl,by decide +kernel,by decide +kernel⟩
def Ag(K:PySem.W.Frag)(Pt:Addr):Sp:=fun vs H Q _=>∃ (a:Addr) (ns:List Int),vs=[.ref a]/\BK K H a (ns.map V.int)/\ns.length<=63/\iL Pt H/\∀H',Q (.bl true) H'
set_option maxHeartbeats 8000000 in
theorem Lm{f C CB CE CS Pt fB:Addr}{fd Xp:FuncData}(F:eJ K "law" "law" yN f fd)(B:Bl mg)(T:NT K mg C)(TB:GZ K mg CB)(MB:Mk K CB fB)(bB:dJ K Xp ["self","sides"] [])(GB:be P w K mg base (dZ P w) 11 fB Xp ["self","sides"] (qf K C CB CS Pt))(PT:cP P w K mg base br 1 "_law_pot" ["_law_script","_law_k"] (Ef K))(SI:cP P w K mg base br 2 "_law_sides" ["_law_pot_here"] (KW))(MA:cP P w K mg base br 1 "_law_many" ["_law_sides_here"] (Eg))(DR:cP P w K mg base br 1 "_law_draw" ["_law_pot_here","_law_many_here"] (wc))(PL:cP P w K mg base br 1 "_law_place" ["_law_sides_here","_law_house"] (wd))(NS:cP P w K mg base br 2 "_law_no_sides" ["_law_pot_here","_law_sides_here"] (K3 K))(NB:cP P w K mg base br 13 "_law_no_box" ["_law_sides_here"] (K_ K Pt))(NR:cP P w K mg base br 7 "_law_net_right" ["_law_pot_here","_law_sides_here","_law_net"] (Lh C))(TO:cP P w K mg base br 6 "_law_told" ["_law_box","_law_way","_law_thing"] (La K C CB))(NH:cP P w K mg base br 2 "_law_no_house" ["_law_pot_here","_law_many_here"] (K8 K))(NP:cP P w K mg base br 2 "_law_no_place" ["_law_pot_here","_law_sides_here","_law_place_here"] (K9 K))(MS:eX P w K mg base br 1 CB "sides" ["self"] (KZ C CB))(MN:eX P w K mg base br 11 CB "net" ["self"] (Eh C CB Pt))(MP:eX P w K mg base (dZ P w) 5 CB "place" ["self","house"] (v_ K C CB CE))(MH:eX P w K mg base (dZ P w) 4 CB "house" ["self","place"] (qg K C CB CE))(MM:eX P w K mg base br 1 C "many" ["self"] (yv C)):
  be P w K mg base br 14 f fd ["_law_script"] (Ag K Pt):=by
 obtain⟨fS,fdS,mS,bS,GS⟩:=MS.ex;obtain⟨fN,fdN,mN,bN,GN⟩:=MN.ex;obtain⟨fP,fdP,mP,bP,GP⟩:=MP.ex;obtain⟨fH,fdH,mH,bH,GH⟩:=MH.ex;obtain⟨fM,QL,mM,bM,GM⟩:=MM.ex;refine F.ok j4 (fun vs H Q E h=>?_) (fun cm A outer s H vs Q E hr h=>?_)
 .obtain⟨a,ns,rfl,_⟩:=h;rfl
 .obtain⟨a,rG,rfl,hS,yd,tb,q⟩:=h;have h1:bK 1 _:=hr.mono (by decide);have h2:bK 2 _:=hr.mono (by decide);have h4:bK 4 _:=hr.mono (by decide);have h5:bK 5 _:=hr.mono (by decide);have h6:bK 6 _:=hr.mono (by decide);have h7:bK 7 _:=hr.mono (by decide);have Xq:bK 11 _:=hr.mono (by decide);have h12:bK 12 _:=hr.mono (by decide);refine⟨_,(ah (cG d8 rfl (ck rfl B.range (aa (av (qT rfl) (by rfl) B.max PyProof.Rows.boot_max (aa az (aa (av (qU rfl) (by rfl) B.min PyProof.Rows.boot_min (aa (av aS (by rfl) B.len d9 (aa (pv 0) af)) (aa az af))) af))) af)) (aB (i:=1) j4.nd rfl (Or.inl rfl))
    (ah (aK (i:=2) j4.nd rfl (Or.inl rfl) (aH PT h1 aO (aa (pv 0) (aa (pv 1) af))))
    (ah (aK (i:=3) j4.nd rfl (Or.inl rfl) (aH SI h2 aO (aa (pv 2) af)))
    (ah (bZ (et (dE (aH NB hr aO (aa (aH NS h2 aO (aa (pv 2) (aa (pv 3) af))) af)))) (ak (aN gg)) aX)
    (ah (aK (i:=4) j4.nd rfl (Or.inl rfl) (y_ MB GB h12 rfl TB.QK bB .nil jT (aa (pv 3) af)))
    (ah (aK (i:=5) j4.nd rfl (Or.inl rfl) (aH MA h1 aO (aa (pv 3) af)))
    (ah (bZ (PW.pt (va (a8 (ut (d:=0) hr.u) (i7 (pv 4) TB.cl mS GS h1 bS .nil aO) (pv 3) (bb _)) (pc (a8 pj (i7 (i7 (pv 4) TB.cl mN GN Xq bN .nil aO) T.cl mM GM h1 bM .nil aO) (pv 5) (bb _))))) (ak (aN gg)) aX)
    (ah (bZ (et (dE (aH NR h7 aO (aa (pv 2) (aa (pv 3) (aa (i7 (pv 4) TB.cl mN GN Xq bN .nil aO) af)))))) (ak (aN gg)) aX)
    (ah (cG d8 rfl (ck rfl B.range (aa az af)) (aB (i:=6) j4.nd rfl (Or.inl rfl))
     (ah (aK (i:=7) j4.nd rfl (Or.inl rfl) (aH DR h1 aO (aa (pv 2) (aa (pv 5) af))))
     (ah (aK (i:=8) j4.nd rfl (Or.inl rfl) (di dw (by rfl) B.tup oo (aa (aH PL h1 aO (aa (pv 3) (aa (pv 7) af))) af)))
     (ah (bZ (PW.pt (va (a8 (ut (d:=0) hr.u) (aH TO h6 aO (aa (pv 4) (aa az (aa (pv 7) af)))) (pv 8) (bb _)) (pc (a8 pj (aH TO h6 aO (aa (pv 4) (aa az (aa (pv 8) af)))) (pv 7) (bb _))))) (ak (aN gg)) aX)
     (ah (bZ (a8 (og (d:=0) hr.u) (aH TO h6 aO (aa (pv 4) (aa az (aa (aH NH h2 aO (aa (pv 2) (aa (pv 5) af))) af)))) (bX (aa az (aa gg af))) (bb _)) (ak (aN gg)) aX)
     (ak (bZ (a8 (og (d:=0) hr.u) (aH TO h6 aO (aa (pv 4) (aa az (aa (aH NP h2 aO (aa (pv 2) (aa (pv 3) (aa (pv 8) af)))) af)))) (bX (aa az (aa gg af))) (bb _)) (ak (aN gg)) aX)))))))
    (ak (cG d8 rfl (ck rfl B.range (aa (pv 5) af)) (aB (i:=7) j4.nd rfl (Or.inl rfl))
     (ak (bZ (PW.pt (va (a8 (ut (d:=0) hr.u) (dQ (pv 4) TB.cl mP GP h5 bP .nil jT (aa (pv 7) af)) (di dw (by rfl) B.tup oo (aa (aH PL h1 aO (aa (pv 3) (aa (pv 7) af))) af)) (bb _)) (pc (a8 pj (dQ (pv 4) TB.cl mH GH h4 bH .nil jT (aa (dQ (pv 4) TB.cl mP GP h5 bP .nil jT (aa (pv 7) af)) af)) (pv 7) (bb _))))) (ak (aN gg)) aX)))))))))))))
   (ak (aN gg))),?_⟩
  refine⟨_,rfl,a,_,rfl,.inl hS.seq,_,4,rfl,1,_,rfl,_,rfl,?_⟩;obtain⟨j,hj,j1⟩:∃j:Int,(if (if (4:Int)<(((rG.map V.int).length:Nat):Int) then (4:Int) else (((rG.map V.int).length:Nat):Int)) > 1 then (if (4:Int)<(((rG.map V.int).length:Nat):Int) then (4:Int) else (((rG.map V.int).length:Nat):Int)) else 1)=j/\1<=j/\j<=4:=⟨_,rfl,by split <;> split <;> lia⟩
  rw[hj];refine⟨by lia,by lia,eA (n:=j.toNat) (lo:=0) (fun k σ H2=>(∃x1 x2 x3 x4 x5 x6 x7 x8,σ=[some (.ref a),x1,x2,x3,x4,x5,x6,x7,x8])/\BK K H2 a (rG.map V.int)/\iL Pt H2) ⟨⟨_,_,_,_,_,_,_,_,rfl⟩,hS,tb⟩ ?_ (fun σ H2 _=>q H2)⟩;rintro k σ H2 hk ⟨⟨x1,x2,x3,x4,x5,x6,x7,x8,rfl⟩,S2,t2⟩;refine⟨_,rfl,_,rfl,a,rG,k,by rw[gv];rfl,S2.seq,by lia,fun p H3 s3 np p3=>?_⟩;refine⟨_,rfl,p,rfl,p3,fun sd ns H4 s4 p4 Ht BX=>?_⟩;have rE:=BX.rE;have pr2:=Ll BX;have S4:=(S2.mono fun o u e=>s3 _ _ e).b9 s4 p3;have t4:=(qi t2 s3).kE s4 p3;clear s3 s4 np p3 S2 t2;refine⟨_,rfl,_,rfl,p,sd,ns,rfl,p4,Ht,BX,fun v5 H5 s5 p5 UD=>?_⟩;have Ph:=s5 _ _ Ht (p4.neT Ht);have S5:=S4.b9 s5 p4;have t5:=t4.kE s5 p4;obtain⟨o5,Xr,Xs⟩:=UD;refine⟨v5,o5,rfl,fun H' s'=>Xr H' (aD.of s'),Xs,t5,fun H6 s6=>⟨_,rfl,eY rfl ?_⟩⟩;have Ln:=s6 _ _ Ph;have S6:=S5.mono fun o u e=>s6 _ _ e;have t6:=qi t5 s6;have p6:=p5.same s6;clear S4 t4 s5 p4 Ht S5 t5 s6 p5 Ph Xr Xs;refine⟨_,rfl,fun bx dx nx QT QU=>?_⟩;have sN:aV H6 (upd (upd H6 dx (.own bx)) bx (.ins CB dx [])):=(ai (o:=.own bx) QT).trans (ai (D:=bx) (o:=.ins CB dx []) (by rw[ao QU.symm];exact nx));have Xt:(upd (upd H6 dx (.own bx)) bx (.ins CB dx [])) bx=some (.ins CB dx []):=ag;generalize upd (upd H6 dx (.own bx)) bx (.ins CB dx [])=HM at *;refine⟨bx,dx,_,_,rfl,Xt,II (sN _ _ Ln),qi t6 sN,(fun z=>by rw[uC BX] at z;cases z),fun IL e H8 BA t8 s8=>⟨rfl,?_⟩⟩;rw[uC BX] at e;cases e;have tN:iL Pt HM:=qi t6 sN;have kp:∀ {c o},H6 c=some o->(∀ps,o≠.nQ ps)->H8 c=some o:=fun {c o} e nt=>s8 _ _ (sN _ _ e) (am e nx) (tN.not (sN _ _ e) nt);have uM:¬ (HM p=none):=fun z=>(p6.same sN).full z;have Xu:¬ (HM Pt=none):=fun z=>tN.full z;have C8:LS K C CB p bx sd a Pt (fun c=>HM c=none) ns rG H8:=by
   refine⟨S6.mono fun o u e=>kp e (by intro ps z;cases z),t8,?_,kp Ln (by intro ps z;cases z),BA⟩;obtain⟨u,v,e,r⟩:=p6;exact⟨u,v,kp e (by intro ps z;cases z),r⟩
  obtain⟨UE,pnb,srb,Pi,NB8,UF⟩:=id BA.ob;clear kp S6 t6 p6 Ln sN Xt tN s8 t8 nx QT QU BA;refine⟨_,rfl,sd,ns,rfl,C8.hd,(fun x hx=>(BX.sd x hx).2),?_⟩;refine⟨_,rfl,bx,UE,_,rfl,Pi,EC,_,bx,ns,rfl,C8.BA,fun Xv Pj=>?_⟩;refine⟨_,rfl,Xv,sd,_,_,rfl,rfl,cI.of Pj,cI.of C8.hd,rfl,qk,_,rfl,eY rfl ?_⟩;refine⟨_,rfl,bx,UE,_,rfl,Pi,ED,_,bx,ns,rfl,C8.BA,C8.t,fun pN H9 hpN N9 t9 s9=>?_⟩;obtain⟨IJ,tl,ol,ds,hN,_⟩:=id N9.ob;have C9:=C8.Rj Xu s9 t9;have Rk:=s9 _ _ Pi (C8.t.not Pi (by intro ps z;cases z));refine⟨pN,IJ,_,rfl,hN,O7 _ _ _ _,_,pN,_,_,rfl,N9,_,rfl,rfl,_,rfl,eY (by show (!decide (V.int _=V.int _))=false;rw[bJ rfl];rfl) ?_⟩;clear C8 Pi Pj s9 hN NB8 UF;refine⟨_,rfl,_,rfl,_,rfl,bx,UE,_,rfl,Rk,ED,_,bx,ns,rfl,C9.BA,C9.t,fun pM K7 hpM Xw UG uJ=>?_⟩;have Rl:=C9.Rj Xu uJ UG;have UH:=uJ _ _ Rk (C9.t.not Rk (by intro ps z;cases z));refine⟨_,p,sd,pM,ns,rfl,Rl.Af,Rl.hd,BX,Xw,C9.Af.full,fun Rh IU Pf=>⟨_,rfl,eY rfl ?_⟩⟩;have C11:=Rl.b9 uM IU Pf;clear C9 Rl Xw N9 Rk UH uJ IU;refine⟨_,rfl,by decide,by decide,eA (n:=4) (lo:=0) (fun i σ Hc=>(∃x6 x7 x8,σ=[some (.ref a),some (.int (0+(k:Int))),some (.ref p),some (.ref sd),some (.ref bx),some (.int (pr ns:Nat)),x6,x7,x8])/\LS K C CB p bx sd a Pt (fun c=>HM c=none) ns rG Hc) ⟨⟨_,_,_,rfl⟩,C11⟩ ?_ ?_⟩
  .rintro i σ Hc hi ⟨⟨y6,y7,y8,rfl⟩,Cc⟩;refine⟨_,rfl,_,rfl,p,pr ns,rfl,by lia,du rE (by decide),Cc.Af,fun h Ha hh sa pa=>?_⟩;have Ca:=Cc.b9 uM sa pa;refine⟨_,rfl,_,rfl,sd,ns,h,rfl,Ca.hd,BX,fun r Hb sb nr Rm=>⟨r,_,rfl,.inl ⟨a_.of Rm,fun t ht=>?_⟩⟩⟩;have Cb:=(Ca.same uM sb).same uM (ai (o:=.tup (NV (hU ns h))) ht);have gt:(upd Hb t (.tup (NV (hU ns h)))) t=some (.tup (NV (hU ns h))):=ag;generalize upd Hb t (.tup (NV (hU ns h)))=Hd at *;clear Ca Cc sa pa sb nr Rm ht;refine⟨_,rfl,_,rfl,_,bx,ns,0,_,rfl,Cb.BA,.inl ⟨rfl,some (h:Int),fun _ _=>.int _,(fun z=>by rw[cR hh] at z;cases z),fun h' L5 e t2 He se KE=>?_⟩⟩;obtain rfl:h=h':=iD (bt e);refine⟨_,rfl,t2,t,_,_,rfl,rfl,cI.of KE,cI.of (se _ _ gt),rfl,qk,_,rfl,eY rfl ?_⟩;have Ce:=Cb.same uM se;have OW:=se _ _ gt;refine⟨_,rfl,_,rfl,_,bx,ns,1,_,rfl,Ce.BA,.inr ⟨rfl,t,_,sI (hU ns h),rfl,OW,by unfold sI;rw[aZ,aW],IX,(fun z=>by rw[EE BX] at z;cases z),fun _ Hf sf=>?_⟩⟩;rw[IW,uA hh];refine⟨_,rfl,rfl,_,rfl,eY (by show (!decide (V.int _=V.int _))=false;rw[bJ rfl];rfl) ?_⟩;have Cf:=Ce.same uM sf;have UI:=sf _ _ OW;clear Ce Cb se sf gt OW;refine⟨_,rfl,_,rfl,_,rfl,p,pr ns,rfl,Cf.Af,fun vb Hg sg pg UD=>?_⟩;have Cg:=Cf.b9 uM sg pg;have Xx:=sg _ _ UI (Cf.Af.neT UI);obtain⟨ob,wb,ib⟩:=UD;refine⟨_,bx,ns,0,_,rfl,Cg.BA,.inl ⟨rfl,ob,fun H' s'=>wb H' (aD.of s'),fun _ r6 H6 s6 Bc=>⟨by show 2<=sizeLine;decide,fun l hl=>?_⟩,(fun h' L5 e=>by rw[e,cR L5] at ib;cases ib)⟩⟩;refine⟨r6,l,_,_,rfl,rfl,a_.of (ai hl _ _ Bc),a_.of ag,rfl,Pg,_,rfl,eY rfl ?_⟩;have C7:=(Cg.same uM s6).same uM (ai (o:=.lst [.int 4,.bl true]) hl);have gt5:=ai (o:=.lst [.int 4,.bl true]) hl _ _ (s6 _ _ Xx);generalize upd H6 l (.lst [.int 4,.bl true])=H7 at *;clear Cg Cf sg UI Xx wb s6 Bc hl;refine⟨_,rfl,_,rfl,_,rfl,_,rfl,p,sd,t,ns,hU ns h,rfl,C7.Af,C7.hd,gt5,BX,bR,fun tb xs os H12 ur p12 Qv nums lQ=>?_⟩;have Xy:=C7.b9 uM ur p12;refine⟨_,bx,ns,1,_,rfl,Xy.BA,.inr ⟨rfl,tb,xs,os,rfl,Qv,nums.1,fun i y o h1 h2 H' s'=>nums.2 i y o h1 h2 H' (aD.of s'),fun _ r13 H13 OK UJ=>⟨by show 2<=sizeLine;decide,fun l hl=>?_⟩,(fun z=>by rw[lQ] at z;cases z)⟩⟩;refine⟨r13,l,_,_,rfl,rfl,a_.of (ai hl _ _ UJ),a_.of ag,rfl,Pg,_,rfl,eY rfl ?_⟩;exact⟨⟨_,_,_,rfl⟩,(Xy.same uM OK).same uM (ai hl)⟩
  .rintro σ Hc ⟨⟨y6,y7,y8,rfl⟩,Cc⟩;refine⟨_,rfl,_,rfl,by lia,by lia,eA (n:=pr ns) (lo:=0) (fun i σ Hc=>(∃x7,σ=[some (.ref a),some (.int (0+(k:Int))),some (.ref p),some (.ref sd),some (.ref bx),some (.int (pr ns:Nat)),y6,x7,y8])/\LS K C CB p bx sd a Pt (fun c=>HM c=none) ns rG Hc) ⟨⟨_,rfl⟩,Cc⟩ ?_ ?_⟩
   .rintro i σ Hi hi ⟨⟨y7,rfl⟩,Ci⟩;rw[gv];obtain⟨UK,pn2,Xv,Bb,_⟩:=id Ci.BA.ob;refine⟨_,rfl,bx,UK,_,rfl,Bb,qd,_,rfl,_,bx,ns,_,some (i:Int),rfl,Ci.BA,.int _,(fun z=>by rw[cR hi] at z;cases z),fun h' L5 e t1 Ha sa Ua=>?_⟩;obtain rfl:i=h':=iD (bt e);have Ca:=Ci.same uM sa;refine⟨_,rfl,_,rfl,sd,ns,i,rfl,Ca.hd,BX,fun r Hb sb nr Rm=>⟨r,_,rfl,.inl ⟨a_.of Rm,fun t ht=>?_⟩⟩⟩;have sT:=ai (o:=.tup (NV (hU ns i))) ht;refine⟨t1,t,_,_,rfl,rfl,cI.of (sT _ _ (sb _ _ Ua)),cI.of ag,rfl,qk,_,rfl,eY rfl ?_⟩;have Cb:=(Ca.same uM sb).same uM sT;have Qx:=sT _ _ (sb _ _ (sa _ _ Bb));generalize upd Hb t (.tup (NV (hU ns i)))=Hd at *;refine⟨_,rfl,bx,UK,_,rfl,Qx,v9,_,rfl,bx,UK,_,rfl,Qx,qd,_,rfl,_,bx,ns,_,some (i:Int),rfl,Cb.BA,.int _,(fun z=>by rw[cR hi] at z;cases z),fun h' L5 e t3 He se ht3=>?_⟩;obtain rfl:i=h':=iD (bt e);have Ce:=Cb.same uM se;refine⟨_,bx,t3,ns,_,sI (hU ns i),rfl,Ce.BA,ht3,by unfold sI;rw[aZ,aW],IX,(fun z=>by rw[EE BX] at z;cases z),fun _ Hf sf=>?_⟩;rw[IW,uA hi];refine⟨_,rfl,rfl,_,rfl,eY (by show (!decide (V.int _=V.int _))=false;rw[bJ rfl];rfl) ?_⟩;exact⟨⟨_,rfl⟩,Ce.same uM sf⟩
   .rintro σ Hi ⟨⟨y7,rfl⟩,Ci⟩;exact⟨⟨_,_,_,_,_,_,_,_,rfl⟩,Ci.S,Ci.t⟩
end
def FD(K:PySem.W.Frag)(n:Str)(st:Stmt):Prop:=∃ (f:Addr) (oc:Value) (od an:Option Addr) (sl:Array (Option Value)) (kV dc pm cd ct:Value),PySem.W.nsIn K mainGlobals n=some (some (.ref f))/\K.lookup f=some ⟨oc,od,.func (PySem.W.fnOf n n (cz st) (bh st) (aj st) .none kV dc pm an cd ct),sl⟩/\PySem.W.codeIn K cd n=true/\PySem.W.keepIn K (.ref f)=true
def FC(K:PySem.W.Frag)(n:Str)(st:Stmt)(c:Addr):Prop:=∃ (f:Addr) (oc:Value) (od an:Option Addr) (sl:Array (Option Value)) (kV dc pm ct:Value),PySem.W.nsIn K mainGlobals n=some (some (.ref f))/\K.lookup f=some ⟨oc,od,.func (PySem.W.fnOf n n (cz st) (bh st) (aj st) .none kV dc pm an (.ref c) ct),sl⟩/\PySem.W.codeIn K (.ref c) n=true/\PySem.W.keepIn K (.ref f)=true
def MD(K:PySem.W.Frag)(C:Addr)(n q:Str)(st:Stmt):Prop:=∃ (f:Addr) (oc:Value) (od an:Option Addr) (sl:Array (Option Value)) (kV dc pm cd ct:Value),PySem.W.findIn K (.ref C) n=some (some (.ref f))/\PySem.W.isFn K (.ref f)=true/\K.lookup f=some ⟨oc,od,.func (PySem.W.fnOf n q (cz st) (bh st) (aj st) .none kV dc pm an cd ct),sl⟩/\PySem.W.codeIn K cd q=true/\PySem.W.keepIn K (.ref f)=true
def MC(K:PySem.W.Frag)(C:Addr)(n q:Str)(st:Stmt)(c:Addr):Prop:=∃ (f:Addr) (oc:Value) (od an:Option Addr) (sl:Array (Option Value)) (kV dc pm ct:Value),PySem.W.findIn K (.ref C) n=some (some (.ref f))/\PySem.W.isFn K (.ref f)=true/\K.lookup f=some ⟨oc,od,.func (PySem.W.fnOf n q (cz st) (bh st) (aj st) .none kV dc pm an (.ref c) ct),sl⟩/\PySem.W.codeIn K (.ref c) q=true/\PySem.W.keepIn K (.ref f)=true
section
variable {P:Program} {w:World} {K:PySem.W.Frag} {mg:Str->Option Value} {base h:Heap} {n q:Str} {st:Stmt} {f c C:Addr} {oc kV dc pm cd ct:Value} {od an:Option Addr} {sl:Array (Option Value)} {CX:nu} {k:Nat} {ps:List Str} {sp:Sp}
theorem FD.mk(a:PySem.W.nsIn K mainGlobals n=some (some (.ref f)))(l:K.lookup f=some ⟨oc,od,.func (PySem.W.fnOf n n (cz st) (bh st) (aj st) .none kV dc pm an cd ct),sl⟩)(d:PySem.W.codeIn K cd n=true)(k:PySem.W.keepIn K (.ref f)=true):FD K n st:=⟨f,oc,od,an,sl,kV,dc,pm,cd,ct,a,l,d,k⟩
theorem FC.mk(a:PySem.W.nsIn K mainGlobals n=some (some (.ref f)))(l:K.lookup f=some ⟨oc,od,.func (PySem.W.fnOf n n (cz st) (bh st) (aj st) .none kV dc pm an (.ref c) ct),sl⟩)(d:PySem.W.codeIn K (.ref c) n=true)(k:PySem.W.keepIn K (.ref f)=true):FC K n st c:=⟨f,oc,od,an,sl,kV,dc,pm,ct,a,l,d,k⟩
theorem MD.mk(a:PySem.W.findIn K (.ref C) n=some (some (.ref f)))(i:PySem.W.isFn K (.ref f)=true)(l:K.lookup f=some ⟨oc,od,.func (PySem.W.fnOf n q (cz st) (bh st) (aj st) .none kV dc pm an cd ct),sl⟩)(d:PySem.W.codeIn K cd q=true)(k:PySem.W.keepIn K (.ref f)=true):MD K C n q st:=⟨f,oc,od,an,sl,kV,dc,pm,cd,ct,a,i,l,d,k⟩
theorem MC.mk(a:PySem.W.findIn K (.ref C) n=some (some (.ref f)))(i:PySem.W.isFn K (.ref f)=true)(l:K.lookup f=some ⟨oc,od,.func (PySem.W.fnOf n q (cz st) (bh st) (aj st) .none kV dc pm an (.ref c) ct),sl⟩)(d:PySem.W.codeIn K (.ref c) q=true)(k:PySem.W.keepIn K (.ref f)=true):MC K C n q st c:=⟨f,oc,od,an,sl,kV,dc,pm,ct,a,i,l,d,k⟩
def BD(n q:Str)(st:Stmt)(ps:List Str):Prop:=∀ (kV jr pm:Value) (an:Option Addr) (cm ct:Value) (us:List Value),us.length=ps.length->bindArgs (PySem.W.fnOf n q (cz st) (bh st) (aj st) .none kV jr pm an cm ct) ⟨us,[]⟩=pure (ps.zip us)
theorem FD.hV(X:K.In h)(G:h.Ns mainGlobals mg)(D:FD K n st)(b:BD n n st ps)(o:∀ {f fd},eJ K n n st f fd->be P w K mg base CX k f fd ps sp):cP P w K mg base CX k n ps sp:=by
 obtain⟨f,_,_,_,_,_,_,_,_,_,a,l,d,kp⟩:=D;have F:=mw (x:=n) (qual:=n) (st:=st) l d kp;exact⟨⟨f,_,cg X G a,kp,F.binds b,o F⟩⟩
theorem FD.UL(X:K.In h)(G:h.Ns mainGlobals mg)(D:FD K n st)(b:BD n n st ps)(o:∀ {f fd},eJ K n n st f fd->q_ P w K mg base (dZ P w) k f fd ps sp):CU P w K mg base k n ps sp:=
 let ⟨f,_,_,_,_,_,_,_,_,_,a,l,d,kp⟩:=D
 have F:=mw (x:=n) (qual:=n) (st:=st) l d kp
 ⟨⟨f,_,cg X G a,kp,F.binds b,o F⟩⟩
theorem FC.hV(X:K.In h)(G:h.Ns mainGlobals mg)(D:FC K n st c)(b:BD n n st ps)(o:∀ {f fd},ye K n n st f fd c->be P w K mg base CX k f fd ps sp):cP P w K mg base CX k n ps sp:=by
 obtain⟨f,_,_,_,_,_,_,_,_,a,l,d,kp⟩:=D;have F:=F2 (x:=n) (qual:=n) (st:=st) l d kp;exact⟨⟨f,_,cg X G a,kp,F.fun.binds b,o F⟩⟩
theorem MD.hV(D:MD K C n q st)(b:BD n q st ps)(o:∀ {f fd},eJ K n q st f fd->be P w K mg base CX k f fd ps sp):eX P w K mg base CX k C n ps sp:=by
 obtain⟨f,_,_,_,_,_,_,_,_,_,a,i,l,d,kp⟩:=D;have F:=mw (x:=n) (qual:=q) (st:=st) l d kp;exact⟨⟨f,_,⟨a,i,kp⟩,F.binds b,o F⟩⟩
end
theorem fu{α:Type}{P:List α->Prop}(h:∀a0,P [a0])(l:List α)(e:l.length=1):P l:=by
 cases l with
 |nil=>cases e
 |cons a t=>cases t with
  |nil=>exact h a
  |cons b t=>cases e
theorem ee{α:Type}{P:List α->Prop}(h:∀a0 a1,P [a0,a1])(l:List α)(e:l.length=2):P l:=by
 cases l with
 |nil=>cases e
 |cons a t=>exact fu (P:=fun t=>P (a::t)) (h a) t (Nat.succ.inj e)
theorem lM{α:Type}{P:List α->Prop}(h:∀a0 a1 a2,P [a0,a1,a2])(l:List α)(e:l.length=3):P l:=by
 cases l with
 |nil=>cases e
 |cons a t=>exact ee (P:=fun t=>P (a::t)) (h a) t (Nat.succ.inj e)
theorem Lo{l:PySem.W.OpenLaw}{w:World}{K:PySem.W.Frag}{h:Heap}{mg:Str->Option Value}{fa:Addr}(X:K.In h)(G:h.Ns mainGlobals mg)(hfa:mg "law"=some (.ref fa)){C cO Pt gp oj cp lN lO bE jF jG jH gs lP jI om cJ:Addr}{nF qN nG uN nJ qm:Tok}(aC:PySem.W.nsIn K mainGlobals "Net"=some (some (.ref C)))(nj:PySem.W.nsIn K mainGlobals "BeatError"=some (some (.ref gp)))(Hu:PySem.W.nsIn K mainGlobals "NoNet"=some (some (.ref oj)))(rH:PySem.W.nsIn K mainGlobals "NoShape"=some (some (.ref cp)))(Hv:PySem.W.nsIn K mainGlobals "NoTie"=some (some (.ref lN)))(EF:PySem.W.nsIn K mainGlobals "NoText"=some (some (.ref lO)))(mL:PySem.W.nsIn K mainGlobals "NoHouse"=some (some (.ref bE)))(Bt:PySem.W.nsIn K mainGlobals "NoRanks"=some (some (.ref jF)))(Bu:PySem.W.nsIn K mainGlobals "NoStand"=some (some (.ref jG)))(Bv:PySem.W.nsIn K mainGlobals "NoBerth"=some (some (.ref jH)))(wr:PySem.W.nsIn K mainGlobals "NoHanding"=some (some (.ref gs)))(EG:PySem.W.nsIn K mainGlobals "NoPlan"=some (some (.ref lP)))(Bw:PySem.W.nsIn K mainGlobals "TooMany"=some (some (.ref jI)))(Hw:PySem.W.nsIn K mainGlobals "NoRow"=some (some (.ref om)))(Pk:PySem.W.nsIn K mainGlobals "Box"=some (some (.ref cJ)))(Hx:FD K "is_whole" yl)(EH:FD K "is_whole_within" ui)(Hy:FD K "is_house" ym)(Pl:FD K "is_row" Ka)(Pm:FD K "are_unlike_houses" Kl)(Pn:FD K "is_tie" Kj)(Hz:FD K "check_ties" yo)(Po:FD K "check_balance" Kk)(Lp:FC K "houses_out" vZ cO)(Lq:FD K "distances_from" DO)(HA:FD K "check_reached" yp)(Lr:FD K "product" DV)(EI:FD K "pairs_net" uv)(EJ:FD K "check_sides" uw)(EK:FD K "box_pairs" ux)(Ls:FD K "box_net" DU)(Pp:FD K "_law_pot" KQ)(UM:FD K "_law_draw" TK)(UN:FD K "_law_sides" TQ)(UO:FD K "_law_many" TR)(UP:FD K "_law_place" TU)(UQ:FD K "_law_ties" Ul)(UR:FD K "_law_kinds" TX)(US:FD K "_law_no_box" Re)(UT:FD K "_law_told" Rc)(UU:FD K "_law_no_sides" Ab)(UV:FD K "_law_no_house" BJ)(UW:FD K "_law_no_place" wz)(UX:FD K "_law_net_right" Rg)(Pq:FD K "law" yN)(Lu:MD K C "__init__" "Net.__init__" zW)(HB:MD K C "check_house" "Net.check_house" yn)(Pr:MD K C "out" "Net.out" Kd)(Ps:MD K C "far" "Net.far" Ke)(Lv:MD K C "good" "Net.good" DH)(Lw:MD K C "ties" "Net.ties" DG)(Lx:MD K C "many" "Net.many" DE)(pg:PySem.W.plainGet K C Str.empty=true)(UY:PySem.W.hasDictIn K C=true)(po:PySem.W.plainOver K C=true)(sa:PySem.W.findIn K (.ref C) "__setattr__"=some (some (.builtin "object.__setattr__")))(mk:PySem.W.makesIn K C=true)(kc:PySem.W.keepIn K (.ref C)=true)(nH:PySem.W.findIn K (.ref C) "house_count"=some none)(nT:PySem.W.findIn K (.ref C) "tie_list"=some none)(nO:PySem.W.findIn K (.ref C) "out_lists"=some none)(nD:PySem.W.findIn K (.ref C) "distances"=some none)(uO:PySem.W.nsIn K mainGlobals "isinstance"=some none)(Pu:PySem.W.nsIn K mainGlobals "int"=some none)(Ly:PySem.W.nsIn K mainGlobals "bool"=some none)(HC:PySem.W.nsIn K mainGlobals "tuple"=some none)(Lz:PySem.W.nsIn K mainGlobals "list"=some none)(Pw:PySem.W.nsIn K mainGlobals "str"=some none)(Px:PySem.W.nsIn K mainGlobals "set"=some none)(Py:PySem.W.nsIn K mainGlobals "len"=some none)(HD:PySem.W.nsIn K mainGlobals "range"=some none)(EL:PySem.W.nsIn K mainGlobals "sorted"=some none)(Pz:PySem.W.nsIn K mainGlobals "any"=some none)(PB:PySem.W.nsIn K mainGlobals "max"=some none)(PC:PySem.W.nsIn K mainGlobals "min"=some none)(uP:PySem.W.nsIn K mainGlobals "ValueError"=some none)(PD:PySem.W.nsIn K mainGlobals "all"=some none)(PF:PySem.W.nsIn K mainGlobals "abs"=some none)(EM:PySem.W.nsIn K mainGlobals "divmod"=some none)(LA:PySem.W.nsIn K mainGlobals "dict"=some none)(PJ:PySem.W.nsIn K mainGlobals "zip"=some none)(LB:PySem.W.nsIn K mainGlobals "repr"=some none)(wu:PySem.W.nsIn K mainGlobals "enumerate"=some none)(IY:PySem.W.nsIn K mainGlobals "sum"=some none)(nK:PySem.W.nsIn K mainGlobals "FEWEST_HOUSES"=some (some (.int 2 nF)))(j5:PySem.W.nsIn K mainGlobals "MOST_HOUSES"=some (some (.int 32 qN)))(nM:PySem.W.nsIn K mainGlobals "MOST_TIES_OUT"=some (some (.int 8 nG)))(uQ:PySem.W.nsIn K mainGlobals "MOST_SIDES"=some (some (.int 5 uN)))(nP:PySem.W.nsIn K mainGlobals "SHORTEST_SIDE"=some (some (.int 2 nJ)))(qo:PySem.W.nsIn K mainGlobals "LONGEST_SIDE"=some (some (.int 8 qm)))(nn:jL K gp)(rJ:jL K cp)(mQ:jL K bE)(Rn:jL K lN)(UZ:PySem.W.plainGet K cJ Str.empty=true)(U0:PySem.W.hasDictIn K cJ=true)(U1:PySem.W.plainOver K cJ=true)(U2:PySem.W.findIn K (.ref cJ) "__setattr__"=some (some (.builtin "object.__setattr__")))(U3:PySem.W.makesIn K cJ=true)(U4:PySem.W.keepIn K (.ref cJ)=true)(U5:PySem.W.findIn K (.ref cJ) "tied_net"=some none)(U6:PySem.W.findIn K (.ref cJ) "side_row"=some none)(LC:MD K cJ "__init__" "Box.__init__" GY)(U7:MD K cJ "place" "Box.place" KL)(U8:MD K cJ "house" "Box.house" KM)(U9:MD K cJ "sides" "Box.sides" TZ)(U_:MD K cJ "net" "Box.net" KY)(kS:[oj,cp,lN,lO,bE,jF,jG,jH,gs,lP,jI,om].map (fun y=>PySem.W.kitOne K (.ref cp) (.ref y))=[some false,some true,some false,some false,some false,some false,some false,some false,some false,some false,some false,some false])(kH:[oj,cp,lN,lO,bE,jF,jG,jH,gs,lP,jI,om].map (fun y=>PySem.W.kitOne K (.ref bE) (.ref y))=[some false,some false,some false,some false,some true,some false,some false,some false,some false,some false,some false,some false])(vS:PySem.W.kitOne K (.ref cp) (.type "ValueError")=some true)(vH:PySem.W.kitOne K (.ref bE) (.type "ValueError")=some true)(sS:PySem.W.subIn K (.ref cp) (.ref gp)=some true)(sH:PySem.W.subIn K (.ref bE) (.ref gp)=some true)(LD:PySem.W.codeHdIn K cO Pt=true):
  ∃fd:FuncData,(∀ (s:Shared) (v:Value),BindsTo s fd ⟨[v],[]⟩ [("_law_script",v)])/\∀base:Heap,K.In base->base.Ns mainGlobals mg->tW mg base->be l.prog w K mg base br 14 fa fd ["_law_script"] (Ag K Pt):=by
 obtain⟨Xz,oc,od,an,sl,kV,dc,pm,cd,ct,PM,PP,PQ,PU⟩:=Pq;have e:=hfa.symm.trans (cg X G PM);cases e;have PV:=mw (x:="law") (qual:="law") (st:=yN) PP PQ PU;obtain⟨XA,oci,odi,ani,sli,kVi,dci,pmi,cdi,cti,a_i,i_i,l_i,d_i,k_i⟩:=Lu;have wv:=mw (x:="__init__") (qual:="Net.__init__") (st:=zW) l_i d_i k_i;have EN:=wv.binds (ps:=["self","many","ties"]) fun _ _ _ _ _ _=>lM fun _ _ _=>rfl;have MK:Mk K C XA:=⟨mk,a_i,i_i,kc⟩
 have B:Bl mg:=⟨cW X G uO,cW X G Pu,cW X G Ly,cW X G HC,cW X G Lz,cW X G Pw,cW X G Px,cW X G Py,cW X G HD,cW X G EL,cW X G Pz,cW X G PB,cW X G PC,cW X G uP,cW X G PD⟩
 have T:NT K mg C:=⟨⟨pg,UY,po,sa⟩,nH,nT,nO,nD,cg X G aC⟩
 have B2:WM mg:=⟨cW X G PF,cW X G EM,cW X G LA,cW X G PJ,cW X G LB⟩
 let c:Nat->Addr:=fun i=>[oj,cp,lN,lO,bE,jF,jG,jH,gs,lP,jI,om].getD i 0
 have KDS:WP mg c:=⟨cg X G Hu,cg X G rH,cg X G Hv,cg X G EF,cg X G mL,cg X G Bt,cg X G Bu,cg X G Bv,cg X G wr,cg X G EG,cg X G Bw,cg X G Hw⟩
 simp only[fJ,List.map_nil,List.cons.injEq,and_true] at kS kH;obtain⟨t0,t1,t2,t3,t4,t5,t6,t7,t8,t9,UG,t11⟩:=kS;obtain⟨r0,r1,r2,r3,r4,r5,r6,r7,r8,r9,r10,TJ⟩:=kH;have KS:OI K c cp 1:=⟨rJ,by decide,vS,t0,t1,t2,t3,t4,t5,t6,t7,t8,t9,UG,t11⟩
 have KH:OI K c bE 4:=⟨mQ,by decide,vH,r0,r1,r2,r3,r4,r5,r6,r7,r8,r9,r10,TJ⟩
 have TB:GZ K mg cJ:=⟨⟨UZ,U0,U1,U2⟩,U5,U6,cg X G Pk⟩
 obtain⟨PX,oc9,od9,an9,sl9,kV9,dc9,pm9,cd9,ct9,Va,Vb,Vc,Vd,Ve⟩:=LC;have PY:=mw (x:="__init__") (qual:="Box.__init__") (st:=GY) Vc Vd Ve;have PZ:=PY.binds (ps:=["self","sides"]) fun _ _ _ _ _ _=>ee fun _ _=>rfl;have MB:Mk K cJ PX:=⟨U3,Va,Vb,U4⟩
 refine⟨PySem.W.fnOf "law" "law" (cz yN) (bh yN) (aj yN) .none kV dc pm an cd ct,fun s v=>.of_eq rfl,fun base kb nb hb=>?_⟩;have HE:cP l.prog w K mg base br 1 "is_whole" ["thing"] (uk K):=FD.hV X G Hx (fun _ _ _ _ _ _=>fu fun _=>rfl) fun HF=>Dz HF B;have qp:cP l.prog w K mg base br 2 "is_whole_within" ["thing","least","most"] (jd K):=FD.hV X G EH (fun _ _ _ _ _ _=>lM fun _ _ _=>rfl) fun EO=>A8 EO HE;have uR:cP l.prog w K mg base br 3 "is_house" ["many","thing"] (lF K):=FD.hV X G Hy (fun _ _ _ _ _ _=>ee fun _ _=>rfl) fun HG=>DB HG qp;have EQ:cP l.prog w K mg base br 1 "is_row" ["thing","length"] (vX K):=FD.hV X G Pl (fun _ _ _ _ _ _=>ee fun _ _=>rfl) fun P0=>Kb P0 B;have P6:cP l.prog w K mg base br 4 "are_unlike_houses" ["many","one","other"] DK:=FD.hV X G Pm (fun _ _ _ _ _ _=>lM fun _ _ _=>rfl) fun P7=>Km P7 uR;have P8:cP l.prog w K mg base br 5 "is_tie" ["many","thing"] DL:=FD.hV X G Pn (fun _ _ _ _ _ _=>ee fun _ _=>rfl) fun P9=>Kn P9 EQ P6;have HJ:cP l.prog w K mg base br 6 "check_ties" ["many","ties"] jy:=FD.hV X G Hz (fun _ _ _ _ _ _=>ee fun _ _=>rfl) fun HK=>DM HK B ⟨_,cg X G nK⟩ ⟨_,cg X G j5⟩ qp P8;have P_:cP l.prog w K mg base br 1 "check_balance" ["many","ties"] jy:=FD.hV X G Po (fun _ _ _ _ _ _=>ee fun _ _=>rfl) fun Qa=>Ko Qa B ⟨_,cg X G nM⟩;have LF:cP l.prog w K mg base br 1 "houses_out" ["many","ties","house"] (um Pt):=FC.hV X G Lp (fun _ _ _ _ _ _=>lM fun _ _ _=>rfl) fun LG=>Gx LG B kb hb LD;have LH:cP l.prog w K mg base br 1 "distances_from" ["out_lists","start"] uo:=FD.hV X G Lq (fun _ _ _ _ _ _=>ee fun _ _=>rfl) fun LI=>Gy LI B;have HL:cP l.prog w K mg base br 1 "check_reached" ["distances"] uq:=FD.hV X G HA (fun _ _ _ _ _ _=>fu fun _=>rfl) fun HN=>DQ HN B;have LJ:be l.prog w K mg base br 7 XA _ ["self","many","ties"] (yt C Pt):=GD wv T B HJ P_ LF LH HL;have uS:eX l.prog w K mg base (dZ l.prog w) 4 C "check_house" ["self","thing"] (lG K C bE):=MD.hV HB (fun _ _ _ _ _ _=>ee fun _ _=>rfl) fun By=>DI By T ⟨cg X G mL,mQ⟩ uR;have Qb:eX l.prog w K mg base (dZ l.prog w) 5 C "out" ["self","house"] (DJ K C bE Kg):=MD.hV Pr (fun _ _ _ _ _ _=>ee fun _ _=>rfl) fun HP=>Kh HP T B uS;have IZ:eX l.prog w K mg base (dZ l.prog w) 5 C "far" ["self","one","other"] (z0 K C bE):=MD.hV Ps (fun _ _ _ _ _ _=>lM fun _ _ _=>rfl) fun HQ=>Ki HQ T uS;have LK:eX l.prog w K mg base (dZ l.prog w) 6 C "good" ["self","house","home"] (yu K C bE):=MD.hV Lv (fun _ _ _ _ _ _=>lM fun _ _ _=>rfl) fun ER=>GE ER T IZ;have LL:eX l.prog w K mg base br 1 C "many" ["self"] (yv C):=MD.hV Lx (fun _ _ _ _ _ _=>fu fun _=>rfl) fun ES=>GK ES T;have LM:eX l.prog w K mg base br 1 C "ties" ["self"] (yw C):=MD.hV Lw (fun _ _ _ _ _ _=>fu fun _=>rfl) fun ET=>GL ET T B;have yO:cP l.prog w K mg base br 1 "product" ["numbers"] (pZ K):=FD.hV X G Lr (fun _ _ _ _ _ _=>fu fun _=>rfl) fun LN=>GQ LN;have EU:cP l.prog w K mg base br 9 "pairs_net" ["many","pairs"] (pY C Pt):=FD.hV X G EI (fun _ _ _ _ _ _=>ee fun _ _=>rfl) fun EV=>Be EV B T MK EN LJ EQ;have EW:cP l.prog w K mg base (dZ l.prog w) 3 "check_sides" ["sides"] (p8 K cp):=FD.hV X G EJ (fun _ _ _ _ _ _=>fu fun _=>rfl) fun EX=>Bg EX B ⟨cg X G rH,rJ⟩ ⟨_,cg X G uQ⟩ ⟨_,cg X G nP⟩ ⟨_,cg X G qo⟩ ⟨_,cg X G j5⟩ qp yO;have EY:cP l.prog w K mg base br 2 "box_pairs" ["sides"] p_:=FD.hV X G EK (fun _ _ _ _ _ _=>fu fun _=>rfl) fun EZ=>Bh EZ B yO;have E1:cP l.prog w K mg base (dZ l.prog w) 10 "box_net" ["sides"] (uz K C Pt cp):=FD.hV X G Ls (fun _ _ _ _ _ _=>fu fun _=>rfl) fun LO=>GR LO EW EU yO EY;have Qc:be l.prog w K mg base (dZ l.prog w) 11 PX _ ["self","sides"] (qf K C cJ cp Pt):=G7 PY B TB E1;have I0:eX l.prog w K mg base (dZ l.prog w) 5 cJ "place" ["self","house"] (v_ K C cJ bE):=MD.hV U7 (fun _ _ _ _ _ _=>ee fun _ _=>rfl) fun F=>KN F B T TB uS;have Qd:eX l.prog w K mg base br 1 cJ "sides" ["self"] (KZ C cJ):=MD.hV U9 (fun _ _ _ _ _ _=>fu fun _=>rfl) fun F=>OM F TB;have Qe:eX l.prog w K mg base br 11 cJ "net" ["self"] (Eh C cJ Pt):=MD.hV U_ (fun _ _ _ _ _ _=>fu fun _=>rfl) fun F=>K0 F TB E1;have I_:eX l.prog w K mg base (dZ l.prog w) 4 cJ "house" ["self","place"] (qg K C cJ bE):=MD.hV U8 (fun _ _ _ _ _ _=>ee fun _ _=>rfl) fun F=>G8 F B B2.zip TB ⟨cg X G mL,mQ⟩ EQ uR;have Qf:cP l.prog w K mg base br 1 "_law_pot" ["_law_script","_law_k"] (Ef K):=FD.hV X G Pp (fun _ _ _ _ _ _=>ee fun _ _=>rfl) fun Qg=>KT Qg B;have Bz:cP l.prog w K mg base br 1 "_law_draw" ["_law_pot_here","_law_many_here"] wc:=FD.hV X G UM (fun _ _ _ _ _ _=>ee fun _ _=>rfl) fun Vf=>OD Vf B2;have Vg:cP l.prog w K mg base br 2 "_law_sides" ["_law_pot_here"] KW:=FD.hV X G UN (fun _ _ _ _ _ _=>fu fun _=>rfl) fun Vh=>OE Vh B Bz;have LP:cP l.prog w K mg base br 1 "_law_many" ["_law_sides_here"] Eg:=FD.hV X G UO (fun _ _ _ _ _ _=>fu fun _=>rfl) fun Vi=>OF Vi;have LQ:cP l.prog w K mg base br 1 "_law_place" ["_law_sides_here","_law_house"] wd:=FD.hV X G UP (fun _ _ _ _ _ _=>ee fun _ _=>rfl) fun Vj=>OG Vj;have Vk:cP l.prog w K mg base br 2 "_law_ties" ["_law_sides_here"] Lf:=FD.hV X G UQ (fun _ _ _ _ _ _=>fu fun _=>rfl) fun Vl=>O9 Vl B (cW X G wu) (cW X G IY) B2.zip B2.abs LQ LP;have Qh:CU l.prog w K mg base 1 "_law_kinds" ["_law_e"] (Bp K c):=FD.UL X G UR (fun _ _ _ _ _ _=>fu fun _=>rfl) fun Vm=>OJ Vm B KDS;have Vn:cP l.prog w K mg base br 13 "_law_no_box" ["_law_sides_here"] (K_ K Pt):=FD.hV X G US (fun _ _ _ _ _ _=>fu fun _=>rfl) fun Vo=>O5 Vo B TB ⟨cg X G nj,nn⟩ KS sS Qh MB Qc PZ;have Vp:cP l.prog w K mg base br 6 "_law_told" ["_law_box","_law_way","_law_thing"] (La K C cJ):=FD.hV X G UT (fun _ _ _ _ _ _=>lM fun _ _ _=>rfl) fun Vq=>O6 Vq B TB ⟨cg X G nj,nn⟩ KH sH Qh I0 I_;have Vr:cP l.prog w K mg base br 2 "_law_no_sides" ["_law_pot_here","_law_sides_here"] (K3 K):=FD.hV X G UU (fun _ _ _ _ _ _=>ee fun _ _=>rfl) fun Vs=>OV Vs B Bz;have Vt:cP l.prog w K mg base br 2 "_law_no_house" ["_law_pot_here","_law_many_here"] (K8 K):=FD.hV X G UV (fun _ _ _ _ _ _=>ee fun _ _=>rfl) fun Vu=>OZ Vu B Bz;have Vv:cP l.prog w K mg base br 2 "_law_no_place" ["_law_pot_here","_law_sides_here","_law_place_here"] (K9 K):=FD.hV X G UW (fun _ _ _ _ _ _=>lM fun _ _ _=>rfl) fun Vw=>O0 Vw B Bz;have Vx:cP l.prog w K mg base br 7 "_law_net_right" ["_law_pot_here","_law_sides_here","_law_net"] (Lh C):=FD.hV X G UX (fun _ _ _ _ _ _=>lM fun _ _ _=>rfl) fun Vy=>Pc Vy B T (cW X G IY) B2.zip B2.abs LQ LP Vk Bz Qb IZ LK LM;exact Lm PV B T TB MB PZ Qc Qf Vg LP Bz LQ Vr Vn Vx Vp Vt Vv Qd Qe I0 I_ LL
theorem Qi(h:((List.range 2000).any fun c=>PySem.W.codeHdIn K c P)=true):∃c,PySem.W.codeHdIn K c P=true:=
 let ⟨c,_,e⟩:=List.any_eq_true.mp h;⟨c,e⟩
theorem LR(hO:zA ts H)(h:a_ K H a xs):BK K H a xs:=by
 rcases h with h|h
 .rcases h with h|⟨o,h⟩
  .rcases hO.2 a with z|⟨_,z⟩|⟨o,ys,z⟩ <;> · rw[h] at z;cases z
  .exact .inl ⟨o,h⟩
 .exact .inr fun H'=>.inr h
theorem walk{l:PySem.W.OpenLaw}{q:Program}{qZ:List Str}{XP:(Str->Option Value)->Heap->Prop}{YP:World->Heap->Prop}{d:DefRec}{K:Params->PySem.W.Frag}{Pt:Addr}(hn:l.most=some 63)(M9:d.params.defaults=[])(hY:∀ (w:World) (h:Heap),YP w h->(K w.params).In h)(hT:∀ (w:World) (h:Heap),YP w h->∀P∈[Pt],h.get? P=some (PySem.W.tabObj #[]))(Vz:∀ (w:World),((List.range 2000).any fun c=>PySem.W.codeHdIn (K w.params) c Pt)=true)(VA:∀ (w:World),(K w.params).lookup Pt=none)(F:∀ (w:World) (mg:Str->Option Value) (fa:Addr) (h:Heap),(K w.params).In h->h.Ns mainGlobals mg->mg d.name=some (.ref fa)->
   ∃fd:FuncData,(∀ (s:Shared) (u:Value),BindsTo s fd ⟨[u],[]⟩ [("_law_script",u)])/\∀base:Heap,(K w.params).In base->base.Ns mainGlobals mg->tW mg base->be l.prog w (K w.params) mg base br 14 fa fd ["_law_script"] (Ag (K w.params) Pt)):
  PySem.W.WalkO q qZ XP YP l.row.toRowW d [] (fun f vs=>PySem.call f vs):=
 Db (n:=63) (k:=14) (x:="_law_script") (ts:=[Pt]) (K:=K) (CX:=fun _=>br) (sp:=fun w=>(Ag (K w.params) Pt)) hn (by decide) M9 ⟨rfl,by decide,by decide,rfl⟩ hY hT
  (fun w P=>fun e=>by rw[cX.mp e];exact Qi (Vz w)) (fun w P=>fun e=>by rw[cX.mp e];exact VA w) F
  (fun w H a ns hl hO hS=>⟨a,ns,rfl,LR hO hS,hl,.inl (hO.1 _ (by simp)),fun _=>rfl⟩) fun _ _ _ _ _ z=>z
end pV
open PySem PySem.W PyProof.Rows
namespace PySem.W.Fast
def tw7828006532271976722:=trivial
def tw14742941267762763687:=trivial
def tw5440568192282506102:=trivial
def tw6447019854445927297:=trivial
def tw2814576308481352628:=trivial
def tw18269683322633171582:=trivial
def tw12529271355304344346:=trivial
def tw1518041297315751623:=trivial
def tw12371737345487454188:=trivial
def tw16286832953500757779:=trivial
def tw3955889546200553071:=trivial
def tw8354463237796834420:=trivial
def tw15898242858223049035:=trivial
def tw1974002097897428000:=trivial
def tw17139290429688104019:=trivial
def tw6087864164042977422:=trivial
def tw10526454866952213342:=trivial
def tw16890290614616932689:=trivial
def tw14461505392559743451:=trivial
def tw9567035251674025322:=trivial
def tw6721648215494073221:=trivial
def tw12296637932273906110:=trivial
def tw16033283305114731858:=trivial
def tw13101544422325563233:=trivial
def tw13171292860511551828:=trivial
def tw12711693352810171586:=trivial
def tw932772007298853528:=trivial
def tw1136809153248790728:=trivial
def tw178754453145454911:=trivial
def tw6773191493585000069:=trivial
def tw9271429841267548027:=trivial
def tw5750956718818572854:=trivial
def tw11461441918177416920:=trivial
def tw15902896640015784504:=trivial
def tw8544824813881825157:=trivial
def tw12012271411931114221:=trivial
def tw13288290741773476630:=trivial
def tw16780864806362345523:=trivial
def tw15325438743953657571:=trivial
def tw10152305509712536157:=trivial
def tw9934988613887457629:=trivial
def tw9565535354973507479:=trivial
def tw4594920003756525718:=trivial
def tw3352213005041085960:=trivial
def tw6192308047715947488:=trivial
def tw5729732375880206001:=trivial
def tw8680551329216002855:=trivial
def tw9808680373081605609:=trivial
def tw13187524789191491275:=trivial
def tw12575436031135431605:=trivial
def tw11149336655535602581:=trivial
def tw2718000607687001854:=trivial
def tw14605147357376247956:=trivial
def tw11557182598080158658:=trivial
def tw17937723266363413338:=trivial
def tw12620763241324753169:=trivial
def tw13363123597244689013:=trivial
def tw4935464993953697212:=trivial
def tw7506384059136980962:=trivial
def tw2881159559276321184:=trivial
def tw13305269846744233732:=trivial
def tw7442089993048853152:=trivial
def tw5753469210601607925:=trivial
def tw2759166359430157041:=trivial
def tw12055917019288555243:=trivial
def tw7805073105036606442:=trivial
def tw294502358194362997:=trivial
def tw1260529750127087351:=trivial
def tw3564901058136759910:=trivial
def tw1059217763209255920:=trivial
def tw2315942667778988548:=trivial
def tw8934126934618592987:=trivial
def tw9879168501215043626:=trivial
def tw9888029116604536064:=trivial
def tw14932626885065835770:=trivial
def tw16698412936081108197:=trivial
def tw7959253271656261405:=trivial
def tw6383199966184009079:=trivial
def tw14838703478273726844:=trivial
def tw8530999093568103295:=trivial
def tw13411562011894220634:=trivial
def tw9120402602477334144:=trivial
def tw2491848150906177794:=trivial
def tw9012041230105211943:=trivial
def tw15965207319827220029:=trivial
def tw6516003748478440792:=trivial
def tw16195492972797435158:=trivial
def tw14551401016139589127:=trivial
def tw887875121246038012:=trivial
def tw6390300535491860397:=trivial
def tw2658602049223783554:=trivial
def tw15198338807773609075:=trivial
def tw5347495066458758444:=trivial
def tw4108142802100137930:=trivial
def tw11692154086995472140:=trivial
def tw8095445763261780636:=trivial
def tw16991820623632663779:=trivial
def tw874562838705980363:=trivial
def tw12818962620221632373:=trivial
def tw2676923375125690652:=trivial
def tw17554201600989277766:=trivial
def tw15301788280880345524:=trivial
def tw12334833283431784822:=trivial
def tw4480031594216150368:=trivial
def tw18218706722082344888:=trivial
def tw16530536835508164569:=trivial
def tw8707234141660043956:=trivial
def tw15103042075742981553:=trivial
def tw8958621289602714769:=trivial
def tw15705265504587242241:=trivial
def tw9741996360272395612:=trivial
def tw16548864785131874656:=trivial
def tw10282514522396394943:=trivial
def tw1531656455260584426:=trivial
def tw13766415266837794479:=trivial
def tw11032127101623084130:=trivial
def tw10244852248708792765:=trivial
def tw11270917095819756318:=trivial
def tw200125270783959734:=trivial
def tw17396227490090332593:=trivial
def tw7747421720781406315:=trivial
def tw9285827150228569051:=trivial
def tw13798832906316474243:=trivial
def tw2350753678415719448:=trivial
def tw9334576184202638493:=trivial
def tw8701549325386306614:=trivial
def tw7791547934789722777:=trivial
def tw18059251066786946136:=trivial
def tw12381117336039691810:=trivial
def tw7255437335518685465:=trivial
def tw11334831122711497309:=trivial
def tw6270491798615677589:=trivial
def tw16163890754415864711:=trivial
def tw9432721442895641764:=trivial
def tw13540774674409634362:=trivial
def tw10199909149987618994:=trivial
def tw8976381028959267826:=trivial
def tw7521739328297923581:=trivial
def tw4039433709950099958:=trivial
def tw8834352223141899028:=trivial
def tw15324127887007681820:=trivial
def tw10734416492174967572:=trivial
def tw3229803399933332186:=trivial
def tw12406417664219219457:=trivial
def tw8983482846738654791:=trivial
def tw18343337518954441129:=trivial
def tw2556515395912883113:=trivial
def tw16691712615670907680:=trivial
def tw13497287924438750036:=trivial
def tw8422064787106977144:=trivial
def tw9742908951939884478:=trivial
def tw10765603468799395011:=trivial
def tw8099779585294824577:=trivial
def tw11821367773667916922:=trivial
def tw8727786386527226667:=trivial
def tw6219600839352737461:=trivial
def tw1535897361113798904:=trivial
def tw16543399824753537006:=trivial
def tw11911458884099662201:=trivial
def tw10967792976335138620:=trivial
def tw1182186374702630230:=trivial
def tw6269338276767876392:=trivial
def tw2133022759758526831:=trivial
def tw17391022420381331745:=trivial
def tw11682138332942762831:=trivial
def tw8562920513315013587:=trivial
def tw8065832280508682993:=trivial
def tw11312494101060208765:=trivial
def tw4920360663454183353:=trivial
def tw4512177950673929331:=trivial
def tw11327623933230051070:=trivial
def tw8338954789478915134:=trivial
def tw4084386441211252011:=trivial
def tw10462225393994012897:=trivial
def tw9100917383648700393:=trivial
def tw5584693150918634683:=trivial
def tw9810932526825935276:=trivial
def tw8720723451952796242:=trivial
def tw9219480313183648901:=trivial
def tw16592763508988449401:=trivial
def tw13155042090982826556:=trivial
def tw14585683861227013775:=trivial
def tw13961397955255744331:=trivial
def tw7936292127209757955:=trivial
def tw10556131171970238021:=trivial
def tw7863213342687333114:=trivial
def tw12814066703399084813:=trivial
def tw7233440630034678287:=trivial
def tw3173185045211614722:=trivial
def tw8581941605666629897:=trivial
def tw11463817526168202539:=trivial
def tw577782198803405939:=trivial
def tw1609713446412326688:=trivial
def tw7804755570927372093:=trivial
def tw444792842045413545:=trivial
def tw11486993758753751422:=trivial
def tw14306517766242930978:=trivial
def tw14210388426345759748:=trivial
def tw2973196271301470133:=trivial
def tw3413879146139992903:=trivial
def tw5848600446428612134:=trivial
def tw12782959508187711771:=trivial
def tw441580750794558977:=trivial
def tw1090532993167830950:=trivial
def tw2886167648241752935:=trivial
def tw7489670183415293085:=trivial
def tw11483170281023890239:=trivial
def tw10712605423992816663:=trivial
def tw4329657060225068978:=trivial
def tw4372158976068566339:=trivial
def tw10567148022088551824:=trivial
def tw3765182950837804167:=trivial
def tw7658179107095035766:=trivial
def tw15795323754400286145:=trivial
def tw369808532386312901:=trivial
def tw1592064621323919002:=trivial
def tw9952703759265036134:=trivial
def tw7983334093200324129:=trivial
def tw2202713800748356191:=trivial
def tw17155297554329010440:=trivial
def tw13440956277901887740:=trivial
def tw10822884083122589701:=trivial
def tw10852035527500366668:=trivial
def tw12519110170193575037:=trivial
def tw9975368332700390855:=trivial
def tw9799955184967027567:=trivial
def tw14435290108955037413:=trivial
def tw8843638200879689982:=trivial
def tw14757688112772364449:=trivial
def tw4013034158442722683:=trivial
def tw17530064722269770015:=trivial
def tw13592973037850718555:=trivial
def tw993123827860187379:=trivial
def tw10606821694404146859:=trivial
def tw3388642473480473251:=trivial
def tw14396468706511884059:=trivial
def tw10026997393909505512:=trivial
def tw18329658853879533397:=trivial
def tw15390743855477010000:=trivial
def tw13602437236153582051:=trivial
def tw9191576390103768239:=trivial
def tw17092308912220540074:=trivial
def tw12642456039820254455:=trivial
def tw7202335170167601194:=trivial
def tw61923199319631282:=trivial
def tw9767495060738788029:=trivial
def tw6285466706268568426:=trivial
def tw17421264429574596284:=trivial
def tw15894957241401659117:=trivial
def tw2129923997876932078:=trivial
def tw2882267299617326744:=trivial
def tw6381620912435071940:=trivial
def tw14686439993219359040:=trivial
def tw14132426740977393053:=trivial
def tw12575482055744708027:=trivial
def tw8318548035415568922:=trivial
def tw3688386585303102760:=trivial
def tw15887837509951238823:=trivial
def tw11437480431859666556:=trivial
def tw9521719431448145703:=trivial
def tw16542974298805930306:=trivial
def tw1022898818251336307:=trivial
def tw205305078019435530:=trivial
def tw15653526066018089696:=trivial
def tw14702305710764374650:=trivial
def tw4048798297150344162:=trivial
def tw763063572084502887:=trivial
def tw6060213271855867091:=trivial
def tw9979566632168933773:=trivial
def tw5478459886651415951:=trivial
def tw2664774732828088908:=trivial
def tw5752885950264526473:=trivial
def tw9309736760707735114:=trivial
def tw16618439376834381081:=trivial
def tw8987969749442417224:=trivial
def tw16003516711775312623:=trivial
def tw9734281200189120125:=trivial
def tw7593629536661992832:=trivial
def tw11585040636719253066:=trivial
def tw13164185330941139829:=trivial
def tw11906453504578700029:=trivial
def tw8785250795512281506:=trivial
def tw10043773980014525167:=trivial
def tw7451732528210942182:=trivial
def tw10451659238420642860:=trivial
def tw12404009493521910267:=trivial
def tw7786857665926082102:=trivial
def tw817860127002727266:=trivial
def tw6665639446188307543:=trivial
def tw2098912745543305335:=trivial
def tw3483702325247818682:=trivial
def tw14597531696907311629:=trivial
def tw17698393847906062793:=trivial
def tw8655719366975652032:=trivial
def tw662539319663028838:=trivial
def tw16985995557873180899:=trivial
def tw14334495062497040210:=trivial
def tw6224702352541318250:=trivial
def tw16212575487336048952:=trivial
def tw9313304114364590132:=trivial
def tw8076850064121879691:=trivial
def tw18381180570613827172:=trivial
def tw5275184408302787953:=trivial
def tw14327554064523514352:=trivial
def tw7296477497233641368:=trivial
def tw13324961782255963891:=trivial
def tw6446439018961259566:=trivial
def tw15039650199080682697:=trivial
def tw5157063039433825782:=trivial
def tw7968108996807722455:=trivial
def tw3026135920143158393:=trivial
def tw8417329590982968033:=trivial
def tw11241506586338109073:=trivial
def tw10471323617501046781:=trivial
def tw5311436570041708279:=trivial
def tw1479888553917088070:=trivial
def tw15064693373018430423:=trivial
def tw6556722516243006997:=trivial
def tw16019919475955318051:=trivial
def tw7387598172314114690:=trivial
def tw5987884661961154341:=trivial
def tw11173574409006795171:=trivial
def tw1997298108815852343:=trivial
def tw4297434662806661163:=trivial
def tw3820737116987493897:=trivial
def tw8687443070070939860:=trivial
def tw17572939724223929547:=trivial
def tw1322816196354169061:=trivial
def tw16612452440188956428:=trivial
def tw3105482881412191804:=trivial
def tw12157521883629276009:=trivial
def tw13442870087616476668:=trivial
def tw9341764561139404860:=trivial
def tw7120562902671497084:=trivial
def tw1553403679370669890:=trivial
def tw11530010609328470722:=trivial
def tw1168756524535565456:=trivial
def tw610068841283041991:=trivial
def tw7664465652913622622:=trivial
def tw17395777706138774345:=trivial
def tw17582590085037508723:=trivial
def tw12407666335621685563:=trivial
def tw11651883468886961666:=trivial
def tw14675106209352352346:=trivial
def tw16166187186390705559:=trivial
def tw4141733173140230312:=trivial
def tw14465232101515488745:=trivial
def tw8041427327415412315:=trivial
def tw5392892537921506580:=trivial
def tw761594706555679347:=trivial
def tw15237545032206050166:=trivial
def tw2177302564248095867:=trivial
def tw12076718001847022636:=trivial
def tw5264143127176390732:=trivial
def tw2923321064688942051:=trivial
def tw13990489419581527477:=trivial
def tw17130295090955441751:=trivial
def tw9184466640002235222:=trivial
def tw15427676122994868838:=trivial
def tw7171139082929338978:=trivial
def tw7826947114840416811:=trivial
def tw13654506597812973620:=trivial
def tw9126646956756127731:=trivial
def tw1942756527792570341:=trivial
def tw916903449040220418:=trivial
def tw2936456735636254788:=trivial
def tw9682479209324634379:=trivial
def tw17930876431784773776:=trivial
def tw8550343195304005474:=trivial
def tw6535423852791001646:=trivial
def tw1041015746130067889:=trivial
def tw15137857053954161728:=trivial
def tw15728303460320757774:=trivial
def tw4749096794116417552:=trivial
def tw14608639673440951842:=trivial
def tw17749105506480110736:=trivial
def tw14761163212946916548:=trivial
def tw6062266981580419528:=trivial
def tw9781098382534106777:=trivial
def tw17249820106610296226:=trivial
def tw16725632325711091933:=trivial
def tw11262290396088879971:=trivial
def tw16064876695417951630:=trivial
def tw6622165615171970668:=trivial
def tw1343286758599364223:=trivial
def tw13106593208512303052:=trivial
def tw1309561275298962425:=trivial
def tw14759508785313438738:=trivial
def tw9062074744148677598:=trivial
def tw7964899521802363035:=trivial
def tw12451971670189128318:=trivial
def tw3582315499541912215:=trivial
def tw18044906038255047051:=trivial
def tw15305800600101105724:=trivial
def tw2452921280448479799:=trivial
def tw6484738094389087690:=trivial
def tw2509058448732643111:=trivial
def tw2897373634539223530:=trivial
def tw4813846071080799615:=trivial
def tw13865746689802195108:=trivial
def tw15354431365209528732:=trivial
def tw7549777152979314603:=trivial
def tw1069168474724983256:=trivial
def tw13121594901791993270:=trivial
def tw1833144203198164822:=trivial
def tw11664827207387709679:=trivial
def tw12698149381709941128:=trivial
def tw15057685594169404218:=trivial
def tw5044490765101352048:=trivial
def tw10750276557245239584:=trivial
def tw10193698094238266708:=trivial
def tw10054229004565060865:=trivial
def tw9955882931290976284:=trivial
def tw2967555058286367507:=trivial
def tw1884511168135842229:=trivial
def tw11820922261622551274:=trivial
def tw89327960809915731:=trivial
def tw1385165705383115757:=trivial
def tw15074328510849919043:=trivial
def tw4378909530253117348:=trivial
def tw15710839769231004746:=trivial
def tw11803022588596552197:=trivial
def tw15146949130816857896:=trivial
def tw9047174953405171999:=trivial
def tw18049018373299561709:=trivial
def tw12851401627926180455:=trivial
def tw12702380632295924742:=trivial
def tw7239539979184162577:=trivial
def tw10516439391668586867:=trivial
def tw10531336473892743115:=trivial
def tw5642727723753432012:=trivial
def tw11175977051931827573:=trivial
def tw9199932219618041747:=trivial
def tw9115173118848868546:=trivial
def tw13030585719004716590:=trivial
def tw2987949453488608918:=trivial
def tw16745349565733485630:=trivial
def tw18143195141498299297:=trivial
def tw12254336649396082419:=trivial
def tw1870822412167004667:=trivial
def tw1199803800740418771:=trivial
def tw11723133013582779473:=trivial
def tw16774715663119660134:=trivial
def tw17539010257273021009:=trivial
def tw8695908034857767954:=trivial
def tw10067002347979159522:=trivial
def tw6773947825380046:=trivial
def tw5761641535894483191:=trivial
def tw10061969688665139051:=trivial
def tw14651690109776900596:=trivial
def tw10996784427792875771:=trivial
def tw6891847079743850980:=trivial
def tw9329154215417539314:=trivial
def tw3987697443670728250:=trivial
def tw11001764089847684366:=trivial
def tw12059992212532100108:=trivial
def tw6659159724221775508:=trivial
def tw9509467315359021397:=trivial
def tw16149049001349761655:=trivial
def tw7369972920710579001:=trivial
def tw18380967376310369631:=trivial
def tw12452926486320185719:=trivial
def tw6787052889234651179:=trivial
def tw542609448014940475:=trivial
def tw1670017525094991438:=trivial
def tw7081101551329644842:=trivial
def tw5632546750072684469:=trivial
def tw14960734498049771008:=trivial
def tw11578389500008237964:=trivial
def tw2755541928142006794:=trivial
def tw8292034512713718772:=trivial
def tw2604047660617342170:=trivial
def tw16675960860704171949:=trivial
def tw14825917649892130113:=trivial
def tw4672688217312440693:=trivial
def tw2711122312077959839:=trivial
def tw3243488979403939402:=trivial
def tw17344894421135081846:=trivial
def tw8317583631677431653:=trivial
def tw15550512399535657486:=trivial
def tw852936949638610865:=trivial
def tw10520689721096427516:=trivial
def tw2415418135993468733:=trivial
def tw2455171265810389600:=trivial
def tw7323977675506582497:=trivial
def tw13368118317268607551:=trivial
def tw4379103818696730018:=trivial
def tw10657822637231333011:=trivial
def tw13842208042023512290:=trivial
def tw12811339603904894521:=trivial
def tw17775945111770802677:=trivial
def tw8220824681413266237:=trivial
def tw5205528965292506518:=trivial
def tw17077913193851850953:=trivial
def tw11865246385114762947:=trivial
def tw10157013888737604946:=trivial
def tw12744158117103365133:=trivial
def tw10831436957565020635:=trivial
def tw2111582827101040473:=trivial
def tw2316905231777530377:=trivial
def tw1840380012933654794:=trivial
def tw3838108583379355562:=trivial
def tw3748416033711699345:=trivial
def tw1938493710933111730:=trivial
def tw10950275632957291376:=trivial
def tw4041473805964400879:=trivial
def tw2815064712794819171:=trivial
def tw5035023982573488676:=trivial
def tw8877092105972171034:=trivial
def tw16655302549611225314:=trivial
def tw7210953149964570127:=trivial
def tw888423752139223073:=trivial
def tw7338558694789311083:=trivial
def tw13020306912220351119:=trivial
def tw15175842376216760361:=trivial
def tw3672264824867193531:=trivial
def tw17766540267261374386:=trivial
def tw5758517556787093409:=trivial
def tw1632948493095893633:=trivial
def tw2820782856350419886:=trivial
def tw4182054613804332743:=trivial
def tw3605689186256153698:=trivial
def tw975553091756772967:=trivial
def tw13737270710628169632:=trivial
def tw4856474832760111119:=trivial
def tw16474954818617565537:=trivial
end PySem.W.Fast
set_option maxRecDepth 100000 in
set_option maxHeartbeats 0 in
theorem PySem.Challenge.cw_neverwait_k41_places_holds : PySem.Challenge.rw_neverwait_k41_places.Holds := by
 w_on; o_law; k_head; (case hw=>w_witness2)
 k_fill
 refine pV.walk (l:=PySem.Challenge.rw_neverwait_k41_places) (Pt:=_) rfl rfl (fun w h Y=>PySem.W.km_in_of Y) (fun w h Y=>PySem.W.km_tabs_of Y) ?cd0 ?kt0 ?F;case F =>
  intro w mg fa h KX G M_;refine' pV.Lo (Pt:=_) KX G M_ ?_ ?_ ?_ ?_ ?_ ?_ ?_ ?_ ?_ ?_ ?_ ?_ ?_ ?_ ?_ ?_ ?_ ?_ ?_ ?_ ?_ ?_ ?_ ?_ ?_ ?_ ?_ ?_ ?_ ?_ ?_ ?_ ?_ ?_ ?_ ?_ ?_ ?_ ?_ ?_ ?_ ?_ ?_ ?_ ?_ ?_ ?_ ?_ ?_ ?_ ?_ ?_ ?_ ?_ ?_ ?_ ?_ ?_ ?_ ?_ ?_ ?_ ?_ ?_ ?_ ?_ ?_ ?_ ?_ ?_ ?_ ?_ ?_ ?_ ?_ ?_ ?_ ?_ ?_ ?_ ?_ ?_ ?_ ?_ ?_ ?_ ?_ ?_ ?_ ?_ ?_ ?_ ?_ ?_ ?_ ?_ ?_ ?_ ?_ ?_ ?_ ?_ ?_ ?_ ?_ ?_ ?_ ?_ ?_ ?_ ?_ ?_ ?_ ?_;all_goals first
   | (refine' pV.FD.mk ?a ?l ?d ?k; (case a=>k_is); (case l=>k_is); (case d=>k_is); (case k=>k_is))
   | (refine' pV.FC.mk ?a ?l ?d ?k; (case a=>k_is); (case l=>k_is); (case d=>k_is); (case k=>k_is))
   | (refine' pV.MD.mk ?a ?i ?l ?d ?k; (case a=>k_is); (case i=>k_is); (case l=>k_is); (case d=>k_is); (case k=>k_is))
   | (refine' pV.MC.mk ?a ?i ?l ?d ?k; (case a=>k_is); (case i=>k_is); (case l=>k_is); (case d=>k_is); (case k=>k_is))
   | k_is
   | kernel_rfl
   | decide
   | exact ⟨by kernel_rfl,by k_is,by k_is,by k_is,by k_is,by k_is,by k_is,by kernel_rfl⟩
   | skip
 case kt0=>intro w; kernel_rfl
 case cd0=>intro w; kernel_rfl
