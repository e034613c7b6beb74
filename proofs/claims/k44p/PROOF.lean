import PyProof.Rows.All
import Wide.All
import OpenK.AllK
import Wide.FinOn
import Lean
import PyProof.EqAt
import PyProof.EqKinds
import PyProof.TupleCall
import PySem.Challenge.RW_neverwait_k44_berthed_judged
set_option Elab.async false
set_option linter.all false
set_option maxRecDepth 100000
set_option maxHeartbeats 8000000
def aw:=@PySem.wpAny_bind
def cf:=@List.getD_eq_getElem?_getD
def bZ:=@List.getElem?_eq_getElem
def b_:=@List.mem_cons_of_mem
def cE:=@PySem.Heap.get?_push_of_some
def bp:=@List.length_map
def cg:=@List.mem_cons_self
def aK:=@PyProof.Rows.wpS_bind
def bS:=@Option.some.inj
def cM:=@Nat.lt_of_lt_of_le
def aO:=@Nat.le_refl
def am:=@if_pos
def ao:=@if_neg
def di:=@PyProof.Rows.boot_isinstance
def cV:=@List.getElem?_eq_some_iff
def bJ:=@Bool.false_ne_true
def aX:=@PySem.Heap.lt_size
def aZ:=@Nat.ne_of_lt
def bU:=@List.size_toArray
def bX:=@List.getElem?_map
def a_:=@List.mem_map
def cz:=@List.length_append
def bu:=@List.mem_cons
def aN:=@PyProof.Rows.wpS_pure
def bq:=@Nat.le_trans
def bH:=@decide_eq_true
def cY:=@List.mem_of_getElem?
def cW:=@PySem.Heap.get?_push_size
def cN:=@List.append_assoc
def cP:=@List.mem_append
def dC:=@Array.toList_append
def du:=@PySem.W.mg_none_of
def cp:=@PySem.W.mg_of
def cG:=@PySem.boot_len
def cZ:=@List.length_cons
def dD:=@List.mem_singleton
def cX:=@List.mem_range
def dM:=@Nat.lt_succ_of_lt
def cQ:=@getElem?_pos
def dE:=@decide_eq_false
def dF:=@List.map_append
def dG:=@PySem.PassesOwn.never
def d7:=@List.getElem_mem
def fc:=@of_decide_eq_true
def d8:=@List.nodup_cons
def ip:=@PySem.F.type_list_append
def iq:=@PySem.F.slot_list_append
def cR:=@Nat.zero_le
def ir:=@PySem.F.plainAttrs_list
def ff:=@List.lookup_cons
def eL:=@List.mem_filter
def gh:=@PySem.mem_of_lookup
def dv:=@Int.zero_add
def fF:=@List.filter_cons
def gi:=@Nat.lt_of_le_of_lt
def kG:=@Array.perm_iff_toList_perm
def iu:=@List.perm_append_comm
def iw:=@List.mem_append_right
def d9:=@Int.ofNat.inj
def ix:=@List.mem_append_left
def gj:=@Bool.and_eq_true
def ie:=@List.take_add_one
def mB:=@List.getElem?_append_left
def iy:=@List.filter_append
def ig:=@PySem.Heap.get?_push_ne
def d_:=@PyProof.Rows.wpS_forRange
def gm:=@PySem.W.kia_one
def ii:=@List.all_eq_true
def ci:=@Ne.symm
def mC:=@decide_eq_false_iff_not
def mD:=@PyProof.Rows.boot_tuple
def qh:=@PyProof.Rows.slot_tuple_getitem
def iz:=@PySem.wpAny_newObj_type
def mE:=@List.length_filter_le
def mF:=@List.Perm.append_left
def gn:=@Nat.lt_irrefl
def gq:=@List.map_cons
def iA:=@Nat.div_add_mod
def fg:=@PySem.wpAny_field
def jA:=@List.take_length
def og:=@Nat.div_div_eq_div_mul
def qi:=@List.nodup_iff_pairwise_ne
def kH:=@List.length_range
def oh:=@List.getElem?_set_self
def jB:=@PySem.Heap.size_update
def mG:=@List.map_congr_left
def jC:=@Nat.not_lt_zero
def oj:=@List.length_replicate
def om:=@List.getElem?_eq_none
def fG:=@beq_iff_eq
def mH:=@PySem.F.called_set
def kI:=@List.length_take
def qj:=@Nat.lt_succ_iff_lt_or_eq
def ij:=@List.map_map
def on:=@List.mem_of_mem_take
def mI:=@List.pairwise_map
def mJ:=@Bool.not_eq_true'
def mK:=@Bool.eq_false_iff
def iB:=@PySem.wpAny_holding
def kJ:=@List.range_succ
def gK:=@Bool.eq_iff_iff
def jO:=@beq_eq_false_iff_ne
def jP:=@Array.length_toList
def lw:=@PySem.wpAny_callSpecial?_slot
def iC:=@Nat.mod_eq_of_lt
def iD:=@List.not_mem_nil
def jQ:=@decide_eq_true_iff
def gN:=@List.nodup_nil
def jR:=@List.mem_filterMap
def oo:=@List.getElem?_append_right
def gO:=@Array.size_map
def oq:=@Array.getElem?_eq_some_iff
def lx:=@List.take_append_drop
def jS:=@PySem.wpAny_Call_Name_kw
def lA:=@List.getElem?_set_ne
def cU:=@PyProof.Rows.wpS_mono
def ot:=@List.getElem?_take_of_lt
def lB:=@Nat.mul_le_mul_left
def jT:=@PySem.wpAny_truthy_bool
def jU:=@Nat.lt_succ_self
def gP:=@Nat.le_of_lt
def lC:=@Int.emod_lt_of_pos
def lD:=@Bool.false_eq_true
def jV:=@PySem.wpAny_call_entry
def iE:=@PySem.Heap.size_push
def ou:=@Array.getElem?_toList
def eU:=@PyProof.Rows.wpS_modify
def lE:=@decide_eq_true_eq
def lF:=@Array.toList_push
def re:=@Array.getD_eq_getD_getElem?
def ow:=@PySem.Heap.get?_update_other
def jW:=@PySem.wpAny_passesOwn
def oy:=@List.mem_of_mem_drop
def rf:=@Int.fdiv_eq_ediv_of_nonneg
def oz:=@PySem.Heap.get?_update_self
def rh:=@Classical.byContradiction
def vp:=@PyProof.Rows.F.plain_set_update_loop
def f9:=@PySem.wpAny_rule
def f_:=@PySem.wpAny_mono
def gQ:=@PySem.sizeLine_eq
def jX:=@List.any_cons
def lG:=@ne_of_beq_false
def lH:=@List.of_mem_zip
def lI:=@Int.emod_nonneg
def iF:=@PySem.codeAny_mono
def oA:=@PySem.W.callWith_K
def iG:=@List.map_id
def oB:=@PySem.Heap.get?_update_ne
def rj:=@PyProof.Rows.boot_list
def jY:=@Nat.ne_of_gt
def rn:=@Nat.lt_of_succ_lt_succ
def rp:=@List.range_succ_eq_map
def rq:=@Array.toList_filterMap
def oC:=@PySem.Obj.data_mapFields
def rA:=@PyProof.Rows.boot_max
def iH:=@Nat.mod_lt
def lJ:=@not_false_iff
def lK:=@List.cons.inj
def oF:=@PySem.wpAny_loadPart_at
def rB:=@List.mem_iff_getElem
def oG:=@List.append_nil
def rC:=@PySem.W.hideAll_get
def vq:=@PyProof.Rows.callWith_type1
def lL:=@PySem.wpAny_standAt
def gR:=@if_false
def vt:=@PySem.F.excBase_ValueError
def gT:=@Prod.ext
def vw:=@Int.fmod_eq_emod_of_nonneg
def rD:=@PySem.Heap.get?_none_of_le
def oH:=@PySem.wpAny_execs_nil
def oI:=@PySem.codeAny_builtin
def vx:=@List.drop_eq_getElem_cons
def vy:=@Array.getElem?_eq_getElem
def lM:=@Nat.mul_pos
def lN:=@Nat.mul_one
def lO:=@Nat.div_one
def vz:=@PySem.F.args_tuple_add_2
def vA:=@Option.isSome_iff_exists
def oJ:=@PySem.wpAny_setField
def vB:=@PySem.F.entry_tuple_add
def vC:=@Nat.le_mul_of_pos_right
def vD:=@List.getElem?_replicate
def vE:=@PySem.Calls.Name_function_global
def rE:=@Array.toList_map
def vF:=@PySem.W.cellsFrom_some
def vG:=@PySem.F.slot_tuple_add
def vH:=@PyProof.Rows.boot_bool
def vI:=@List.filter_eq_nil_iff
def vJ:=@List.Perm.append_right
def rF:=@PySem.wpAny_setState_of
def rG:=@List.foldl_cons
def rH:=@List.Perm.of_eq
def vK:=@PySem.wpAny_comprehension_free
def vL:=@PyProof.Rows.boot_min
def vM:=@PyProof.Rows.boot_int
def fH:=@PyProof.Rows.wpS_get
def jZ:=@and_true
def oK:=@Nat.mul_add
def vO:=@Nat.div_lt_of_lt_mul
def vP:=@Bool.and_eq_true_iff
def vQ:=@Array.toList_reverse
def vR:=@Array.toList_extract
def j3:=@PyProof.Rows.size_push'
def lP:=@PySem.wpAny_call
def lQ:=@PySem.wpAny_Name
def vS:=@PySem.W.plainGet_of
def AU:=@PyProof.Rows.F.entry_set_update_loop
def vT:=@List.length_pos_iff
def vU:=@List.filter_sublist
def vV:=@List.filterMap_cons
def rJ:=@Nat.mul_assoc
def rK:=@List.all_cons
def rL:=@Bool.not_true
def vW:=@PySem.Obj.isFreed_of_fields
def vX:=@Nat.eq_zero_or_pos
def vY:=@List.find?_eq_none
def vZ:=@PySem.wpAny_loadName_local
def v6:=@PySem.codeAny_call_builtin
def rM:=@Nat.succ_pos
def rN:=@Nat.succ.inj
def rO:=@Nat.le_of_eq
def v7:=@List.reverse_perm
def v8:=@List.nodup_append
def v_:=@List.ext_getElem?
def wa:=@List.any_eq_false
def wb:=@Int.toNat_natCast
def wc:=@Decidable.not_not
def wd:=@PySem.Around.under_plainId
def we:=@PySem.wpAny_loadName_free
def wf:=@Nat.div_eq_of_lt
def wg:=@List.nodup_range
def wj:=@List.mem_flatMap
def wm:=@List.countP_cons
def wn:=@List.any_eq_true
def rP:=@Nat.one_mul
def AV:=@List.eq_nil_of_length_eq_zero
def AW:=@Int.mul_le_mul_of_nonneg_left
def wq:=@PySem.wpAny_pyIter_tuple
def wr:=@List.length_set
def wu:=@List.length_nil
def AX:=@PySem.F.typeOf_object_class
def wv:=@PySem.wpAny_pyIter_list
def ww:=@PySem.Obj.cls_mapFields
def AY:=@Nat.mul_lt_mul_of_pos_left
def wz:=@Nat.mul_le_mul
def wA:=@List.drop_zero
def AZ:=@Array.toList_setIfInBounds
def j4:=@PyProof.Rows.wpS_lift
def A0:=@Nat.add_mul_mod_self_left
def A_:=@List.getElem?_eq_none_iff
def wB:=@PySem.wpAny_eqBool_int
def wC:=@PySem.noFill_tuple_add
def Ba:=@PyProof.Rows.boot_sorted
def Bb:=@List.length_erase_of_mem
def Bc:=@List.filterMap_cons_some
def wD:=@Bool.and_true
namespace L2
open PySem PySem.Spec PyProof.Rows
def HZ(h:Heap)(e:Addr)(cls:Value)(tb:Value):Prop:=∃o vs,h.get? e=some o/\o.cls=cls/\o.data=.fields vs/\vs[1]?=some tb/\vs[2]?=some .none
def Ls(h:Heap)(T:Addr)(fl:Value):Prop:=∃o vs,h.get? T=some o/\o.data=.fields vs/\vs[3]?=some fl
structure qk(B:Heap)(l:List Env)(e:Addr)(cls fl:Value)(h:Heap):Prop where
 stays:B.StaysIn h
 new:B.get? e=none
 frames:h.FunFrames B l
 rc:∃T,HZ h e cls (.ref T)/\B.get? T=none/\T≠e/\Ls h T fl
abbrev tX(B:Heap)(l:List Env)(e:Addr)(cls:Value)(h:Heap):Prop:=qk B l e cls .none h
theorem qk.there{B h:Heap}{l:List Env}{e:Addr}{cls fl:Value}(x:qk B l e cls fl h):∃o vs,h.get? e=some o/\o.cls=cls/\o.data=.fields vs/\vs[2]?=some .none:=by
 obtain⟨_,⟨o,vs,a,b,c,_,d⟩,_⟩:=x.rc;exact⟨o,vs,a,b,c,d⟩
section
variable {M:Model} {A:Around} {E:Value->Shared->Prop} {s:Shared} {B:Heap} {l outer:List Env} {env:Env} {e L:Addr} {cls:Value}
theorem rQ{h:Heap}{T:Addr}{o:Obj}{vs:Array Value}{f:Array Value->Array Value}(hT:h.get? T=some o)(hd:o.data=.fields vs):
  (∀b,b≠T->(h.update T (Obj.mapFields f)).get? b=h.get? b)/\(h.update T (Obj.mapFields f)).get? T=some (Obj.mapFields f o)/\(Obj.mapFields f o).data=.fields (f vs)/\(Obj.mapFields f o).cls=o.cls/\h.UpToSlots (h.update T (Obj.mapFields f)):=by
 have o1:∀b,b≠T->(h.update T (Obj.mapFields f)).get? b=h.get? b:=fun b n=>ow _ _ (ci n);refine⟨o1,oz _ hT (vW (oC hd _)),oC hd _,ww _ _,fun b u q nf=>⟨u.slots,?_⟩⟩;by_cases c:b=T
 .subst c;rw[hT] at q;cases q;exact absurd hd (nf vs)
 .rw[o1 b c];exact q
theorem jh{h h':Heap}(F:h.FunFrames B l)(u:h.UpToSlots h'):h'.FunFrames B l:=F.of_keeps fun b o q nf=>let ⟨sl,z⟩:=u b o q nf;⟨_,z,rfl⟩
theorem fS{fl:Value}{Q:Unit->Shared->Prop}(x:qk B l e cls fl s.heap)(q:∀h',tX B l e cls h'->s.heap.UpToSlots h'->Q () { s with heap:=h' }):wpAny M A (setFlight (.ref e) none) Q E s:=by
 obtain⟨T,⟨o,vs,he,hc,hd,h1,h2⟩,nT,Te,oT,ts,hT,K4,h3⟩:=x.rc;have z3:3<ts.size:=(oq.mp h3).1;unfold setFlight;refine aw (fg he hd h1 ?_);rw[am (show (Value.ref T != Value.none)=true from by simp)];refine oJ hT K4 z3 ?_;obtain⟨p1,p2,p3,_,p5⟩:=rQ (f:=(·.setIfInBounds 3 ((none:Option Addr).elim Value.none fun f=>rawInt f))) hT K4;exact q _ ⟨fun b u z=>(p1 b fun c=>by rw[c,nT] at z;cases z).trans (x.stays b u z),x.new,jh x.frames p5,T,⟨o,vs,(p1 e (ci Te)).trans he,hc,hd,h1,h2⟩,nT,Te,_,_,p2,p3,by simp[z3]⟩ p5
theorem ql{o:Obj}{vs:Array Value}{Lu:Value}{EI:Bool}{Q:Unit->Shared->Prop}(Bd:A.frames=some (env::outer))(F:s.heap.FunFrames B (env::outer))(hf:env.frame=some L)(st:B.StaysIn s.heap)(nw:B.get? e=none)(he:s.heap.get? e=some o)(hd:o.data=.fields vs)(z1:1<vs.size)(h2:vs[2]?=some .none)(q:∀h',qk B (env::outer) e o.cls (rawInt L) h'->s.heap.UpToSlots h'->Q () { s with heap:=h' }):
  wpAny M A (do let a <- frameOf env;let pl <- entryPlaceOf L EI;let b <- EntryCells.newEntry Lu a .none (rawInt L) .none pl;setField (.ref e) 1 b) Q E s:=by
 have ne:e∉(env::outer).filterMap (·.frame):=fun m=>by
  obtain⟨_,u,hu,nf⟩:=F.mem m;rw[he] at hu;cases hu;exact nf vs hd
 refine aw (wpAny_frameOf_fun Bd F hf fun h1 so=>?_);refine aw (wpAny_entryPlaceOf fun pl mL=>?_);unfold EntryCells.newEntry newFields;refine aw (iz ?_ (mL.sizeOk5 _ _ _ _ _));have e1:h1.get? e=some o:=(so.2.1 e ne).trans he;have EJ:B.StaysIn h1:=fun b u z=>(so.2.1 b fun m=>by rw[(F.mem m).1] at z;cases z).trans (st b u z);have up1:s.heap.UpToSlots h1:=fun b u z _=>so.2.2 b u z;generalize Vi:({ cls:=.type "traceback",dict:=none,data:=.fields ([Lu,.ref L,.none,rawInt L,.none]++(if pl.isEmpty then List.replicate 6 Value.none else pl)).toArray }:Obj)=To;have e2:=cE (h:=h1) To e1;refine oJ e2 hd z1 ?_;obtain⟨p1,p2,p3,p4,p5⟩:=rQ (f:=(·.setIfInBounds 1 (Value.ref h1.objs.size))) e2 hd;have Te:h1.objs.size≠e:=jY (aX e1);have Vj:h1.UpToSlots (h1.push To):=Heap.UpToSlots.of_keeps fun b u z=>cE _ z;refine q _ ⟨fun b u z=>(p1 b fun c=>by rw[c,nw] at z;cases z).trans (cE _ (EJ b u z)),nw,jh F ((up1.trans Vj).trans p5),h1.objs.size,⟨_,_,p2,p4,p3,by simp[z1],by rw[Array.getElem?_setIfInBounds_ne (by decide)];exact h2⟩,?_,Te,To,_,(p1 _ Te).trans (cW h1 (by rw[<-Vi];rfl)),by rw[<-Vi],?_⟩ ((up1.trans Vj).trans p5)
 .cases z:B.get? h1.objs.size with
  |none=>rfl
  |some u=>exact absurd (aX (EJ _ u z)) (gn _)
 .first|(simp;done)|(rcases mL with rfl|⟨_,_,_,_,_,_,_,rfl⟩ <;> simp)
theorem xX{Q:Unit->Shared->Prop}(Bd:A.frames=some (env::outer))(hf:env.frame=some L)(x:tX B (env::outer) e cls s.heap)(q:∀h',qk B (env::outer) e cls (rawInt L) h'->s.heap.UpToSlots h'->Q () { s with heap:=h' }):wpAny M A (noteFrame (.ref e) env) Q E s:=by
 obtain⟨T,⟨o,vs,he,hc,hd,h1,h2⟩,nT,Te,oT,ts,hT,K4,h3⟩:=x.rc;subst hc;unfold noteFrame;simp only[hf];refine aw (fg he hd h1 ?_);rw[am (show (Value.ref T != Value.none)=true from by simp)];refine aw (fg hT K4 h3 ?_);rw[ao (show ¬ ((Value.none==rawInt L)=true) from by simp[rawInt])];refine aw (oJ hT K4 (oq.mp h3).1 ?_);obtain⟨p1,p2,p3,p4,p5⟩:=rQ (f:=(·.setIfInBounds 3 Value.none)) hT K4;exact ql Bd (jh x.frames p5) hf (fun b u z=>(p1 b fun c=>by rw[c,nT] at z;cases z).trans (x.stays b u z)) x.new ((p1 e (ci Te)).trans he) hd (oq.mp h1).1 h2 fun h' y u=>q h' y (p5.trans u)
theorem Be{Q:Unit->Shared->Prop}(Bd:A.frames=some (env::outer))(hf:env.frame=some L)(x:tX B (env::outer) e cls s.heap)(q:∀h',tX B outer e cls h'->s.heap.UpToSlots h'->Q () { s with heap:=h' }):wpAny M A (leaving env (.ref e)) Q E s:=by
 unfold leaving;refine aw (xX Bd hf x fun h1 y u=>?_);refine fS (s:={ s with heap:=h1 }) y fun h2 z v=>q h2 ⟨z.stays,z.new,z.frames.2.2,z.rc⟩ (u.trans v)
theorem wE{h:Heap}{args:List Value}{Q:Unit->Shared->Prop}(Bd:A.frames=some (env::outer))(hf:env.frame=some L)(st:B.StaysIn h)(F:h.FunFrames B (env::outer))(x:Heap.MadeExcOf h s.heap e cls args)(q:∀h',tX B outer e cls h'->s.heap.UpToSlots h'->Q () { s with heap:=h' }):wpAny M A (leaving env (.ref e)) Q E s:=by
 obtain⟨t,he,_,_⟩:=x.there;have nw:B.get? e=none:=by
  cases z:B.get? e with
  |none=>rfl
  |some u=>have:=st e u z;rw[x.new] at this;cases this
 unfold leaving noteFrame;simp only[hf];refine aw (aw (fg he rfl (x:=.none) rfl ?_));rw[ao (by decide)];refine ql Bd (jh F (Heap.UpToSlots.of_keeps x.keeps)) hf (fun b u z=>x.keeps b u (st b u z)) nw he rfl (by simp) rfl fun h1 y u=>?_;exact fS (s:={ s with heap:=h1 }) y fun h2 z v=>q h2 ⟨z.stays,z.new,z.frames.2.2,z.rc⟩ (u.trans v)
end
theorem pP:plainId "proto.unchain"=true:=by decide +kernel
theorem pQ:entryFor table "proto.unchain"=some Builtin.«proto.unchain»:=PySem.entryFor_of_fast (by kernel_rfl)
def tY(p:Addr)(h:Heap):Prop:=∃o vs,h.get? p=some o/\o.data=.fields vs/\vs[2]?=some .none
theorem Bg{α:Type}{prog:Program}{w:World}{A:Around}{Q:α->Shared->Prop}{E:Value->Shared->Prop}{s:Shared}{a p:Addr}{o:Obj}{vs:Array Value}(hh:A.handled=some (.ref p))(hp:tY p s.heap)(ne:p≠a)(ha:s.heap.get? a=some o)(hd:o.data=.fields vs)(z2:2<vs.size)(q:E (.ref a) { s with heap:=s.heap.update a (Obj.mapFields (·.setIfInBounds 2 (.ref p))) }):wpAny (model prog w) A (raiseNew (.ref a):Sem α) Q E s:=by
 obtain⟨op,ws,h1,h2,h3⟩:=hp;unfold raiseNew;refine aw (wpAny_handled ?_);rw[hh];dsimp only;rw[am (show (Value.ref p != Value.ref a)=true from by simp[ne])];refine aw (iB (wpAny_runValue (oI pQ ?_)));rw[wd pP _];show wpAny _ _ (field (.ref p) 2 >>= _) _ _ s;refine aw (fg h1 h2 h3 ?_);rw[am (by decide)];refine wpAny_pure ?_;show wpAny (model prog w) A (updateField a 2 (Value.ref p) >>= fun _=>throw (Value.ref a)) Q E s;unfold updateField;refine aw (aw (wpAny_load ha ?_));rw[hd];dsimp only;rw[am z2];exact wpAny_update (by rw[ha]) (wpAny_throw q)
theorem wF{prog:Program}{w:World}{A:Around}{E:Value->Shared->Prop}{s:Shared}{it p:Addr}{x left step:Int}{Q:Option Value->Shared->Prop}(hh:A.handled=some (.ref p))(hp:tY p s.heap)(qm:IsRangeIter s.heap it x left step)(hl:left<=0)(hQ:∀h',(∀b o,s.heap.get? b=some o->h'.get? b=some o)->Q none { s with heap:=h' }):wpAny (model prog w) A (pyNext (.ref it)) Q E s:=by
 have hT:s.TypeIs (.ref it) "range_iterator":=⟨_,qm,rfl⟩
 unfold pyNext;refine aw (wpAny_attempt (lw (name:=Str.ofString "__next__") hT F.slot_range_iterator_next
  (jV F.slot_range_iterator_next hT F.entry_range_iterator_next ?_ (F.args_range_iterator_next_1 _))))
 show wpAny _ _ (field (.ref it) 0 >>= _) _ _ s;refine aw (fg qm rfl (x:=rawInt x) rfl ?_);refine aw (fg qm rfl (x:=rawInt left) rfl ?_);refine aw (fg qm rfl (x:=rawInt step) rfl ?_);dsimp only[rawInt];rw[am hl];refine aw (f9 ?_);refine aw ?_;show wpAny _ _ (newExc (.type "StopIteration") [] >>= _) _ _ _;refine aw ?_;simp only[newExc,newTuple];refine aw (iz ?_ (by size_fits));refine aw (m:=firstArgMember _ _) (wpAny_of_eq (a:=Value.none) (by first|rfl|(simp only[firstArgMember];rfl)) ?_);refine iz ?_ (by size_fits);generalize ZT:({ cls:=.type "tuple",data:=.seq ([]:List Value).toArray }:Obj)=Tu;generalize Qi:({ cls:=.type "StopIteration",data:=.fields (#[Value.ref s.heap.objs.size,Value.none,Value.none,Value.none,Value.bool false,Value.none]++ownMembersOf (Value.type "StopIteration") []) }:Obj)=Ex;have Vk:Ex.data=.fields (#[Value.ref s.heap.objs.size,Value.none,Value.none,Value.none,Value.bool false,Value.none]++ownMembersOf (Value.type "StopIteration") []):=by rw[<-Qi]
 have W2:Ex.cls=.type "StopIteration":=by rw[<-Qi]
 have k1:∀b o,s.heap.get? b=some o->((s.heap.push Tu).push Ex).get? b=some o:=fun b o e=>cE _ (cE _ e);have gE:((s.heap.push Tu).push Ex).get? (s.heap.push Tu).objs.size=some Ex:=cW _ (by rw[<-Qi];rfl);have kK:∀b o,s.heap.get? b=some o->b≠(s.heap.push Tu).objs.size:=fun b o e=>aZ (aX (cE Tu e));obtain⟨op,ws,n1,n2,n3⟩:=id hp;refine Bg (A:=A.in1) (p:=p) hh ⟨op,ws,k1 _ _ n1,n2,n3⟩ (kK _ _ n1) gE Vk (by simp;lia) ?_;refine aw (wpAny_isInstance (T:="StopIteration") (b:=true) ⟨_,oz _ gE (vW (oC Vk _)),(ww _ _).trans W2⟩ isSubtype_stop ?_);exact wpAny_pure (hQ _ fun b o e=>(ow _ _ (ci (kK b o e))).trans (k1 b o e))
abbrev jw:=Sum Int Str
def qo:jw->Value->Bool
 |.inl k,v=>Value.isInt k v
 |.inr x,v=>Value.isStrOf x v
def Qj(w:World):jw->Int
 |.inl k=>hashInt k
 |.inr x=>hashStr w x
theorem cA:∀ {k:jw} {v:Value},qo k v=true->(∃i t,k=Sum.inl i/\v=Value.int i t)\/(∃x t,k=Sum.inr x/\v=Value.str x t)
 |.inl i,v,h=>by
  obtain⟨t,e⟩:=Value.isInt_shape (k:=i) (v:=v) h;exact .inl ⟨i,t,rfl,e⟩
 |.inr x,v,h=>by
  obtain⟨t,e⟩:=Value.isStrOf_shape (x:=x) (v:=v) h;exact .inr ⟨x,t,rfl,e⟩
theorem zm(i:Int)(t:Tok):qo (.inl i) (.int i t)=true:=by simp[qo,Value.isInt]
theorem zn(x:Str)(t:Tok):qo (.inr x) (.str x t)=true:=by simp[qo,Value.isStrOf]
theorem H_(a b:Int):decide ((Sum.inl a:jw)=Sum.inl b)=(a==b):=by
 by_cases e:a=b
 .subst e;simp
 .have h:¬ (Sum.inl a:jw)=Sum.inl b:=fun q=>e (Sum.inl.inj q);rw[dE h];exact(jO.mpr e).symm
theorem Ib(a b:Str):decide ((Sum.inr a:jw)=Sum.inr b)=decide (a=b):=by
 by_cases e:a=b
 .subst e;simp
 .have h:¬ (Sum.inr a:jw)=Sum.inr b:=fun q=>e (Sum.inr.inj q);rw[dE h,dE e]
theorem Ic(a:Int)(b:Str):decide ((Sum.inl a:jw)=Sum.inr b)=false:=dE (fun q=>nomatch q)
theorem Ie(a:Str)(b:Int):decide ((Sum.inr a:jw)=Sum.inl b)=false:=dE (fun q=>nomatch q)
def eE(prog:Program)(w:World):PySem.KeyKind prog w jw where
 is:=qo
 hash:=Qj w
 inj:=fun v a b ha hb=>by
  rcases cA ha with ⟨i,t,rfl,rfl⟩|⟨x,t,rfl,rfl⟩
  .rcases cA hb with ⟨j,u,rfl,e⟩|⟨y,u,rfl,e⟩
   .injection e with e1 _;rw[e1]
   .exact nomatch e
  .rcases cA hb with ⟨j,u,rfl,e⟩|⟨y,u,rfl,e⟩
   .exact nomatch e
   .injection e with e1 _;rw[e1]
 byValue:=fun k v h=>by
  rcases cA h with ⟨i,t,rfl,rfl⟩|⟨x,t,rfl,rfl⟩ <;> rfl
 pyHash:=fun hv h=>by
  rcases cA hv with ⟨i,t,rfl,rfl⟩|⟨x,t,rfl,rfl⟩
  .exact wpAny_pyHash_int h
  .exact wpAny_pyHash_str h
 eqBool:=fun hu hv h=>by
  rcases cA hu with ⟨i,t,rfl,rfl⟩|⟨x,t,rfl,rfl⟩
  .rcases cA hv with ⟨j,u,rfl,rfl⟩|⟨y,u,rfl,rfl⟩
   .rw[H_] at h;exact wB h
   .rw[Ic] at h;exact SeqAt.EqAt.int_str i t y u _ _ _ _ h
  .rcases cA hv with ⟨j,u,rfl,rfl⟩|⟨y,u,rfl,rfl⟩
   .rw[Ie] at h;exact SeqAt.EqAt.str_int x t j u _ _ _ _ h
   .rw[Ib] at h;exact wpAny_eqBool_str h
 «strs»:=fun k x t v h=>by
  rcases cA h with ⟨i,u,rfl,e⟩|⟨y,u,rfl,e⟩
  .exact nomatch e
  .injection e with e1 _
   subst e1
   cases v <;> rfl
theorem tZ(prog:Program)(w:World)(i:Int)(t:Tok):(eE prog w).is (.inl i) (.int i t)=true:=zm i t
theorem t_(prog:Program)(w:World)(x:Str)(t:Tok):(eE prog w).is (.inr x) (.str x t)=true:=zn x t
inductive V where
 |bi|bl (b:Bool)|int (i:Int)|str (x:Str)|AI (b:Array UInt8)|Ig (b:UInt64)|ref (a:Addr)|ty (n:String)
 deriving DecidableEq
def bj:V->Value->Prop
 |.bi,u=>u=Value.none
 |.bl b,u=>u=Value.bool b
 |.int i,u=>∃t,u=Value.int i t
 |.str x,u=>∃t,u=Value.str x t
 |.AI b,u=>∃t,u=Value.bytes b t
 |.Ig b,u=>∃t,u=Value.float b t
 |.ref a,u=>u=Value.ref a
 |.ty n,u=>u=Value.type n
abbrev aR:List V->List Value->Prop:=Paired bj
theorem aR.length(r:aR xs us):xs.length=us.length:=Paired.length r
theorem aR.get:∀ {xs:List V} {us:List Value} {i:Nat} {x:V},aR xs us->xs[i]?=some x->∃u,us[i]?=some u/\bj x u
 |_,_,_,_,.nil,e=>by simp at e
 |_,_,0,_,.cons r _,e=>by simp at e;subst e;exact⟨_,rfl,r⟩
 |_,_,i+1,x,.cons _ t,e=>by
  obtain⟨u,h1,h2⟩:=aR.get (i:=i) (x:=x) t (by simpa using e);exact⟨u,by simpa using h1,h2⟩
theorem aR.set(r:bj x u):∀ {xs:List V} {us:List Value} (i:Nat),aR xs us->aR (xs.set i x) (us.set i u)
 |_,_,_,.nil=>.nil
 |_,_,0,.cons _ t=>.cons r t
 |_,_,i+1,.cons q t=>.cons q (aR.set r i t)
theorem aR.append:∀ {xs ys:List V} {us ws:List Value},aR xs us->aR ys ws->aR (xs++ys) (us++ws)
 |_,_,_,_,.nil,s=>s
 |_,_,_,_,.cons r t,s=>.cons r (aR.append t s)
theorem aR.take:∀ {xs:List V} {us:List Value} (n:Nat),aR xs us->aR (xs.take n) (us.take n)
 |_,_,0,_=>.nil
 |_,_,_+1,.nil=>.nil
 |_,_,n+1,.cons r t=>.cons r (aR.take n t)
theorem aR.drop:∀ {xs:List V} {us:List Value} (n:Nat),aR xs us->aR (xs.drop n) (us.drop n)
 |_,_,0,r=>r
 |_,_,_+1,.nil=>.nil
 |_,_,n+1,.cons _ t=>aR.drop n t
def pR:Option V->Option Value->Prop
 |some v,some u=>bj v u
 |none,none=>True
 |_,_=>False
def KV{κ:Type}:List (κ×V)->List (κ×Value)->Prop:=Paired fun (p:κ×V) (q:κ×Value)=>p.1=q.1/\bj p.2 q.2
def kV:jw->V
 |.inl i=>.int i
 |.inr x=>.str x
inductive HO where
 |lst (xs:List V)
 |tup (xs:List V)
 |dK (cu:List (jw×V))|dT (cu:List (List jw×V))
 |set (S:Int->Bool) (n:Nat)
 |ins (C dx:Addr) (fs:List (Str×V))
 |own (x:Addr)
 |xd (fs:List (Str×V))
 |met (f x:Addr)
 |Em (lo hi:Int)
 |qp (o:Obj) (u:HO)
 |oM (ps:Array Value)
 |ext (φ:Heap->Prop)
abbrev Hp:=Addr->Option HO
def upd(H:Hp)(a:Addr)(o:HO):Hp:=fun b=>if b=a then some o else H b
theorem ag:upd H a o a=some o:=by unfold upd;rw[am rfl]
theorem al(h:b≠a):upd H a o b=H b:=by unfold upd;rw[ao h]
theorem nP:upd (upd H a o) a u=upd H a u:=by
 funext b;unfold upd;split <;> rfl
theorem ee{H:Hp}{a b:Addr}{o u:HO}(h:H a=some o)(h':H b=some u)(d:o≠u):a≠b:=by
 intro e;subst e;rw[h] at h';exact d (bS h')
theorem aq{H:Hp}{a b:Addr}{o:HO}(h:H a=some o)(h':H b=none):a≠b:=by
 intro e;subst e;rw[h] at h';cases h'
section
variable (P:Program) (w:World)
def iI(h:Heap)(a:Addr)(items:Array Value):Prop:=∃o,h.get? a=some o/\o.cls=.type "tuple"/\∃n,o.data=.seq items n/\o.dict=none
theorem iI.tup(p:iI h a items):IsTup h a items:=let ⟨o,e,c,n,d,_⟩:=p;⟨o,e,c,n,d⟩
theorem iI.new(h:Heap)(items:Array Value):iI (h.push { cls:=.type "tuple",data:=.seq items }) h.objs.size items:=⟨_,cW _ rfl,rfl,_,rfl,rfl⟩
def bK(H:Hp)(h:Heap)(a:Addr):HO->Prop
 |.lst xs=>xs.length<=sizeLine/\∃ (its:List Value) (n:Nat),aR xs its/\h.get? a=some { cls:=.type "list",data:=.seq its.toArray n }
 |.tup xs=>xs.length<=sizeLine/\∃its:List Value,aR xs its/\iI h a its.toArray
 |.dK cu=>cu.length<=sizeLine/\(a==sysModules)=false/\∃vs,KV cu vs/\h.DictOf (eE P w) a vs
 |.dT cu=>cu.length<=sizeLine/\(a==sysModules)=false/\∃xs:List (List jw×Addr×Value),
   Paired (fun (p:List jw×V) (q:List jw×Addr×Value)=>p.1=q.1/\H q.2.1=some (.tup (p.1.map kV))/\bj p.2 q.2.2) cu xs/\
   ∃o es ep,h.get? a=some o/\o.ExactDict/\o.data=.dict es ep/\es.toList=xs.map (entryOfKey (tupleKind (eE P w)))/\(xs.map (·.1)).Nodup
 |.set S n=>h.SetOf (intKind P w) a S n
 |.ins C dx fs=>H dx=some (.own a)/\fs.length<=1000/\dx≠a/\h.get? a=some (PySem.W.instObj C dx)/\
   ∃mA,h.Ns1 dx mA/\(∀f,pR (fs.lookup f) (mA f))/\PySem.Within mA (fs.map (·.1))
 |.own _=>∃o,h.get? a=some o
 |.xd fs=>∃mA,h.Ns1 a mA/\∀f,pR (fs.lookup f) (mA f)
 |.Em lo hi=>∃t u v,h.get? a=some { cls:=.type "range",data:=.fields #[.int lo t,.int hi u,.int 1 v] }
 |.qp o u=>h.get? a=some o/\bK H h a u
 |.oM ps=>h.get? a=some { cls:=.none,data:=.fields ps }
 |.met f x=>h.get? a=some (PySem.W.methodObj (.ref f) (.ref x))
 |.ext φ=>φ h/\(∃o,h.get? a=some o)/\∀h1 h2:Heap,φ h1->(∀o,h1.get? a=some o->h2.get? a=some o)->φ h2
def ji(H:Hp)(h:Heap):Prop:=∀a o,H a=some o->bK P w H h a o
end
section
variable {P:Program} {w:World} {H H':Hp} {h h':Heap} {a:Addr} {o:HO}
theorem bK.lt(x:bK P w H h a o):a<h.objs.size:=by
 cases o with
 |lst xs=>obtain⟨_,_,_,_,e⟩:=x;exact aX e
 |tup xs=>obtain⟨_,_,_,p⟩:=x;exact p.tup.lt
 |dK cu=>obtain⟨_,_,_,_,o,_,_,e,_⟩:=x;exact aX e
 |dT cu=>obtain⟨_,_,_,_,o,_,_,e,_⟩:=x;exact aX e
 |set S n=>obtain⟨o,_,_,_,e,_⟩:=x;exact aX e
 |ins C dx fs=>obtain⟨_,_,_,e,_⟩:=x;exact aX e
 |own y=>obtain⟨_,e⟩:=x;exact aX e
 |xd fs=>obtain⟨_,⟨_,_,_,e,_⟩,_⟩:=x;exact aX e
 |Em lo hi=>obtain⟨_,_,_,e⟩:=x;exact aX e
 |qp ob u=>obtain⟨e,_⟩:=x;exact aX e
 |oM ps=>exact aX (show h.get? a=some _ from x)
 |met f y=>exact aX (show h.get? a=some _ from x)
 |ext φ=>obtain⟨_,⟨_,e⟩,_⟩:=x;exact aX e
theorem Paired.Lv:∀ {l₁:List α} {l₂:List β},Paired F l₁ l₂->(∀a b,F a b->G a b)->Paired G l₁ l₂
 |_,_,.nil,_=>.nil
 |_,_,.cons r t,f=>.cons (f _ _ r) (Paired.Lv t f)
theorem bK.ng(x:bK P w H h a o)(k:∀b u,(b=a\/H b=some (.own a))->h.get? b=some u->h'.get? b=some u)(ho:∀b,H b=some (.own a)->H' b=some (.own a))(ht:∀b xs,H b=some (.tup xs)->H' b=some (.tup xs)):bK P w H' h' a o:=by
 induction o with
 |lst xs=>obtain⟨z,its,n,r,e⟩:=x;exact⟨z,its,n,r,k _ _ (.inl rfl) e⟩
 |tup xs=>obtain⟨z,its,r,ob,e,c⟩:=x;exact⟨z,its,r,ob,k _ _ (.inl rfl) e,c⟩
 |dK cu=>obtain⟨z,y,vs,r,ob,es,ep,e,c⟩:=x;exact⟨z,y,vs,r,ob,es,ep,k _ _ (.inl rfl) e,c⟩
 |dT cu=>
  obtain⟨z,y,xs,r,ob,es,ep,e,c⟩:=x;exact⟨z,y,xs,Paired.Lv r fun p q z=>⟨z.1,ht _ _ z.2.1,z.2.2⟩,ob,es,ep,k _ _ (.inl rfl) e,c⟩
 |set S n=>obtain⟨ob,es,ep,t,e,c⟩:=x;exact⟨ob,es,ep,t,k _ _ (.inl rfl) e,c⟩
 |ins C dx fs=>
  obtain⟨d,z,ne,e,mA,⟨od,es,ep,e2,c⟩,r⟩:=x;exact⟨ho _ d,z,ne,k _ _ (.inl rfl) e,mA,⟨od,es,ep,k _ _ (.inr d) e2,c⟩,r⟩
 |own y=>obtain⟨ob,e⟩:=x;exact⟨ob,k _ _ (.inl rfl) e⟩
 |xd fs=>obtain⟨mA,⟨od,es,ep,e,c⟩,r⟩:=x;exact⟨mA,⟨od,es,ep,k _ _ (.inl rfl) e,c⟩,r⟩
 |Em lo hi=>obtain⟨t,u,v,e⟩:=x;exact⟨t,u,v,k _ _ (.inl rfl) e⟩
 |qp ob u ih=>obtain⟨e,q⟩:=x;exact⟨k _ _ (.inl rfl) e,ih q⟩
 |oM ps=>
  have e:h.get? a=some { cls:=.none,data:=.fields ps }:=x;show h'.get? a=some { cls:=.none,data:=.fields ps };exact k a _ (.inl rfl) e
 |met f y=>
  have e:h.get? a=some (PySem.W.methodObj (.ref f) (.ref y)):=x;show h'.get? a=some (PySem.W.methodObj (.ref f) (.ref y));exact k a _ (.inl rfl) e
 |ext φ=>obtain⟨p,⟨o,e⟩,st⟩:=x;exact⟨st _ _ p fun o q=>k _ _ (.inl rfl) q,⟨o,k _ _ (.inl rfl) e⟩,st⟩
theorem ji.lt(x:ji P w H h)(e:H a=some o):a<h.objs.size:=(x a o e).lt
theorem ji.fresh(x:ji P w H h)(e:h.objs.size<=a):H a=none:=by
 cases q:H a with
 |none=>rfl
 |some u=>exact absurd (cM (x.lt q) e) (gn _)
theorem ji.kept(x:ji P w H h)(k:∀b u,h.get? b=some u->h'.get? b=some u):ji P w H h':=fun a o e=>
 (x a o e).ng (fun b u _ q=>k b u q) (fun _ q=>q) fun _ _ q=>q
theorem ji.laid(x:ji P w H h)(k:∀b u,h.get? b=some u->h'.get? b=some u)(hp:h.objs.size<=a)(new:bK P w (upd H a o) h' a o):ji P w (upd H a o) h':=fun b u e=>by
 have hn:=x.fresh hp;by_cases hb:b=a
 .subst hb;rw[ag] at e;cases e;exact new
 .rw[al hb] at e;exact(x b u e).ng (fun c v _ q=>k c v q) (fun c q=>by rw[al (aq q hn)];exact q) fun c xs q=>by rw[al (aq q hn)];exact q
end
def Rd(H:Hp)(a:Addr)(u:HO):Prop:=H a=some u\/∃o,H a=some (.qp o u)
theorem Rd.ok(r:Rd H a u)(x:ji P w H h):bK P w H h a u:=by
 rcases r with r|⟨o,r⟩
 .exact x a u r
 .obtain⟨_,q⟩:=x a _ r;exact q
def Lw:Option HO->Prop
 |some (.lst _)=>True
 |some (.dK _)=>True
 |some (.dT _)=>True
 |some (.set _ _)=>True
 |some (.ins _ _ _)=>True
 |some (.ext _)=>True
 |_=>False
section
variable {P:Program} {w:World} {H:Hp} {h h':Heap} {x e:Addr} {o':HO}
theorem ji.write(ok:ji P w H h)(mu:Lw (H x))(he:e=x\/H e=some (.own x))(k:∀b u,b≠e->h.get? b=some u->h'.get? b=some u)(K5:∃u,h'.get? e=some u)(new:bK P w (upd H x o') h' x o'):ji P w (upd H x o') h':=fun b u q=>by
 have Lx:∀c y,H c=some (.own y)->c≠x:=fun c y r z=>by subst z;rw[r] at mu;exact mu
 have Qk:∀c xs,H c=some (.tup xs)->c≠x:=fun c xs r z=>by subst z;rw[r] at mu;exact mu
 by_cases hb:b=x
 .subst hb;rw[ag] at q;cases q;exact new
 .rw[al hb] at q;by_cases En:b=e
  .have q':H b=some (.own x):=by
    rcases he with z|z
    .exact absurd (En.trans z) hb
    .rw[En];exact z
   rw[q] at q';cases q';obtain⟨v,hv⟩:=K5;exact⟨v,by rw[En];exact hv⟩
  .refine(ok b u q).ng (fun c v hc r=>k c v ?_ r) (fun c r=>by rw[al (Lx c b r)];exact r) fun c xs r=>by rw[al (Qk c xs r)];exact r
   rcases hc with rfl|hc
   .exact En
   .rintro rfl;rcases he with z|z
    .exact Lx c b hc z
    .rw[hc] at z;cases z;exact hb rfl
end
structure Un(fs ex:List Addr)(H H':Hp)(h h':Heap):Prop where
 keep:∀b o,h.get? b=some o->H b=none->b∉fs->b∉ex->h'.get? b=some o
 slot:∀b o,h.get? b=some o->H b=none->b∈fs->b∉ex->∃sl,h'.get? b=some { o with slots:=sl }
 free:∀b o,h.get? b=some o->H b=none->b∉ex->H' b=none
 there:∀b o,h.get? b=some o->b∉ex->∃o',h'.get? b=some o'
 gU:∀b xs,H b=some (.tup xs)->H' b=some (.tup xs)
 iJ:∀b o u,H b=some (.qp o u)->H' b=some (.qp o u)
 jx:∀b ps,H b=some (.oM ps)->∃more,H' b=some (.oM (ps++more))
section
variable {fs W3 ex ZU:List Addr} {H H1 H2:Hp} {h h1 h2 h':Heap} {a x e:Addr} {o:HO}
theorem Un.any(u:Un fs ex H H1 h h1)(q:h.get? b=some ob)(n:H b=none)(hx:b∉ex):∃sl,h1.get? b=some { ob with slots:=sl }:=by
 by_cases hb:b∈fs
 .exact u.slot b ob q n hb hx
 .exact⟨ob.slots,u.keep b ob q n hb hx⟩
theorem Un.kept(k:∀b u,h.get? b=some u->h'.get? b=some u):Un fs ex H H h h':=
 ⟨fun b ob q _ _ _=>k b ob q,fun b ob q _ _ _=>⟨ob.slots,k b ob q⟩,fun _ _ _ n _=>n,fun b ob q _=>⟨ob,k b ob q⟩,fun _ _ q=>q,fun _ _ _ q=>q,fun _ ps q=>⟨#[],by rw[q];simp⟩⟩
theorem Un.refl:Un fs ex H H h h:=Un.kept fun _ _ q=>q
theorem Un.laid(k:∀b u,h.get? b=some u->h'.get? b=some u)(hp:h.objs.size<=a)(hn:H a=none):Un fs ex H (upd H a o) h h' where
 keep:=fun b u q _ _ _=>k b u q
 slot:=fun b u q _ _ _=>⟨u.slots,k b u q⟩
 free:=fun b u q n _=>by rw[al (aZ (cM (aX q) hp))];exact n
 there:=fun b u q _=>⟨u,k b u q⟩
 gU:=fun b xs q=>by rw[al (aq q hn)];exact q
 iJ:=fun b u xs q=>by rw[al (aq q hn)];exact q
 jx:=fun b ps q=>⟨#[],by rw[al (aq q hn),q];simp⟩
theorem Un.write(mu:Lw (H x))(he:e=x\/H e=some (.own x))(k:∀b u,b≠e->h.get? b=some u->h'.get? b=some u)(K5:∃u,h'.get? e=some u):Un fs ex H (upd H x o) h h':=by
 have hx:∀b,H b=none->b≠x:=fun b n z=>by subst z;rw[n] at mu;exact mu
 have hb:∀b,H b=none->b≠e:=fun b n z=>by
  subst z;rcases he with r|r
  .exact hx b n r
  .rw[n] at r;cases r
 have hm:∀b u,H b=some u->¬ Lw (some u)->b≠x:=fun b u q nm z=>by subst z;rw[q] at mu;exact nm mu
 refine⟨fun b u q n _ _=>k b u (hb b n) q,fun b u q n _ _=>⟨u.slots,k b u (hb b n) q⟩,fun b u q n _=>by rw[al (hx b n)];exact n,fun b u q _=>?_,
  fun b xs q=>by rw[al (hm b _ q fun z=>z)];exact q,fun b u xs q=>by rw[al (hm b _ q fun z=>z)];exact q,fun b ps q=>⟨#[],by rw[al (hm b _ q fun z=>z),q];simp⟩⟩
 by_cases En:b=e
 .subst En;exact K5
 .exact⟨u,k b u En q⟩
end
def Pq(h:Heap)(H:Hp):List Addr:=(List.range h.objs.size).filter fun a=>(H a).isSome
def pS(h:Heap)(H:Hp):Heap:=PySem.W.hideAll h (Pq h H)
theorem zo(h:Heap)(H:Hp):(pS h H).objs.size=h.objs.size:=PySem.W.hideAll_size _ _
theorem Bh(e:h.get? b=some o)(n:H b=none):(pS h H).get? b=some o:=
 rC _ e fun hm=>by
  have q:(H b).isSome=true:=(eL.mp hm).2;rw[n] at q;simp at q
theorem EK(e:(pS h H).get? b=some o):h.get? b=some o/\H b=none:=by
 have e':h.get? b=some o:=PySem.W.of_hideAll (Pq h H) e;refine⟨e',?_⟩;cases q:H b with
 |none=>rfl
 |some x=>
  have hm:b∈Pq h H:=eL.mpr ⟨cX.mpr (aX e'),by simp[q]⟩;have z:(pS h H).get? b=none:=PySem.W.hideAll_none (Pq h H) hm;rw[z] at e;cases e
def gW(g h:Heap)(L:Addr):List (Addr×Obj):=(List.range h.objs.size).filterMap fun a=>if a=L\/(g.get? a).isSome=true then none else (h.get? a).map fun o=>(a,o)
theorem iK(h1:a≠L)(h2:g.get? a=none)(h3:h.get? a=some o):(a,o)∈gW g h L:=
 jR.mpr ⟨a,cX.mpr (aX h3),by simp[h1,h2,h3]⟩
theorem oN(hp:p∈gW g h L):p.1≠L/\g.get? p.1=none/\h.get? p.1=some p.2:=by
 obtain⟨b,_,e⟩:=jR.mp hp;split at e
 .cases e
 .rename_i hn;cases q:h.get? b with
  |none=>rw[q] at e;simp at e
  |some u=>
   rw[q] at e;simp only[Option.map_some,Option.some.injEq] at e;subst e;refine⟨fun z=>hn (.inl z),?_,q⟩;show g.get? b=none;cases r:g.get? b with
   |none=>rfl
   |some v=>exact(hn (.inr (by simp[r]))).elim
theorem Bi:News g L h (gW g h L):=fun p hp=>let ⟨a,b,c⟩:=oN hp;⟨c,a,b⟩
structure Mod(K:PySem.W.Frag)(mg:Str->Option Value)(base:Heap):Prop where
 Eo:K.In base
 glob:base.Ns mainGlobals mg
 blt:∃mb,base.Ns builtinsNs mb/\∀x:Str,x≠"__name__"->mb x=bootBuiltins x
 nolimit:base.NoLimit
structure Cx where
 prog:Program
 w:World
 K:PySem.W.Frag
 mg:Str->Option Value
 base:Heap
 A:Around
 N:List Str
 s₀:Shared
 H₀:Hp
 env:Env
 outer:List Env
 stack:List Env
 ex:List Addr
 fn:Str->Bool
 calm:Bool
 pn:List (Addr×Obj)
 xe:Value->Shared->Prop
def jD(l:List Env):List Addr:=l.filterMap (·.frame)
abbrev Cx.fs(X:Cx):List Addr:=jD X.outer
def Ly(sc:Scope)(x:Str):Prop:=sc.names.lookup x=some .local\/sc.names.lookup x=some .cell\/sc.names.lookup x=some .free
def Lz(sc:Scope)(x:Str):Prop:=sc.names.lookup x=some .local\/sc.names.lookup x=some .cell
def Ql(env:Env)(h:Heap)(m:Str->Option Value)(x:Str)(u:Value):Prop:=
 (env.kindOf x=some .local/\m x=some u)\/((env.kindOf x=some .cell\/env.kindOf x=some .free)/\∃c,env.cells.lookup x=some c/\h.IsCell c (some u))
structure Cx.Ok(X:Cx):Prop where
 mod:Mod X.K X.mg X.base
 kind:X.env.scope.kind=.function
 glob:X.env.globals=mainGlobals
 blt:X.env.builtins=builtinsNs
 above:X.s₀.heap.objs.size<=X.env.locals
 inj:∀x y c,X.env.cells.lookup x=some c->X.env.cells.lookup y=some c->x=y
 has:∀x,(X.env.kindOf x=some .cell\/X.env.kindOf x=some .free)->∃c,X.env.cells.lookup x=some c
 Ih:∀x c,X.fn x=true->X.env.cells.lookup x=some c->X.s₀.heap.objs.size<=c
 hd:X.calm=true->X.A.handled=none
 frames:X.A.frames=some X.stack
 AJ:X.stack=X.outer\/(X.stack=X.env::X.outer/\X.env.frame=some X.env.locals)
 LA:∀b∈X.ex,b≠X.env.locals/\∀x c,X.env.cells.lookup x=some c->c≠b
 bs:∀b o,X.base.get? b=some o->X.s₀.heap.get? b=some o/\X.H₀ b=none
 zq:X.base.objs.size<=X.s₀.heap.objs.size
 lR:∀b o,X.base.get? b=some o->b∉X.ex
 zu:∀b∈X.ex,b∉X.fs
 iL:X.s₀.heap.FunFrames X.base X.outer
 AK:∀b∈X.fs,X.H₀ b=none
structure aF(X:Cx)(ae:List (Addr×Obj))(σ:List (Option V))(H:Hp)(s:Shared):Prop where
 ok:X.Ok
 os:s.os=X.s₀.os
 bare:AllBare s.gens
 base:Un X.fs X.ex X.H₀ H X.s₀.heap s.heap
 loc:∃m,s.heap.Ns X.env.locals m/\∀ (i:Nat) (x:Str) (v:V),X.N[i]?=some x->σ[i]?=some (some v)->Ly X.env.scope x->∃u,bj v u/\Ql X.env s.heap m x u
 cell:∀x c,X.env.cells.lookup x=some c->∃v,s.heap.IsCell c v
 free:H X.env.locals=none
 fJ:∀x c,X.env.cells.lookup x=some c->H c=none
 pin:∀p∈X.pn++ae,s.heap.get? p.1=some p.2/\H p.1=none/\p.1≠X.env.locals/\p.1∉X.fs/\∀v,p.2.data≠.cell v
 bA:ji X.prog X.w H s.heap
 len:σ.length=X.N.length
section
variable {X:Cx} {ae:List (Addr×Obj)} {σ:List (Option V)} {H H':Hp} {s:Shared} {h':Heap}
theorem Cx.Ok.Qm(ok:X.Ok)(e:X.base.get? b=some o):b∉X.fs:=fun hb=>by
 have:=(ok.iL.mem hb).1;rw[e] at this;cases this
theorem aF.bs(I:aF X ae σ H s):∀b o,X.base.get? b=some o->s.heap.get? b=some o/\H b=none:=fun b o e=>
 ⟨I.base.keep b o (I.ok.bs b o e).1 (I.ok.bs b o e).2 (I.ok.Qm e) (I.ok.lR b o e),I.base.free b o (I.ok.bs b o e).1 (I.ok.bs b o e).2 (I.ok.lR b o e)⟩
theorem aF.bk(I:aF X ae σ H s):∀b o,X.base.get? b=some o->s.heap.get? b=some o:=fun b o e=>(I.bs b o e).1
theorem aF.mod(I:aF X ae σ H s):Mod X.K X.mg X.base:=I.ok.mod
theorem aF.j5(I:aF X ae σ H s):X.K.In s.heap:=I.ok.mod.Eo.keeps I.bk
theorem aF.fr(I:aF X ae σ H s):∃m,Fr X.base X.env.locals s.heap m:=
 let ⟨m,hn,_⟩:=I.loc
 ⟨m,hn,I.bk,bq I.ok.zq I.ok.above⟩
theorem aF.lt(I:aF X ae σ H s):X.env.locals<s.heap.objs.size:=let ⟨_,hn,_⟩:=I.loc;hn.lt
theorem aF.sz(I:aF X ae σ H s):X.s₀.heap.objs.size<=s.heap.objs.size:=bq I.ok.above (gP I.lt)
theorem aF.Qn(I:aF X ae σ H s)(h:s.heap.objs.size<=a):a∉X.fs:=fun hb=>by
 obtain⟨_,o,ho,_⟩:=I.ok.iL.mem hb;exact absurd (cM (aX ho) (bq I.sz h)) (gn _)
theorem aF.EL(I:aF X ae σ H s):∀x c,X.env.cells.lookup x=some c->c≠X.env.locals:=fun x c e z=>by
 obtain⟨v,o,ho,hd⟩:=I.cell x c e;obtain⟨m,⟨o',es,ep,qq,LB,_⟩,_⟩:=I.loc;rw[z,qq] at ho;cases ho;rw[LB] at hd;cases hd
theorem aF.iL(I:aF X ae σ H s):s.heap.FunFrames X.base X.outer:=by
 have all:∀ (l:List Env),(∀b∈jD l,b∈X.fs)->X.s₀.heap.FunFrames X.base l->s.heap.FunFrames X.base l:=by
  intro l;induction l with
  |nil=>intro _ _;trivial
  |cons env r ih=>
   intro hs hl;obtain⟨hk,⟨L,o,hf,hn,ho,hd⟩,hr⟩:=hl;have hL:L∈X.fs:=hs L (by unfold jD;rw[vV,hf];exact cg);obtain⟨sl,e⟩:=I.base.slot L o ho (I.ok.AK L hL) hL fun z=>I.ok.zu L z hL;exact⟨hk,⟨L,_,hf,hn,e,hd⟩,ih (fun b hb=>hs b (by unfold jD;rw[vV,hf];exact b_ _ hb)) hr⟩
 exact all X.outer (fun _ hb=>hb) I.ok.iL
theorem aF.stack(I:aF X ae σ H s):s.heap.FunFrames X.base X.stack:=by
 rcases I.ok.AJ with e|⟨e,hf⟩
 .rw[e];exact I.iL
 .rw[e];obtain⟨m,hn,_⟩:=I.loc;refine .cons (by rw[I.ok.kind];decide) hf hn ?_ I.iL;exact rD (bq I.ok.zq I.ok.above)
theorem aF.rR(I:aF X ae σ H s):∀b∈jD X.stack,b∈X.env.locals::X.fs:=fun b hb=>by
 rcases I.ok.AJ with e|⟨e,hf⟩
 .rw[e] at hb;exact b_ _ hb
 .rw[e] at hb;unfold jD at hb;rw[vV,hf] at hb;exact hb
theorem aF.rS(I:aF X ae σ H s):∀b∈jD X.stack,H b=none:=fun b hb=>by
 rcases bu.mp (I.rR b hb) with e|hb
 .rw[e];exact I.free
 .obtain⟨_,o,ho,_⟩:=I.ok.iL.mem hb;exact I.base.free b o ho (I.ok.AK b hb) fun z=>I.ok.zu b z hb
theorem aF.step{g':Array GenState}{t':Nat}{d':Drawn}{ch:List Addr}(I:aF X ae σ H s)(Ep:∀b∈ch,(b∈X.ex\/X.s₀.heap.objs.size<=b)/\b≠X.env.locals/\(∀x c,X.env.cells.lookup x=some c->c≠b)/\∀p∈X.pn++ae,p.1≠b)(keep:∀b o,b≠X.env.locals->b∉X.fs->b∉ch->s.heap.get? b=some o->H b=none->h'.get? b=some o)(slot:∀b o,b≠X.env.locals->b∈X.fs->b∉ch->s.heap.get? b=some o->H b=none->∃sl,h'.get? b=some { o with slots:=sl })(free:∀b o,b∉ch->s.heap.get? b=some o->H b=none->H' b=none)(there:∀b o,b∉ch->s.heap.get? b=some o->∃o',h'.get? b=some o')(gU:∀b xs,H b=some (.tup xs)->H' b=some (.tup xs))(iJ:∀b o u,H b=some (.qp o u)->H' b=some (.qp o u))(jx:∀b ps,H b=some (.oM ps)->∃more,H' b=some (.oM (ps++more)))(ns:∀m,s.heap.Ns X.env.locals m->h'.Ns X.env.locals m)(bA:ji X.prog X.w H' h')(hg:AllBare g'):
  aF X ae σ H' { s with heap:=h',gens:=g',drawn:=d',toks:=t' }:=by
 have Vl:∀b o,X.s₀.heap.get? b=some o->b≠X.env.locals:=fun b o e=>aZ (cM (aX e) I.ok.above);have Pr:∀b o,X.s₀.heap.get? b=some o->b∉X.ex->b∉ch:=fun b o e hx hb=>by
  rcases(Ep b hb).1 with z|z
  .exact hx z
  .exact absurd (cM (aX e) z) (gn _)
 have G5:∀x c,X.env.cells.lookup x=some c->∀v,s.heap.IsCell c v->h'.IsCell c v:=fun x c e v ⟨o,ho,hd⟩=>by
  have LC:c∉ch:=fun z=>(Ep c z).2.2.1 x c e rfl;by_cases hc:c∈X.fs
  .obtain⟨sl,q⟩:=slot c o (I.EL x c e) hc LC ho (I.fJ x c e);exact⟨_,q,hd⟩
  .exact⟨o,keep c o (I.EL x c e) hc LC ho (I.fJ x c e),hd⟩
 refine⟨I.ok,I.os,hg,⟨fun b o e n hb hx=>?_,fun b o e n hb hx=>?_,fun b o e n hx=>?_,fun b o e hx=>?_,fun b xs e=>gU b xs (I.base.gU b xs e),fun b o xs e=>iJ b o xs (I.base.iJ b o xs e),fun b ps e=>?_⟩,?_,fun x c e=>?_,?_,fun x c e=>?_,fun p hp=>?_,bA,I.len⟩
 .exact keep b o (Vl b o e) hb (Pr b o e hx) (I.base.keep b o e n hb hx) (I.base.free b o e n hx)
 .obtain⟨sl,e1⟩:=I.base.slot b o e n hb hx;obtain⟨Qo,e2⟩:=slot b _ (Vl b o e) hb (Pr b o e hx) e1 (I.base.free b o e n hx);exact⟨Qo,e2⟩
 .obtain⟨o',e1⟩:=I.base.there b o e hx;exact free b o' (Pr b o e hx) e1 (I.base.free b o e n hx)
 .obtain⟨o',e1⟩:=I.base.there b o e hx;exact there b o' (Pr b o e hx) e1
 .obtain⟨m1,e1⟩:=I.base.jx b ps e;obtain⟨m2,e2⟩:=jx b _ e1;exact⟨m1++m2,by rw[e2,Array.append_assoc]⟩
 .obtain⟨m,hn,hl⟩:=I.loc;refine⟨m,ns m hn,fun i x v e1 e2 e3=>?_⟩;obtain⟨u,r,l⟩:=hl i x v e1 e2 e3;refine⟨u,r,?_⟩;rcases l with l|⟨k,c,e,z⟩
  .exact .inl l
  .exact .inr ⟨k,c,e,G5 x c e _ z⟩
 .obtain⟨v,z⟩:=I.cell x c e;exact⟨v,G5 x c e v z⟩
 .obtain⟨m,⟨o,_,_,ho,_⟩,_⟩:=I.loc;exact free _ o (fun z=>(Ep _ z).2.1 rfl) ho I.free
 .obtain⟨v,o,ho,hd⟩:=I.cell x c e;exact free c o (fun z=>(Ep c z).2.2.1 x c e rfl) ho (I.fJ x c e)
 .obtain⟨e,n,ne,nf,d⟩:=I.pin p hp;have LC:p.1∉ch:=fun z=>(Ep p.1 z).2.2.2 p hp rfl;exact⟨keep p.1 p.2 ne nf LC e n,free p.1 p.2 LC e n,ne,nf,d⟩
theorem aF.un{t':Nat}(I:aF X ae σ H s)(u:Un X.fs [] H H' s.heap h')(bA:ji X.prog X.w H' h'):aF X ae σ H' { s with heap:=h',toks:=t' }:=by
 obtain⟨m,⟨o,es,ep,ho,r⟩,_⟩:=id I.loc;obtain⟨sl,hL⟩:=u.any ho I.free (by simp);exact I.step (g':=s.gens) (d':=s.drawn) (ch:=[]) (fun _ z=>nomatch z) (fun b o _ hb _ e n=>u.keep b o e n hb (by simp)) (fun b o _ hb _ e n=>u.slot b o e n hb (by simp)) (fun b o _ e n=>u.free b o e n (by simp)) (fun b o _ e=>u.there b o e (by simp)) u.gU u.iJ u.jx (fun m' hm=>by
  obtain⟨o',vg,Ps,qq,r'⟩:=hm;rw[ho] at qq;cases qq;exact⟨_,vg,Ps,hL,r'⟩) bA I.bare
theorem aF.call{g':Array GenState}{t':Nat}{d':Drawn}{ch:List Addr}(I:aF X ae σ H s)(u:Un (jD X.stack) ch H H' s.heap h')(bA:ji X.prog X.w H' h')(hg:AllBare g')(Ep:∀b∈ch,(b∈X.ex\/X.s₀.heap.objs.size<=b)/\b≠X.env.locals/\(∀x c,X.env.cells.lookup x=some c->c≠b)/\∀p∈X.pn++ae,p.1≠b):
  aF X ae σ H' { s with heap:=h',gens:=g',drawn:=d',toks:=t' }:=by
 obtain⟨m,⟨o,es,ep,ho,r⟩,_⟩:=id I.loc;obtain⟨sl,hL⟩:=u.any ho I.free fun z=>(Ep _ z).2.1 rfl;exact I.step (ch:=ch) Ep (fun b o hL hb hc e n=>u.keep b o e n (fun z=>(bu.mp (I.rR b z)).elim hL hb) hc) (fun b o _ _ hc e n=>u.any e n hc) (fun b o hc e n=>u.free b o e n hc) (fun b o hc e=>u.there b o e hc) u.gU u.iJ u.jx (fun m' hm=>by
  obtain⟨o',vg,Ps,qq,r'⟩:=hm;rw[ho] at qq;cases qq;exact⟨_,vg,Ps,hL,r'⟩) bA hg
theorem aF.turned{t':Nat}{it:Addr}(I:aF X ae σ H s)(k:∀b o,b≠it->s.heap.get? b=some o->h'.get? b=some o)(hn:H it=none)(hL:it≠X.env.locals)(h1:it∈X.ex\/X.s₀.heap.objs.size<=it)(h2:∀x c,X.env.cells.lookup x=some c->c≠it)(h3:∀p∈X.pn++ae,p.1≠it):aF X ae σ H { s with heap:=h',toks:=t' }:=by
 have Vm:∀b u,H b=some u->b≠it:=fun b u e z=>by rw[z,hn] at e;cases e
 refine I.step (g':=s.gens) (d':=s.drawn) (ch:=[it]) (fun b hb=>?_) (fun b o _ _ hc e _=>k b o (fun z=>hc (by simp[z])) e) (fun b o _ _ hc e _=>⟨o.slots,k b o (fun z=>hc (by simp[z])) e⟩) (fun _ _ _ _ n=>n)
  (fun b o hc e=>⟨o,k b o (fun z=>hc (by simp[z])) e⟩) (fun _ _ e=>e) (fun _ _ _ e=>e) (fun b ps e=>⟨#[],by rw[e];simp⟩) (fun m hm=>?_) (fun b u e=>?_) I.bare
 .have e:b=it:=by simpa using hb
  subst e;exact⟨h1,hL,h2,h3⟩
 .obtain⟨o,es,ep,ho,r⟩:=hm;exact⟨o,es,ep,k _ o (ci hL) ho,r⟩
 .refine(I.bA b u e).ng (fun c v hc q=>k c v ?_ q) (fun _ q=>q) fun _ _ q=>q;rcases hc with z|z
  .rw[z];exact Vm b u e
  .exact Vm c _ z
theorem aF.tok(I:aF X ae σ H s)(t:Nat):aF X ae σ H { s with toks:=t }:=I.un (h':=s.heap) (t':=t) Un.refl I.bA
theorem aF.kept(I:aF X ae σ H s)(k:∀b u,s.heap.get? b=some u->h'.get? b=some u):aF X ae σ H { s with heap:=h',toks:=t' }:=I.un (Un.kept k) (I.bA.kept k)
theorem aF.laid(I:aF X ae σ H s)(k:∀b u,s.heap.get? b=some u->h'.get? b=some u)(hp:s.heap.objs.size<=a)(new:bK X.prog X.w (upd H a o) h' a o):
  aF X ae σ (upd H a o) { s with heap:=h',toks:=t' }:=I.un (Un.laid k hp (I.bA.fresh hp)) (I.bA.laid k hp new)
theorem aF.write(I:aF X ae σ H s)(mu:Lw (H x))(he:e=x\/H e=some (.own x))(k:∀b u,b≠e->s.heap.get? b=some u->h'.get? b=some u)(K5:∃u,h'.get? e=some u)(new:bK X.prog X.w (upd H x o) h' x o):aF X ae σ (upd H x o) { s with heap:=h',toks:=t' }:=I.un (Un.write mu he k K5) (I.bA.write mu he k K5 new)
theorem aF.xY(I:aF X ae σ H s)(h:∀p∈oO,s.heap.get? p.1=some p.2/\H p.1=none/\p.1≠X.env.locals/\p.1∉X.fs/\∀v,p.2.data≠.cell v):aF X oO σ H s:=
 ⟨I.ok,I.os,I.bare,I.base,I.loc,I.cell,I.free,I.fJ,fun p hp=>(cP.mp hp).elim (fun z=>I.pin p (ix _ z)) (h p),I.bA,I.len⟩
theorem oP{N:List Str}(hN:N.Nodup){i j:Nat}{x:Str}(a:N[i]?=some x)(b:N[j]?=some x):i=j:=by
 obtain⟨h1,e1⟩:=cV.mp a;obtain⟨h2,e2⟩:=cV.mp b;exact(List.getElem_inj hN).mp (e1.trans e2.symm)
theorem jj{M:Model}{A:Around}{E:Value->Shared->Prop}{i:Nat}{x:Str}{v:V}{u:Value}{Q:Unit->Shared->Prop}(I:aF X ae σ H s)(hN:X.N.Nodup)(hi:X.N[i]?=some x)(hx:Lz X.env.scope x)(r:bj v u)(h:∀s',aF X ae (σ.set i (some v)) H s'->(∃a,Heap.SameBut a s.heap s'.heap/\(a=X.env.locals\/X.env.cells.lookup x=some a))->Q () s')(hf:X.fn x=true\/X.env.scope.names.lookup x=some .local:=by first|exact .inl rfl|exact .inr rfl|assumption):wpAny M A (storeName X.env x u) Q E s:=by
 obtain⟨m,hn,hl⟩:=id I.loc;have Ii:(X.env.scope.kind==.class||(X.env.scope.kind==.module&&X.env.locals != X.env.globals))=false:=by rw[I.ok.kind];rfl
 have hiσ:i<σ.length:=by rw[I.len];exact(cV.mp hi).1
 have EL:=I.EL;have xZ:∀ {a:Addr} {h':Heap},(∃o,s.heap.get? a=some o/\H a=none)->Heap.SameBut a s.heap h'->ji X.prog X.w H h':=fun {a h'} ha hs b ob e=>by
  obtain⟨_,_,G6⟩:=ha;refine(I.bA b ob e).ng (fun c w' hc q=>(hs.2 c ?_).trans q) (fun _ q=>q) fun _ _ q=>q;rintro rfl;rcases hc with rfl|hc
  .rw[G6] at e;cases e
  .rw[G6] at hc;cases hc
 rcases hx with hk|hk
 .refine wpAny_storeName_local hk hn (fun h' K6 hs=>?_) Ii;obtain⟨oL,_,_,EM,_⟩:=id hn;refine h _ ⟨I.ok,I.os,I.bare,⟨fun b o e n hb hx=>?_,fun b o e n hb hx=>?_,I.base.free,fun b o e hx=>?_,I.base.gU,I.base.iJ,I.base.jx⟩,⟨_,K6,fun j y v' e1 e2 e3=>?_⟩,fun y c e=>?_,I.free,I.fJ,fun p hp=>?_,xZ ⟨oL,EM,I.free⟩ hs,by simpa using I.len⟩ ⟨_,hs,.inl rfl⟩
  .exact(hs.2 b (aZ (cM (aX e) I.ok.above))).trans (I.base.keep b o e n hb hx)
  .obtain⟨sl,e1⟩:=I.base.slot b o e n hb hx;exact⟨sl,(hs.2 b (aZ (cM (aX e) I.ok.above))).trans e1⟩
  .obtain⟨o',e1⟩:=I.base.there b o e hx;exact⟨o',(hs.2 b (aZ (cM (aX e) I.ok.above))).trans e1⟩
  .by_cases hj:j=i
   .subst hj;rw[hi] at e1;cases e1;rw[oh hiσ] at e2;cases e2;exact⟨u,r,.inl ⟨hk,by simp⟩⟩
   .rw[lA (ci hj)] at e2;obtain⟨u',r',q⟩:=hl j y v' e1 e2 e3;refine⟨u',r',?_⟩;rcases q with ⟨k,e⟩|⟨k,c,e,z⟩
    .refine .inl ⟨k,?_⟩;have:y≠x:=fun e=>hj (oP hN e1 (e ▸ hi));simp[this,e]
    .exact .inr ⟨k,c,e,z.sameBut hs (EL y c e)⟩
  .obtain⟨w',z⟩:=I.cell y c e;exact⟨w',z.sameBut hs (EL y c e)⟩
  .obtain⟨e,n,ne,nf,d⟩:=I.pin p hp;exact⟨(hs.2 p.1 ne).trans e,n,ne,nf,d⟩
 .have Qp:X.fn x=true:=by
   rcases hf with z|z
   .exact z
   .rw[z] at hk;cases hk
  obtain⟨c,hc⟩:=I.ok.has x (.inl hk);obtain⟨w',z⟩:=I.cell x c hc;refine wpAny_storeName_cell I.ok.kind hk hc z (fun h' Ij hs=>?_);obtain⟨oc,K7,Qq⟩:=id z;refine h { s with heap:=h' } ⟨I.ok,I.os,I.bare,⟨fun b o e n hb hx=>?_,fun b o e n hb hx=>?_,I.base.free,fun b o e hx=>?_,I.base.gU,I.base.iJ,I.base.jx⟩,⟨m,hn.sameBut hs (ci (EL x c hc)),fun j y v' e1 e2 e3=>?_⟩,fun y c' e=>?_,I.free,I.fJ,fun p hp=>?_,xZ ⟨oc,K7,I.fJ x c hc⟩ hs,by simpa using I.len⟩ ⟨c,hs,.inr hc⟩
  .exact(hs.2 b (aZ (cM (aX e) (I.ok.Ih x c Qp hc)))).trans (I.base.keep b o e n hb hx)
  .obtain⟨sl,e1⟩:=I.base.slot b o e n hb hx;exact⟨sl,(hs.2 b (aZ (cM (aX e) (I.ok.Ih x c Qp hc)))).trans e1⟩
  .obtain⟨o',e1⟩:=I.base.there b o e hx;exact⟨o',(hs.2 b (aZ (cM (aX e) (I.ok.Ih x c Qp hc)))).trans e1⟩
  .by_cases hj:j=i
   .subst hj;rw[hi] at e1;cases e1;rw[oh hiσ] at e2;cases e2;exact⟨u,r,.inr ⟨.inl hk,c,hc,Ij⟩⟩
   .rw[lA (ci hj)] at e2;obtain⟨u',r',q⟩:=hl j y v' e1 e2 e3;refine⟨u',r',?_⟩;rcases q with q|⟨k,c',e,z'⟩
    .exact .inl q
    .refine .inr ⟨k,c',e,z'.sameBut hs ?_⟩;rintro rfl;exact hj (oP hN e1 (I.ok.inj _ _ _ e hc ▸ hi))
  .by_cases Vn:c'=c
   .subst Vn;exact⟨_,Ij⟩
   .obtain⟨w2,z2⟩:=I.cell y c' e;exact⟨w2,z2.sameBut hs Vn⟩
  .obtain⟨e,n,ne,nf,d⟩:=I.pin p hp;refine⟨(hs.2 p.1 ?_).trans e,n,ne,nf,d⟩;intro q;rw[q,K7] at e;have q':oc=p.2:=bS e;exact d w' (by rw[<-q'];exact Qq)
theorem iM(I:aF X ae σ H s)(hN:X.N.Nodup)(hi:X.N[i]?=some x)(hx:Lz X.env.scope x)(r:bj v u)(h:∀s',aF X ae (σ.set i (some v)) H s'->Q () s')(hf:X.fn x=true\/X.env.scope.names.lookup x=some .local:=by first|exact .inl rfl|exact .inr rfl|assumption):wpAny M A (storeName X.env x u) Q E s:=
 jj I hN hi hx r (fun s' I' _=>h s' I') hf
theorem aF.G7(I:aF X ae σ H s)(ho:s'.os=s.os)(u:Un (jD X.stack) ch H H' s.heap s'.heap)(bA:ji X.prog X.w H' s'.heap)(hg:AllBare s'.gens)(Ep:∀b∈ch,(b∈X.ex\/X.s₀.heap.objs.size<=b)/\b≠X.env.locals/\(∀x c,X.env.cells.lookup x=some c->c≠b)/\∀p∈X.pn++ae,p.1≠b):aF X ae σ H' s':=by
 obtain⟨h',g',d',t',o'⟩:=s';have e:o'=s.os:=ho;subst e;exact I.call (g':=g') (t':=t') (d':=d') u bA hg Ep
end
abbrev XK:=Value->Option Addr->Hp->Prop
abbrev St:=List (Option V)
abbrev VK:=V->Hp->Prop
abbrev TE:=St->Hp->VK->Prop
abbrev TT:=St->Hp->(Bool->Hp->Prop)->Prop
abbrev TA:=St->Hp->(List V->Hp->Prop)->Prop
structure ub where
 nx:St->Hp->Prop
 rt:VK
 bk:St->Hp->Prop:=fun _ _=>False
 ct:St->Hp->Prop:=fun _ _=>False
abbrev TS:=ub->St->Hp->Prop
def EP(X:Cx)(ae:List (Addr×Obj))(σ:St)(Q:VK)(u:Value)(s':Shared):Prop:=∃v H',aF X ae σ H' s'/\bj v u/\Q v H'
def TP(X:Cx)(ae:List (Addr×Obj))(σ:St)(Q:Bool->Hp->Prop)(b:Bool)(s':Shared):Prop:=∃H',aF X ae σ H' s'/\Q b H'
def AP(X:Cx)(ae:List (Addr×Obj))(σ:St)(Q:List V->Hp->Prop)(us:List Value)(s':Shared):Prop:=∃vs H',aF X ae σ H' s'/\aR vs us/\Q vs H'
def SP(X:Cx)(ae:List (Addr×Obj))(D:ub)(f:Flow)(s':Shared):Prop:=
 match f with
 |.next=>∃σ' H',aF X ae σ' H' s'/\D.nx σ' H'
 |.brk=>∃σ' H',aF X ae σ' H' s'/\D.bk σ' H'
 |.cont=>∃σ' H',aF X ae σ' H' s'/\D.ct σ' H'
 |.ret u=>∃v σ' H',aF X ae σ' H' s'/\bj v u/\D.rt v H'
def PE(X:Cx)(e:Expr)(t:TE):Prop:=
 ∀ (ae:List (Addr×Obj)) (s:Shared) (σ:St) (H:Hp) (Q:VK),aF X ae σ H s->t σ H Q->wpAny (model X.prog X.w) X.A (eval e X.env) (EP X ae σ Q) X.xe s
def PT(X:Cx)(e:Expr)(t:TT):Prop:=
 ∀ (ae:List (Addr×Obj)) (s:Shared) (σ:St) (H:Hp) (Q:Bool->Hp->Prop),aF X ae σ H s->t σ H Q->wpAny (model X.prog X.w) X.A (isTrue e X.env (eval e X.env)) (TP X ae σ Q) X.xe s
def PW(X:Cx)(e:Expr)(t:TT):Prop:=
 ∀ (x0:Sem Value) (ae:List (Addr×Obj)) (s:Shared) (σ:St) (H:Hp) (Q:Bool->Hp->Prop),aF X ae σ H s->t σ H Q->wpAny (model X.prog X.w) X.A (isTrue e X.env x0) (TP X ae σ Q) X.xe s
theorem PW.pt(h:PW X e t):PT X e t:=h _
def PA(X:Cx)(es:List Expr)(t:TA):Prop:=
 ∀ (pos:Pos) (ae:List (Addr×Obj)) (s:Shared) (σ:St) (H:Hp) (Q:List V->Hp->Prop),aF X ae σ H s->t σ H Q->wpAny (model X.prog X.w) X.A (spliced (backTo pos (starEach es X.env))) (AP X ae σ Q) X.xe s
def PS(X:Cx)(st:Stmt)(t:TS):Prop:=
 ∀ (ae:List (Addr×Obj)) (s:Shared) (σ:St) (H:Hp) (D:ub),aF X ae σ H s->t D σ H->wpAny (model X.prog X.w) X.A (exec st X.env) (SP X ae D) X.xe s
def pL(X:Cx)(st:List Stmt)(t:TS):Prop:=
 ∀ (ae:List (Addr×Obj)) (s:Shared) (σ:St) (H:Hp) (D:ub),aF X ae σ H s->t D σ H->wpAny (model X.prog X.w) X.A (execs st X.env) (SP X ae D) X.xe s
theorem cn(h:wpAny M A t Q E s)(hQ:∀a s,Q a s->Q' a s):wpAny M A t Q' E s:=f_ h hQ fun _ _ x=>x
section
variable {X:Cx}
def br(i:Nat):TE:=fun σ H Q=>∃v,σ[i]?=some (some v)/\Q v H
def tC(v:V):TE:=fun _ H Q=>Q v H
theorem Ik(hN:X.N[i]?=some x)(hv:Ly X.env.scope x)(hd:(x==("__debug__":Str))=false:=by decide)(mQ:(x==("__classdict__":Str))=false:=by decide):PE X (.Name x pos) (br i):=by
 intro ae s σ H Q I h;obtain⟨v,e,h⟩:=h;obtain⟨m,hn,hl⟩:=I.loc;obtain⟨u,r,l⟩:=hl i x v hN e hv;have dt:EP X ae σ Q u s:=⟨v,H,I,r,h⟩
 rcases l with ⟨hk,hm⟩|⟨hk,c,hc,x_⟩
 .exact lQ (vZ I.ok.kind hk hn hm dt) hd
 .rcases hk with hk|hk
  .exact lQ (wpAny_loadName_cell I.ok.kind hk hc x_ dt) hd
  .exact lQ (we I.ok.kind hk hc x_ dt mQ) hd
theorem ap{i j pos}:PE X (.Constant (.int i) j pos) (tC (.int i)):=fun _ _ _ H _ I h=>wpAny_Constant_int ⟨.int i,H,I.tok _,⟨_,rfl⟩,h⟩
theorem dw{b j pos}:PE X (.Constant (.bool b) j pos) (tC (.bl b)):=fun _ _ _ H _ I h=>Constant_bool ⟨.bl b,H,I,rfl,h⟩
theorem dk{j pos}:PE X (.Constant .none j pos) (tC .bi):=fun _ _ _ H _ I h=>Constant_none ⟨.bi,H,I,rfl,h⟩
theorem j6{x j pos}:PE X (.Constant (.str x) j pos) (tC (.str x)):=fun _ _ _ H _ I h=>Calls.Constant_str ⟨.str x,H,I.tok _,⟨_,rfl⟩,h⟩
def Gl(X:Cx)(x:Str):Prop:=X.env.kindOf x=some .globalImplicit
theorem jk(I:aF X ae σ H s)(hg:Gl X x)(hm:X.mg x=some u)(h:Q u s)(hd:(x==("__debug__":Str))=false:=by decide):wpAny (model X.prog X.w) X.A (eval (.Name x pos) X.env) Q E s:=
 vE I.ok.kind hg (Calls.loadGlobal_global (by rw[I.ok.glob];exact I.mod.glob.keeps I.bk) hm h) hd
theorem lS(I:aF X ae σ H s)(hg:Gl X x)(hm:X.mg x=none)(hv:bootBuiltins x=some u)(h:Q u s)(hn:x≠"__name__":=by decide)(hd:(x==("__debug__":Str))=false:=by decide):wpAny (model X.prog X.w) X.A (eval (.Name x pos) X.env) Q E s:=by
 obtain⟨mb,h1,h2⟩:=I.mod.blt;exact vE I.ok.kind hg (Calls.loadGlobal_builtin (by rw[I.ok.glob];exact I.mod.glob.keeps I.bk) hm (by rw[I.ok.blt];exact h1.keeps I.bk) ((h2 x hn).trans hv) h) hd
theorem bV(hg:Gl X x)(hm:X.mg x=some u)(r:bj v u)(hd:(x==("__debug__":Str))=false:=by decide):PE X (.Name x pos) (tC v):=
 fun _ _ _ H _ I h=>jk I hg hm ⟨v,H,I,r,h⟩ hd
theorem eF(hg:Gl X x)(hm:X.mg x=none)(hv:bootBuiltins x=some u)(r:bj v u)(hn:x≠"__name__":=by decide)(hd:(x==("__debug__":Str))=false:=by decide):PE X (.Name x pos) (tC v):=
 fun _ _ _ H _ I h=>lS I hg hm hv ⟨v,H,I,r,h⟩ hn hd
variable {a b:Expr} {ta tb:TE} {pos:Pos}
def tB(t:TE):TT:=fun σ H Q=>t σ H fun x H1=>∃c,x=.bl c/\Q c H1
theorem bW(h:PE X e t)(he:∀x0,isTrue e X.env x0=(do let v <- x0;standAt e.pos;holding [v] (truthy v)):=by intro _;rfl):PT X e (tB t):=by
 intro ae s σ H Q I hw;refine isTrue_plain (cn (h ae s σ H _ I hw) fun v s1 ⟨x,H1,I1,r1,q1⟩=>?_) (he _);obtain⟨d,rfl,q⟩:=q1;cases r1;exact jT ⟨H1,I1,q⟩
variable {tA Pu:TT} {ni:List Expr}
def LD(t u:TT):TT:=fun σ H Q=>t σ H fun c H1=>if c=true then u σ H1 Q else Q false H1
def W4(t u:TT):TT:=fun σ H Q=>t σ H fun c H1=>if c=true then Q true H1 else u σ H1 Q
def Qr(t:TT):TT:=fun σ H Q=>t σ H fun c H1=>Q (!c) H1
theorem rT(ha:PT X a tA):PW X (.BoolOp .And [a] pos) tA:=by
 intro wh ae s σ H Q I h;refine isTrue_and (cn (ha ae s σ H Q I h) fun c s1 e=>?_);cases c with
 |true=>exact isTrue_and_nil e
 |false=>exact e
theorem j7(ha:PT X a tA):PW X (.BoolOp .Or [a] pos) tA:=by
 intro wh ae s σ H Q I h;refine isTrue_or (cn (ha ae s σ H Q I h) fun c s1 e=>?_);cases c with
 |false=>exact isTrue_or_nil e
 |true=>exact e
theorem wG(ha:PT X a tA)(hb:PW X (.BoolOp .And (b::ni) pos) Pu):PW X (.BoolOp .And (a::b::ni) pos) (LD tA Pu):=by
 intro wh ae s σ H Q I h;refine isTrue_and (cn (ha ae s σ H _ I h) fun c s1 ⟨H1,I1,q1⟩=>?_);cases c with
 |true=>exact hb wh ae s1 σ H1 Q I1 q1
 |false=>exact⟨H1,I1,q1⟩
theorem oQ(ha:PT X a tA)(hb:PW X (.BoolOp .Or (b::ni) pos) Pu):PW X (.BoolOp .Or (a::b::ni) pos) (W4 tA Pu):=by
 intro wh ae s σ H Q I h;refine isTrue_or (cn (ha ae s σ H _ I h) fun c s1 ⟨H1,I1,q1⟩=>?_);cases c with
 |true=>exact⟨H1,I1,q1⟩
 |false=>exact hb wh ae s1 σ H1 Q I1 q1
theorem cq(ha:PT X a tA):PT X (.UnaryOp .Not a pos) (Qr tA):=by
 intro ae s σ H Q I h;exact isTrue_not (ha ae s σ H (fun c H1=>Q (!c) H1) I h)
def LF(ta tb:TE):TE:=fun σ H Q=>ta σ H fun x H1=>∃c,x=.bl c/\if c=true then tb σ H1 Q else Q (.bl false) H1
def LG(ta:TE):TE:=fun σ H Q=>ta σ H fun x H1=>∃c,x=.bl c/\Q (.bl (!c)) H1
theorem lT{op}(h:PE X a t):PE X (.BoolOp op [a] pos) t:=fun ae s σ H Q I hw=>BoolOp_one (h ae s σ H Q I hw)
theorem j8(ha:PE X a ta)(hb:PE X (.BoolOp .And (b::ni) pos) tb):PE X (.BoolOp .And (a::b::ni) pos) (LF ta tb):=by
 intro ae s σ H Q I h;refine BoolOp_and (cn (ha ae s σ H _ I h) fun v s1 ⟨x,H1,I1,r1,q1⟩=>?_);obtain⟨c,rfl,q1⟩:=q1;cases r1;refine jT ?_;cases c with
 |true=>exact hb ae s1 σ H1 Q I1 q1
 |false=>exact⟨.bl false,H1,I1,rfl,q1⟩
theorem Il(ha:PE X a ta):PE X (.UnaryOp .Not a pos) (LG ta):=by
 intro ae s σ H Q I h;refine UnaryOp_ (cn (ha ae s σ H _ I h) fun v s1 ⟨x,H1,I1,r1,q1⟩=>?_);obtain⟨c,rfl,q1⟩:=q1;cases r1;exact not_of (jT ⟨.bl (!c),H1,I1,rfl,q1⟩)
def W5(t:TT)(ta tb:TE):TE:=fun σ H Q=>t σ H fun c H1=>if c=true then ta σ H1 Q else tb σ H1 Q
theorem Bj(hc:PT X c tA)(ha:PE X a ta)(hb:PE X b tb):PE X (.IfExp c a b pos) (W5 tA ta tb):=by
 intro ae s σ H Q I h;refine wpAny_IfExp (cn (hc ae s σ H _ I h) fun d s1 ⟨H1,I1,q1⟩=>?_);cases d with
 |true=>exact ha ae s1 σ H1 Q I1 q1
 |false=>exact hb ae s1 σ H1 Q I1 q1
end
def bz(K:PySem.W.Frag)(H:Hp)(a:Addr)(xs:List V):Prop:=
 Rd H a (.lst xs)\/
  ∃ (o:Obj) (its:Array Value) (n:Nat),K.lookup a=some o/\o.cls=.type "list"/\o.dict=none/\o.data=.seq its n/\its.size<=sizeLine/\aR xs its.toList
def bD(K:PySem.W.Frag)(H:Hp)(a:Addr)(xs:List V):Prop:=
 Rd H a (.tup xs)\/
  ∃ (o:Obj) (its:Array Value) (n:Nat),K.lookup a=some o/\o.cls=.type "tuple"/\o.data=.seq its n/\its.size<=sizeLine/\aR xs its.toList
def Qs:Value->Option V
 |.none=>some .bi
 |.bool b=>some (.bl b)
 |.int i _=>some (.int i)
 |.str x _=>some (.str x)
 |.bytes b _=>some (.AI b)
 |.float b _=>some (.Ig b)
 |.ref a=>some (.ref a)
 |.type n=>some (.ty n)
 |_=>none
theorem bj.abs(r:bj x u):Qs u=some x:=by
 cases x with
 |bi=>cases r;rfl
 |bl _=>cases r;rfl
 |int _=>obtain⟨t,rfl⟩:=r;rfl
 |str _=>obtain⟨t,rfl⟩:=r;rfl
 |AI _=>obtain⟨t,rfl⟩:=r;rfl
 |Ig _=>obtain⟨t,rfl⟩:=r;rfl
 |ref _=>cases r;rfl
 |ty _=>cases r;rfl
theorem bj.inj(r:bj x u)(q:bj y u):x=y:=bS (r.abs.symm.trans q.abs)
theorem aR.inj:∀ {xs ys:List V} {us:List Value},aR xs us->aR ys us->xs=ys
 |_,_,_,.nil,.nil=>rfl
 |_,_,_,.cons r t,.cons r' t'=>by rw[r.inj r',aR.inj t t']
section
variable {X:Cx} {ae:List (Addr×Obj)} {σ:St} {H:Hp} {s:Shared} {a:Addr} {xs ys:List V}
theorem bz.of{K:PySem.W.Frag}(h:H a=some (.lst xs)):bz K H a xs:=.inl (.inl h)
theorem bD.of{K:PySem.W.Frag}(h:H a=some (.tup xs)):bD K H a xs:=.inl (.inl h)
theorem aF.list(I:aF X ae σ H s)(h:bz X.K H a xs):∃its:List Value,aR xs its/\PlainL s.heap a its.toArray/\xs.length<=sizeLine:=by
 rcases h with h|⟨o,its,n,hk,hc,hd,hs,hz,r⟩
 .obtain⟨z,its,n,r,e⟩:=h.ok I.bA;exact⟨its,r,⟨_,n,e,rfl,rfl,rfl⟩,z⟩
 .refine⟨its.toList,r,⟨o,n,I.j5 a o hk,hc,hd,by simpa using hs⟩,?_⟩;have e:=r.length;simp only[jP] at e;lia
theorem aF.tuple(I:aF X ae σ H s)(h:bD X.K H a xs):∃its:List Value,aR xs its/\IsTup s.heap a its.toArray/\xs.length<=sizeLine:=by
 rcases h with h|⟨o,its,n,hk,hc,hs,hz,r⟩
 .obtain⟨z,its,r,p⟩:=h.ok I.bA;exact⟨its,r,p.tup,z⟩
 .refine⟨its.toList,r,⟨o,I.j5 a o hk,hc,n,by simpa using hs⟩,?_⟩;have e:=r.length;simp only[jP] at e;lia
theorem aF.Bk(I:aF X ae σ H s)(h:bz X.K H a xs)(h':bz X.K H a ys):xs=ys:=by
 obtain⟨its,r,⟨o,n,e,_,_,d⟩,_⟩:=I.list h;obtain⟨its',r',⟨o',n',e',_,_,d'⟩,_⟩:=I.list h';rw[e] at e';cases e';rw[d] at d';injection d' with d1 _;have:its=its':=by simpa using congrArg Array.toList d1
 subst this;exact r.inj r'
theorem aF.gs(I:aF X ae σ H s)(h:bD X.K H a xs)(h':bD X.K H a ys):xs=ys:=by
 obtain⟨its,r,⟨o,e,_,n,d⟩,_⟩:=I.tuple h;obtain⟨its',r',⟨o',e',_,n',d'⟩,_⟩:=I.tuple h';rw[e] at e';cases e';rw[d] at d';injection d' with d1 _;have:its=its':=by simpa using congrArg Array.toList d1
 subst this;exact r.inj r'
end
abbrev Cx.pT(X:Cx)(E:Value->Shared->Prop):Cx:={ X with xe:=E }
abbrev Cx.Es(X:Cx):Cx:=X.pT fun _ _=>False
theorem Cx.Ok.pT{X:Cx}(ok:X.Ok)(E:Value->Shared->Prop):(X.pT E).Ok:=
 ⟨ok.mod,ok.kind,ok.glob,ok.blt,ok.above,ok.inj,ok.has,ok.Ih,ok.hd,ok.frames,ok.AJ,ok.LA,ok.bs,ok.zq,ok.lR,ok.zu,ok.iL,ok.AK⟩
theorem Cx.Ok.iN{X:Cx}{E:Value->Shared->Prop}(ok:(X.pT E).Ok):X.Ok:=
 ⟨ok.mod,ok.kind,ok.glob,ok.blt,ok.above,ok.inj,ok.has,ok.Ih,ok.hd,ok.frames,ok.AJ,ok.LA,ok.bs,ok.zq,ok.lR,ok.zu,ok.iL,ok.AK⟩
section
variable {X:Cx} {ae:List (Addr×Obj)} {σ:St} {H:Hp} {s:Shared} {E:Value->Shared->Prop}
theorem aF.pT(I:aF X ae σ H s)(E:Value->Shared->Prop):aF (X.pT E) ae σ H s:=⟨I.ok.pT E,I.os,I.bare,I.base,I.loc,I.cell,I.free,I.fJ,I.pin,I.bA,I.len⟩
theorem aF.iN(I:aF (X.pT E) ae σ H s):aF X ae σ H s:=⟨I.ok.iN,I.os,I.bare,I.base,I.loc,I.cell,I.free,I.fJ,I.pin,I.bA,I.len⟩
theorem SP.iN(h:SP (X.pT E) ae D f s'):SP X ae D f s':=by
 cases f with
 |next=>obtain⟨σ',H',I,q⟩:=h;exact⟨σ',H',I.iN,q⟩
 |brk=>obtain⟨σ',H',I,q⟩:=h;exact⟨σ',H',I.iN,q⟩
 |cont=>obtain⟨σ',H',I,q⟩:=h;exact⟨σ',H',I.iN,q⟩
 |ret u=>obtain⟨v,σ',H',I,r,q⟩:=h;exact⟨v,σ',H',I.iN,r,q⟩
theorem pL.Es{st:List Stmt}{t:TS}(h:pL X.Es st t):pL X st t:=fun ae s σ H D I hw=>
 f_ (h ae s σ H D (I.pT _) hw) (fun _ _ q=>q.iN) fun _ _ z=>False.elim z
end
section
variable {X:Cx} {st:Stmt} {ni:List Stmt} {t u:TS} {e:Expr} {te:TE} {pos:Pos}
def LI:TS:=fun D σ H=>D.nx σ H
def LJ(t u:TS):TS:=fun D σ H=>t { D with nx:=u D } σ H
theorem aI:pL X [] LI:=fun _ _ σ H _ I h=>oH ⟨σ,H,I,h⟩
theorem ah(h1:PS X st t)(h2:pL X ni u):pL X (st::ni) (LJ t u):=by
 intro ae s σ H D I h;refine wpAny_execs_cons (cn (h1 ae s σ H { D with nx:=u D } I h) fun f s1 q=>?_);cases f with
 |next=>
  obtain⟨σ',H',I',q⟩:=q;exact h2 ae s1 σ' H' D I' q
 |ret v=>exact q
 |brk=>exact q
 |cont=>exact q
theorem aj(h1:PS X st t):pL X [st] t:=by
 intro ae s σ H D I h;refine wpAny_execs_cons (cn (h1 ae s σ H D I h) fun f s1 q=>?_);cases f with
 |next=>exact oH q
 |ret v=>exact q
 |brk=>exact q
 |cont=>exact q
theorem aF.quiet(I:aF X ae σ H s):interactive X.env=false:=by simp[interactive,I.ok.kind]
def Bm(te:TE):TS:=fun D σ H=>te σ H fun _ H1=>D.nx σ H1
theorem bL(he:PE X e te)(hs:swapsWith e none pos.line X.env=pure false:=by rfl):PS X (.Expr e pos) (Bm te):=by
 intro ae s σ H D I h;exact wpAny_Expr_any (cn (he ae s σ H _ I h) fun v s1 ⟨x,H1,I1,r1,q1⟩=>⟨σ,H1,I1,q1⟩) I.quiet hs
def Im(te:TE):TS:=fun D σ H=>te σ H D.rt
theorem aE(he:PE X e te):PS X (.Return (some e) pos) (Im te):=by
 intro ae s σ H D I h;exact wpAny_Return_some (cn (he ae s σ H _ I h) fun v s1 ⟨x,H1,I1,r1,q1⟩=>⟨x,σ,H1,I1,r1,q1⟩)
def LK(c:TT)(t u:TS):TS:=fun D σ H=>c σ H fun b H1=>if b=true then t D σ H1 else u D σ H1
theorem a8(hc:PT X c tc)(ha:pL X a t)(hb:pL X b u):PS X (.If c a b pos) (LK tc t u):=by
 intro ae s σ H D I h;refine wpAny_If (cn (hc ae s σ H _ I h) fun d s1 ⟨H1,I1,q1⟩=>?_);cases d with
 |true=>exact ha ae s1 σ H1 D I1 q1
 |false=>exact hb ae s1 σ H1 D I1 q1
def Io:TS:=fun _ _ _=>False
theorem cH:pL X ZV Io:=fun _ _ _ _ _ _ h=>h.elim
end
abbrev TG:=V->St->Hp->(St->Hp->Prop)->Prop
abbrev LL:=List V->St->Hp->(St->Hp->Prop)->Prop
def PG(X:Cx)(Ip:Expr)(t:TG):Prop:=
 ∀ (ae:List (Addr×Obj)) (s:Shared) (σ:St) (H:Hp) (v:V) (u:Value) (Q:St->Hp->Prop),aF X ae σ H s->bj v u->t v σ H Q->
  wpAny (model X.prog X.w) X.A (assign Ip X.env u) (fun _ s'=>∃σ' H',aF X ae σ' H' s'/\Q σ' H') X.xe s
def Pw(X:Cx)(ts:List Expr)(t:LL):Prop:=
 ∀ (ae:List (Addr×Obj)) (s:Shared) (σ:St) (H:Hp) (vs:List V) (us:List Value) (Q:St->Hp->Prop),aF X ae σ H s->aR vs us->t vs σ H Q->
  wpAny (model X.prog X.w) X.A (assignInOrder ((assignEach ts X.env).map (·.2)) us) (fun _ s'=>∃σ' H',aF X ae σ' H' s'/\Q σ' H') X.xe s
abbrev LM:=V->V->V->Hp->(Hp->Prop)->Prop
def LN(X:Cx)(t:LM):Prop:=
 ∀ (ae:List (Addr×Obj)) (s:Shared) (σ:St) (H:Hp) (o i v:V) (ov iv u:Value) (Q:Hp->Prop),aF X ae σ H s->bj o ov->bj i iv->bj v u->t o i v H Q->
  wpAny (model X.prog X.w) X.A (setItem ov iv u) (fun _ s'=>∃H',aF X ae σ H' s'/\Q H') X.xe s
abbrev Qt:=V->V->Hp->VK->Prop
def Px(X:Cx)(op:Operator)(t:Qt):Prop:=
 ∀ (ae:List (Addr×Obj)) (s:Shared) (σ:St) (H:Hp) (x y:V) (v u:Value) (Q:VK),aF X ae σ H s->bj x v->bj y u->t x y H Q->
  wpAny (model X.prog X.w) X.A (inplaceOp op v u) (EP X ae σ Q) X.xe s
section
variable {X:Cx} {pos:Pos}
def cI(i:Nat):TG:=fun v σ H Q=>Q (σ.set i (some v)) H
theorem aB(hN:X.N.Nodup)(hi:X.N[i]?=some x)(hx:Lz X.env.scope x)(hf:X.fn x=true\/X.env.scope.names.lookup x=some .local:=by first|exact .inl rfl|exact .inr rfl|assumption):PG X (.Name x pos) (cI i):=by
 intro ae s σ H v u Q I r h;exact wpAny_assign_Name (iM I hN hi hx r (fun s' I'=>⟨_,H,I',h⟩) hf)
def Bn:LL:=fun vs σ H Q=>vs=[]/\Q σ H
def kL(t:TG)(u:LL):LL:=fun vs σ H Q=>∃v r,vs=v::r/\t v σ H fun σ' H'=>u r σ' H' Q
theorem eG:Pw X [] Bn:=by
 intro ae s σ H vs us Q I r h;obtain⟨e,h⟩:=h;subst e;cases r;exact assignInOrder_nil ⟨σ,H,I,h⟩
theorem ba(h1:PG X e t)(h2:Pw X es u)(hs:(assignEach (e::es) X.env).map (·.2)=assign e X.env::(assignEach es X.env).map (·.2):=by rfl):Pw X (e::es) (kL t u):=by
 intro ae s σ H vs us Q I r h;obtain⟨v,vr,e1,h⟩:=h;subst e1;cases r with
 |cons r rr=>
  rw[hs];refine assignInOrder_cons (cn (h1 ae s σ H _ _ _ I r h) fun _ s1 ⟨σ1,H1,I1,q1⟩=>?_);exact h2 ae s1 σ1 H1 _ _ Q I1 rr q1
def Bo(K:PySem.W.Frag)(n:Nat)(t:LL):TG:=fun v σ H Q=>∃a xs,v=.ref a/\bD K H a xs/\xs.length=n/\t xs σ H Q
theorem gb(hc:X.calm=true)(h:Pw X es t)(hn:(assignEach es X.env).length=n:=by rfl)(eV:(assignEach es X.env).findIdx? (·.1)=none:=by rfl):PG X (.Tuple es k pos) (Bo X.K n t):=by
 intro ae s σ H v u Q I r hw;obtain⟨a,xs,e1,hq,hl,hw⟩:=hw;subst e1;cases r;obtain⟨its,rv,ht,hz⟩:=I.tuple hq;refine assign_Tuple_tuple (I.ok.hd hc) ht (by simp[hn,<-hl,rv.length]) eV fun h' hx=>?_;have I1:aF X ae σ H { s with heap:=h' }:=I.kept (t':=s.toks) fun b o e=>hx b o (aZ (aX e)) e;exact h ae _ σ H xs _ Q I1 (by simpa using rv) hw
def Qu(to ti:TE)(t:LM):TG:=fun v σ H Q=>to σ H fun o H1=>ti σ H1 fun i H2=>t o i v H2 fun H3=>Q σ H3
theorem rV(ho:PE X o to)(hi:PE X i ti)(hs:LN X t)(ha:∀v,assign (.Subscript o i pos) X.env v=(do
   let ov <- holding [v] (eval o X.env)
   let iv <- holding [v,ov] (eval i X.env)
   standAt pos
   holding [v,ov,iv] (setItem ov iv v)
   release [v,ov,iv] []):=by intro _;rfl):PG X (.Subscript o i pos) (Qu to ti t):=by
 intro ae s σ H v u Q I r h;rw[ha];refine aw (iB (cn (ho ae s σ H _ I h) fun ov s1 ⟨x,H1,I1,r1,q1⟩=>?_));refine aw (iB (cn (hi ae s1 σ H1 _ I1 q1) fun iv s2 ⟨y,H2,I2,r2,q2⟩=>?_));refine aw (lL (aw (iB (cn (hs ae s2 σ H2 x y v ov iv u _ I2 r1 r2 r q2) fun _ s3 ⟨H3,I3,q3⟩=>?_))));exact wpAny_release ⟨σ,H3,I3,q3⟩
def EN(te:TE)(g:TG):TS:=fun D σ H=>te σ H fun x H1=>g x σ H1 D.nx
theorem iO(he:PE X e te)(hg:PG X tg g)(hs:swapsWithSole [tg] e pos.line X.env=pure false:=by rfl)(hw:swappedStores [tg] e X.env=pure none:=by rfl)(h1:(assignEach [tg] X.env).map (·.2)=[assign tg X.env]:=by rfl):PS X (.Assign [tg] e pos) (EN te g):=by
 intro ae s σ H D I h;refine wpAny_Assign_stores (cn (he ae s σ H _ I h) fun v s1 ⟨x,H1,I1,r1,q1⟩=>?_) hs hw;rw[h1];exact cn (hg ae s1 σ H1 x v _ I1 r1 q1) fun _ s2 q=>q
theorem aL(hN:X.N.Nodup)(hi:X.N[i]?=some x)(hx:Lz X.env.scope x)(he:PE X e te)(hs:swapsWith e (some (.Name x zw)) pos.line X.env=pure false:=by rfl)(hf:X.fn x=true\/X.env.scope.names.lookup x=some .local:=by first|exact .inl rfl|exact .inr rfl|assumption):
  PS X (.Assign [.Name x zw] e pos) (EN te (cI i)):=by
 intro ae s σ H D I h;refine wpAny_Assign_Name (cn (he ae s σ H _ I h) fun v s1 ⟨y,H1,I1,r1,q1⟩=>?_) hs;exact iM I1 hN hi hx r1 (fun s2 I2=>⟨_,H1,I2,q1⟩) hf
def Qv(i j:Nat)(ta:TA):TS:=fun D σ H=>ta σ H fun vs H1=>∃v w,vs=[v,w]/\D.nx ((σ.set i (some v)).set j (some w)) H1
theorem Bp{kt k2 Qw}(hc:X.calm=true)(hN:X.N.Nodup)(hi:X.N[i]?=some x)(hj:X.N[j]?=some y)(W6:i≠j)(hx:X.env.scope.names.lookup x=some .local)(hy:X.env.scope.names.lookup y=some .local)(ha:PA X [a,b] ta)(hw:swappedStores [.Tuple [.Name x px,.Name y py] kt pt] (.Tuple [a,b] k2 Qw) X.env=pure (some [x,y]))(hs:swapsWithSole [.Tuple [.Name x px,.Name y py] kt pt] (.Tuple [a,b] k2 Qw) pos.line X.env=pure false:=by rfl):
  PS X (.Assign [.Tuple [.Name x px,.Name y py] kt pt] (.Tuple [a,b] k2 Qw) pos) (Qv i j ta):=by
 intro ae s σ H D I h;rw[exec_Assign_arm];refine aw (lL ?_);rw[hs];refine aw (wpAny_pure ?_);rw[ao (by decide)];refine aw (Tuple_ (cn (ha _ ae s σ H _ I h) fun us s1 ⟨vs,H1,I1,r1,q1⟩=>?_));obtain⟨v,w,e1,q1⟩:=q1;subst e1;obtain⟨u1,u2,rfl,rv,LO⟩:∃u1 u2,us=[u1,u2]/\bj v u1/\bj w u2:=by
  cases r1 with
  |cons p q=>
   cases q with
   |cons p' q'=>
    cases q';exact⟨_,_,rfl,p,p'⟩
 refine iz ?_ (by show 2<=sizeLine;decide);have I2:aF X ae σ H1 { s1 with heap:=s1.heap.push { cls:=.type "tuple",data:=.seq [u1,u2].toArray } }:=I1.kept (t':=s1.toks) fun b o e=>cE _ e;rw[hw];refine aw (wpAny_pure ?_);show wpAny (model X.prog X.w) X.A (do rule "assign.swapped-stores";let items <- unpackItems (.ref s1.heap.objs.size) 2 none;assignInOrder [fun v=>bindName X.env y v,fun v=>bindName X.env x v] items.reverse;pure Flow.next) _ _ _;refine aw (f9 (aw (unpackItems_tuple (items:=#[u1,u2]) (I.ok.hd hc) (IsTup.new s1.heap _) fun h' rW=>?_)));have I3:=I2.kept (h':=h') (t':=s1.toks) fun b o e=>rW b o (aZ (aX e)) e;show wpAny _ _ (assignInOrder [fun v=>bindName X.env y v,fun v=>bindName X.env x v] [u2,u1] >>= fun _=>pure Flow.next) _ _ _;refine aw (assignInOrder_cons (wpAny_bindName (iM I3 hN hj (.inl hy) LO (fun s2 I4=>?_) (.inr hy))));refine assignInOrder_cons (wpAny_bindName (iM I4 hN hi (.inl hx) rv (fun s3 I5=>assignInOrder_nil (wpAny_pure ?_)) (.inr hx)));rw[List.set_comm _ _ (ci W6)] at I5;exact⟨_,H1,I5,q1⟩
def Qx(i:Nat)(te:TE)(ti:Qt):TS:=fun D σ H=>∃x,σ[i]?=some (some x)/\te σ H fun y H1=>ti x y H1 fun z H2=>D.nx (σ.set i (some z)) H2
theorem rX(hN:X.N.Nodup)(hi:X.N[i]?=some x)(hx:Lz X.env.scope x)(he:PE X e te)(ho:Px X op ti)(hf:X.fn x=true\/X.env.scope.names.lookup x=some .local:=by first|exact .inl rfl|exact .inr rfl|assumption):
  PS X (.AugAssign (.Name x zw) op e pos) (Qx i te ti):=by
 intro ae s σ H D I h;obtain⟨v,e1,h⟩:=h;obtain⟨m,hn,hl⟩:=I.loc;have Qy:Ly X.env.scope x:=by rcases hx with k|k;exact .inl k;exact .inr (.inl k)
 obtain⟨u,r,l⟩:=hl i x v hi e1 Qy;refine wpAny_AugAssign_Name ?_;have go:wpAny (model X.prog X.w) X.A (eval e X.env) (fun w s₂=>wpAny (model X.prog X.w) X.A (inplaceOp op u w) (fun r s₃=>wpAny (model X.prog X.w) X.A (storeName X.env x r) (fun _=>SP X ae D .next) X.xe s₃) X.xe s₂) X.xe s:=by
  refine cn (he ae s σ H _ I h) fun w s1 ⟨y,H1,I1,r1,q1⟩=>?_;refine cn (ho ae s1 σ H1 v y u w _ I1 r r1 q1) fun z s2 ⟨zv,H2,I2,r2,q2⟩=>?_;exact iM I2 hN hi hx r2 (fun s3 I3=>⟨_,H2,I3,q2⟩) hf
 rcases l with ⟨hk,hm⟩|⟨hk,c,hc,x_⟩
 .exact vZ I.ok.kind hk hn hm go
 .rcases hk with hk|hk
  .exact wpAny_loadName_cell I.ok.kind hk hc x_ go
  .rcases hx with k|k
   .have:X.env.scope.names.lookup x=some .free:=hk;rw[k] at this;cases this
   .have:X.env.scope.names.lookup x=some .free:=hk;rw[k] at this;cases this
def W7(f:Int->Int->Int):Qt:=fun x y H Q=>∃i j,x=.int i/\y=.int j/\Q (.int (f i j)) H
theorem Iq:Px X .Add (W7 fun i j=>i+j):=by
 intro ae s σ H x y v u Q I r1 r2 h;obtain⟨i,j,e1,e2,q⟩:=h;subst e1;subst e2;obtain⟨t,rfl⟩:=r1;obtain⟨t',rfl⟩:=r2;exact iadd_int ⟨.int _,H,I.tok _,⟨_,rfl⟩,q⟩
def Bq(c:TT)(tb:TS):TS:=fun D σ H=>∃W:Nat->St->Hp->Prop,(∃m,W m σ H)/\∀m σ H,W m σ H->
 c σ H fun b H1=>if b=true then ∃N:St->Hp->Prop,(∀σ' H',N σ' H'->∃m',m'<m/\W m' σ' H')/\tb { D with nx:=N,ct:=N,bk:=D.nx } σ H1 else D.nx σ H1
theorem Br(hp:PassesOwn (model X.prog X.w) X.A X.env X.xe)(hc:PT X c tc)(hb:pL X body tb):PS X (.While c body [] pos) (Bq tc tb):=by
 intro ae s σ H D I h;obtain⟨W,⟨m0,w0⟩,Bu⟩:=h;refine wpAny_While (codeAny_whileLoop (fun n s'=>∃σ' H',aF X ae σ' H' s'/\W n σ' H') ?_ m0 ⟨σ,H,I,w0⟩);rintro n s1 ⟨σ1,H1,I1,w1⟩;refine jW hp (cn (hc ae s1 σ1 H1 _ I1 (Bu n σ1 H1 w1)) fun b s2 ⟨H2,I2,q2⟩=>?_);cases b with
 |true=>
  obtain⟨N,hN,q2⟩:=q2;rw[am rfl];refine jW hp (cn (hb ae s2 σ1 H2 _ I2 q2) fun f s3 q3=>?_);cases f with
  |next=>
   obtain⟨σ3,H3,I3,n3⟩:=q3;obtain⟨m',hm,w3⟩:=hN σ3 H3 n3;exact⟨m',hm,σ3,H3,I3,w3⟩
  |cont=>
   obtain⟨σ3,H3,I3,n3⟩:=q3;obtain⟨m',hm,w3⟩:=hN σ3 H3 n3;exact⟨m',hm,σ3,H3,I3,w3⟩
  |brk=>exact q3
  |ret v=>exact q3
 |false=>
  rw[ao bJ];exact oH ⟨σ1,H2,I2,q2⟩
end
structure It where
 go:Nat->Hp->Prop
 G8:Nat->Hp->V->Hp->Prop
 stop:Nat->Hp->Prop
 EO:Around->Hp->Prop
def jy(X:Cx)(ae:List (Addr×Obj))(H:Hp)(b:Addr):Prop:=
 H b=none/\b≠X.env.locals/\b∉X.fs/\(b∈X.ex\/X.s₀.heap.objs.size<=b)/\(∀x c,X.env.cells.lookup x=some c->c≠b)/\∀p∈X.pn++ae,p.1≠b
theorem aF.Bv(I:aF X ae σ H s)(hb:s.heap.objs.size<=b)(hn:H' b=none):jy X ae H' b:=by
 refine⟨hn,jY (cM I.lt hb),I.Qn hb,.inr (bq I.sz hb),fun x c e z=>?_,fun p hp z=>?_⟩
 .obtain⟨v,q⟩:=I.cell x c e;exact absurd (cM q.lt (by rw[z];exact hb)) (gn _)
 .exact absurd (cM (aX (I.pin p hp).1) (by rw[z];exact hb)) (gn _)
structure wH(P:Program)(w:World)(K:PySem.W.Frag)(tg:Expr)(J:It)(fp:List Addr)(it:Addr)(tn:Nat->Heap->Prop):Prop where
 mem:it∈fp
 obj:∀i h,tn i h->∀b∈fp,∃o,h.get? b=some o/\∀v,o.data≠.cell v
 keep:∀i h h',tn i h->(∀b∈fp,∀o,h.get? b=some o->h'.get? b=some o)->tn i h'
 item:∀ (X:Cx),X.prog=P->X.w=w->X.K=K->∀ (i:Nat) (ae:List (Addr×Obj)) (s:Shared) (σ:St) (H:Hp) (E:Value->Shared->Prop),(X.calm=true\/J.EO X.A H)->aF X ae σ H s->(∀b∈fp,jy X ae H b)->tn i s.heap->J.go i H->
  wpAny (model P w) X.A (pyNext (.ref it)) (fun r s1=>∃u,r=some u/\
   wpAny (model P w) X.A (letOwnedTupleGo tg (.ref it) u) (fun _ s2=>∃x H',aF X ae σ H' s2/\bj x u/\J.G8 i H x H'/\tn (i+1) s2.heap/\∀b∈fp,H' b=none) E s1) E s
 done:∀ (X:Cx),X.prog=P->X.w=w->X.K=K->∀ (i:Nat) (ae:List (Addr×Obj)) (s:Shared) (σ:St) (H:Hp) (E:Value->Shared->Prop),(X.calm=true\/J.EO X.A H)->aF X ae σ H s->(∀b∈fp,jy X ae H b)->tn i s.heap->J.stop i H->
  wpAny (model P w) X.A (pyNext (.ref it)) (fun r s1=>r=none/\aF X ae σ H s1) E s
 self:∀ (A:Around) (i:Nat) (s:Shared) (Q:Value->Shared->Prop) (E:Value->Shared->Prop),tn i s.heap->Q (.ref it) s->wpAny (model P w) A (pyIter (.ref it)) Q E s
abbrev TI:=St->Hp->(It->Hp->Prop)->Prop
def Vo(X:Cx)(ae:List (Addr×Obj))(σ:St)(tg:Expr)(R:It->Hp->Prop)(LP:Value)(s2:Shared):Prop:=
 ∃ (it:Addr) (fp:List Addr) (tn:Nat->Heap->Prop) (J:It) (H':Hp),LP=.ref it/\aF X ae σ H' s2/\wH X.prog X.w X.K tg J fp it tn/\tn 0 s2.heap/\(∀b∈fp,jy X ae H' b)/\R J H'
def PI(X:Cx)(tg gc:Expr)(wi:TI):Prop:=
 ∀ (ae:List (Addr×Obj)) (s:Shared) (σ:St) (H:Hp) (R:It->Hp->Prop),aF X ae σ H s->wi σ H R->
  wpAny (model X.prog X.w) X.A (eval gc X.env) (fun v s1=>wpAny (model X.prog X.w) X.A (pyIter v) (Vo X ae σ tg R) X.xe s1) X.xe s
theorem Bw(ho:s.heap.get? it=some o)(hc:o.cls=.type n)(hd:o.data=.fields vs)(hn:["enumerate","zip","dict_itemiterator","dict_reverseitemiterator","odict_iterator","itertools.zip_longest","itertools.pairwise"].contains n=false)(hQ:Q () s):wpAny M A (letOwnedTupleGo tg (.ref it) u) Q E s:=by
 unfold letOwnedTupleGo;cases tg <;> first
  |exact wpAny_pure hQ
  |(cases u <;> first
    |exact wpAny_pure hQ
    |(refine aw (wpAny_load ho ?_);rw[hc,hd];show wpAny M A (if (["enumerate","zip","dict_itemiterator","dict_reverseitemiterator","odict_iterator","itertools.zip_longest","itertools.pairwise"].contains n&&vs[0]?==some (rawInt _))=true then _ else _) Q E s;rw[ao (by intro h;rw[hn,Bool.false_and] at h;cases h)];exact wpAny_pure hQ))
def EQ(K:PySem.W.Frag)(a:Addr):It:=
 ⟨fun i H=>∃xs x,bz K H a xs/\xs[i]?=some x,fun i H x H'=>H'=H/\∀xs,bz K H a xs->xs[i]?=some x,fun i H=>∃xs,bz K H a xs/\xs.length<=i,fun _ _=>False⟩
def LQ(K:PySem.W.Frag)(a:Addr):It:=
 ⟨fun i H=>∃xs x,bD K H a xs/\xs[i]?=some x,fun i H x H'=>H'=H/\∀xs,bD K H a xs->xs[i]?=some x,fun i H=>∃xs,bD K H a xs/\xs.length<=i,fun _ _=>False⟩
def By(lo:Int)(n:Nat):It:=⟨fun i _=>i<n,fun i H x H'=>H'=H/\x=.int (lo+i),fun i _=>n<=i,fun A H=>A.handled=none\/∃p φ,A.handled=some (.ref p)/\H p=some (.ext φ)/\∀h,φ h->tY p h⟩
theorem zx{P:Program}{w:World}{K:PySem.W.Frag}{tg:Expr}(a it:Addr):wH P w K tg (EQ K a) [it] it (fun i h=>h.IsListIter it a i) where
 mem:=by simp
 obj:=fun i h st b hb=>by
  have e:b=it:=by simpa using hb
  subst e;obtain⟨o,e,c,d⟩:=st;exact⟨o,e,fun v z=>by rw[d] at z;cases z⟩
 keep:=fun i h h' st k=>st.at fun o e=>k it (by simp) o e
 item:=by
  intro X hP hw hK i ae s σ H E Bz I hf st hg;subst hP hw hK;have hc:X.calm=true:=Bz.elim id fun z=>(show False from z).elim;obtain⟨xs,x,hq,hx⟩:=hg;obtain⟨its,rv,p,hz⟩:=I.list hq;obtain⟨u,hu,ru⟩:=rv.get hx;obtain⟨f0,f1,f2,f3,f4,f5⟩:=hf it (by simp);refine wpAny_pyNext_list_item st p.isList (x:=u) (by simpa using hu) fun h' aW sb=>?_;have I1:aF X ae σ H { s with heap:=h' }:=I.turned (t':=s.toks) (fun b o hb e=>(sb.2 b hb).trans e) f0 f1 f3 f4 f5;obtain⟨o,e,c,d⟩:=id aW;exact⟨u,rfl,Bw (s:={ s with heap:=h' }) e c d (by decide) ⟨x,H,I1,ru,⟨rfl,fun ys hy=>by rw[I.Bk hy hq];exact hx⟩,aW,fun b hb=>(hf b hb).1⟩⟩
 done:=by
  intro X hP hw hK i ae s σ H E Bz I hf st hg;subst hP hw hK;have hc:X.calm=true:=Bz.elim id fun z=>(show False from z).elim;obtain⟨xs,hq,hx⟩:=hg;obtain⟨its,rv,p,hz⟩:=I.list hq;obtain⟨f0,f1,f2,f3,f4,f5⟩:=hf it (by simp);have hl:=rv.length;exact wpAny_pyNext_list_end (I.ok.hd hc) st p.isList (by simp;lia) fun h' eb=>⟨rfl,I.turned (t':=s.toks) (fun b o hb e=>eb b o hb e) f0 f1 f3 f4 f5⟩
 self:=fun _ _ _ _ _ st h=>wpAny_pyIter_listiter st h
theorem wI{P:Program}{w:World}{K:PySem.W.Frag}{tg:Expr}(a it:Addr):wH P w K tg (LQ K a) [it] it (fun i h=>h.IsTupleIter it a i) where
 mem:=by simp
 obj:=fun i h st b hb=>by
  have e:b=it:=by simpa using hb
  subst e;obtain⟨o,e,c,d⟩:=st;exact⟨o,e,fun v z=>by rw[d] at z;cases z⟩
 keep:=fun i h h' st k=>st.at fun o e=>k it (by simp) o e
 item:=by
  intro X hP hw hK i ae s σ H E Bz I hf st hg;subst hP hw hK;have hc:X.calm=true:=Bz.elim id fun z=>(show False from z).elim;obtain⟨xs,x,hq,hx⟩:=hg;obtain⟨its,rv,p,hz⟩:=I.tuple hq;obtain⟨u,hu,ru⟩:=rv.get hx;obtain⟨f0,f1,f2,f3,f4,f5⟩:=hf it (by simp);refine wpAny_pyNext_tuple_item st (show s.heap.IsTuple a its.toArray from p) (x:=u) (by simpa using hu) fun h' aW sb=>?_;have I1:aF X ae σ H { s with heap:=h' }:=I.turned (t':=s.toks) (fun b o hb e=>(sb.2 b hb).trans e) f0 f1 f3 f4 f5;obtain⟨o,e,c,d⟩:=id aW;exact⟨u,rfl,Bw (s:={ s with heap:=h' }) e c d (by decide) ⟨x,H,I1,ru,⟨rfl,fun ys hy=>by rw[I.gs hy hq];exact hx⟩,aW,fun b hb=>(hf b hb).1⟩⟩
 done:=by
  intro X hP hw hK i ae s σ H E Bz I hf st hg;subst hP hw hK;have hc:X.calm=true:=Bz.elim id fun z=>(show False from z).elim;obtain⟨xs,hq,hx⟩:=hg;obtain⟨its,rv,p,hz⟩:=I.tuple hq;obtain⟨f0,f1,f2,f3,f4,f5⟩:=hf it (by simp);have hl:=rv.length;exact wpAny_pyNext_tuple_end (I.ok.hd hc) st (show s.heap.IsTuple a its.toArray from p) (by simp;lia) fun h' eb=>⟨rfl,I.turned (t':=s.toks) (fun b o hb e=>eb b o hb e) f0 f1 f3 f4 f5⟩
 self:=fun _ _ _ _ _ st h=>wpAny_pyIter_tupleiter st h
theorem wJ{P:Program}{w:World}{K:PySem.W.Frag}{tg:Expr}(it:Addr)(lo:Int)(n:Nat):wH P w K tg (By lo n) [it] it (fun i h=>IsRangeIter h it (lo+(i:Nat)*1) ((n:Int)-(i:Nat)) 1) where
 mem:=by simp
 obj:=fun i h st b hb=>by
  have e:b=it:=by simpa using hb
  subst e;exact⟨_,st,fun v z=>by
   have z':Data.fields _=Data.cell v:=z;cases z'⟩
 keep:=fun i h h' st k=>k it (by simp) _ st
 item:=by
  intro X hP hw hK i ae s σ H E hc I hf st hg;subst hP hw hK;obtain⟨f0,f1,f2,f3,f4,f5⟩:=hf it (by simp);refine wpAny_pyNext_range_item st (by have:i<n:=hg;lia) fun h' aW sb=>?_;have I1:aF X ae σ H { s with heap:=h',toks:=s.toks+1 }:=I.turned (fun b o hb e=>(sb.2 b hb).trans e) f0 f1 f3 f4 f5;have qr:IsRangeIter h' it (lo+((i+1:Nat):Int)*1) ((n:Int)-((i+1:Nat):Int)) 1:=by
   rw[show lo+((i+1:Nat):Int)*1=lo+(i:Int)*1+1 by lia,show (n:Int)-((i+1:Nat):Int)=(n:Int)-(i:Int)-1 by lia];exact aW
  exact⟨_,rfl,Bw (s:={ s with heap:=h',toks:=s.toks+1 }) (n:="range_iterator") qr rfl rfl (by decide) ⟨.int (lo+i),H,I1,⟨s.toks,by rw[Int.mul_one]⟩,⟨rfl,rfl⟩,qr,fun b hb=>(hf b hb).1⟩⟩
 done:=by
  intro X hP hw hK i ae s σ H E hc I hf st hg;subst hP hw hK;obtain⟨f0,f1,f2,f3,f4,f5⟩:=hf it (by simp);have he:X.A.handled=none\/∃p φ,X.A.handled=some (.ref p)/\H p=some (.ext φ)/\∀h,φ h->tY p h:=hc.elim (fun z=>.inl (I.ok.hd z)) id;rcases he with hn|⟨p,φ,hp,hH,hφ⟩
  .exact wpAny_pyNext_range_end hn st (by have:n<=i:=hg;lia) fun h' eb=>⟨rfl,I.turned (t':=s.toks) (fun b o hb e=>eb b o hb e) f0 f1 f3 f4 f5⟩
  .exact wF hp (hφ _ (I.bA p _ hH).1) st (by have:n<=i:=hg;lia) fun h' eb=>⟨rfl,I.kept (t':=s.toks) eb⟩
 self:=fun _ _ _ _ _ st h=>wpAny_pyIter_rangeiter st h
section
variable {X:Cx} {tg:Expr}
def LR(K:PySem.W.Frag)(tl:TE):TI:=fun σ H R=>tl σ H fun x H1=>∃a,x=.ref a/\(∃xs,bz K H1 a xs)/\R (EQ K a) H1
def Qz(K:PySem.W.Frag)(tl:TE):TI:=fun σ H R=>tl σ H fun x H1=>∃a,x=.ref a/\(∃xs,bD K H1 a xs)/\R (LQ K a) H1
theorem dN{l:Expr}{tl:TE}(hl:PE X l tl):PI X tg l (LR X.K tl):=by
 intro ae s σ H R I h;refine cn (hl ae s σ H _ I h) fun v s1 ⟨x,H1,I1,r1,q1⟩=>?_;obtain⟨a,e,⟨xs,hq⟩,q⟩:=q1;subst e;cases r1;obtain⟨its,rv,p,hz⟩:=I1.list hq;refine wv p.isList ?_;refine⟨s1.heap.objs.size,[s1.heap.objs.size],_,_,H1,rfl,I1.kept (t':=s1.toks) fun b o e=>cE _ e,zx a _,⟨_,cW _ rfl,rfl,rfl⟩,fun b hb=>?_,q⟩;have e:b=s1.heap.objs.size:=by simpa using hb
 subst e;exact I1.Bv (aO _) (I1.bA.fresh (aO _))
theorem lU{l:Expr}{tl:TE}(hl:PE X l tl):PI X tg l (Qz X.K tl):=by
 intro ae s σ H R I h;refine cn (hl ae s σ H _ I h) fun v s1 ⟨x,H1,I1,r1,q1⟩=>?_;obtain⟨a,e,⟨xs,hq⟩,q⟩:=q1;subst e;cases r1;obtain⟨its,rv,p,hz⟩:=I1.tuple hq;refine wq (show s1.heap.IsTuple a its.toArray from p) ?_;refine⟨s1.heap.objs.size,[s1.heap.objs.size],_,_,H1,rfl,I1.kept (t':=s1.toks) fun b o e=>cE _ e,wI a _,⟨_,cW _ rfl,rfl,rfl⟩,fun b hb=>?_,q⟩;have e:b=s1.heap.objs.size:=by simpa using hb
 subst e;exact I1.Bv (aO _) (I1.bA.fresh (aO _))
theorem BB{ae:List (Addr×Obj)}{σ:St}{H:Hp}{s:Shared}{R:It->Hp->Prop}{E:Value->Shared->Prop}{lo hi:Int}{t u v:Tok}{tk:Nat}(I:aF X ae σ H s)(h1:-(2 ^ 62)<=lo)(h2:lo<2 ^ 62)(h3:-(2 ^ 62)<=hi)(h4:hi<2 ^ 62)(q:R (By lo (hi-lo).toNat) H):wpAny (model X.prog X.w) X.A (pyIter (.ref s.heap.objs.size)) (Vo X ae σ tg R) E { s with heap:=s.heap.push { cls:=.type "range",data:=.fields #[.int lo t,.int hi u,.int 1 v] },toks:=tk }:=by
 refine wpAny_pyIter_range (IsRange.new ..) (small_one h1 h2 h3 h4) ?_;have I1:aF X ae σ H { s with heap:=s.heap.push { cls:=.type "range",data:=.fields #[.int lo t,.int hi u,.int 1 v] },toks:=tk }:=I.kept fun b o e=>cE _ e;refine⟨(s.heap.push { cls:=.type "range",data:=.fields #[.int lo t,.int hi u,.int 1 v] }).objs.size,[(s.heap.push { cls:=.type "range",data:=.fields #[.int lo t,.int hi u,.int 1 v] }).objs.size],_,_,H,rfl,
  I1.kept (t':=tk) fun b o e=>cE _ e,wJ _ lo (hi-lo).toNat,?_,fun b hb=>?_,q⟩
 .have e1:lo+((0:Nat):Int)*1=lo:=by simp
  have e2:(((hi-lo).toNat:Nat):Int)-((0:Nat):Int)=Builtin.Range.rangeSize lo hi 1:=by rw[rangeSize_one];split <;> lia
  show IsRangeIter _ _ (lo+((0:Nat):Int)*1) ((((hi-lo).toNat:Nat):Int)-((0:Nat):Int)) 1;rw[e1,e2];exact cW _ rfl
 .have e:b=(s.heap.push { cls:=.type "range",data:=.fields #[.int lo t,.int hi u,.int 1 v] }).objs.size:=by simpa using hb
  subst e;exact I1.Bv (aO _) (I1.bA.fresh (aO _))
def LU(ta:TA):TI:=fun σ H R=>ta σ H fun vs H1=>∃j:Int,vs=[.int j]/\-(2 ^ 62)<=j/\j<2 ^ 62/\R (By 0 j.toNat) H1
theorem bh{a:Expr}{ta:TA}{p pos:Pos}(hg:Gl X "range")(hm:X.mg "range"=none)(ha:PA X [a] ta)(hs:starEach [a] X.env=[(false,eval a X.env)]:=by rfl):PI X tg (.Call (.Name "range" p) [a] [] pos) (LU ta):=by
 intro ae s σ H R I h;refine Call_ (lS I hg hm boot_range (vq (cn (ha pos ae s σ H _ I h) fun us s1 ⟨vs,H1,I1,r1,q1⟩=>?_) hs rfl));obtain⟨j,e,q1,q2,q⟩:=q1;subst e;cases r1 with
 |cons r rr=>
  cases rr;obtain⟨t,rfl⟩:=r;exact call_range_1 (BB I1 (by lia) (by lia) q1 q2 (by simpa using q))
def QA(wi:TI)(g:TG)(tb:TS):TS:=fun D σ H=>wi σ H fun J H1=>∃W:Nat->Nat->St->Hp->Prop,(∃m,W 0 m σ H1)/\∀i m σ H,W i m σ H->
 (J.stop i H/\D.nx σ H)\/(J.go i H/\∃N:St->Hp->Prop,(∀σ' H',N σ' H'->∃m',m'<m/\W (i+1) m' σ' H')/\∀x H',J.G8 i H x H'->g x σ H' fun σ2 H2=>tb { D with nx:=N,ct:=N,bk:=D.nx } σ2 H2)
def oR(fp:List Addr)(h:Heap):List (Addr×Obj):=fp.filterMap fun b=>(h.get? b).map fun o=>(b,o)
theorem gX(hb:b∈fp)(e:h.get? b=some o):(b,o)∈oR fp h:=jR.mpr ⟨b,hb,by rw[e];rfl⟩
theorem zy(hp:p∈oR fp h):p.1∈fp/\h.get? p.1=some p.2:=by
 obtain⟨b,hb,e⟩:=jR.mp hp;cases q:h.get? b with
 |none=>rw[q] at e;cases e
 |some o=>
  rw[q] at e;have e':(b,o)=p:=bS e;subst e';exact⟨hb,q⟩
theorem aF.pinned(I:aF X ae σ H s)(hf:∀b∈fp,jy X ae H b)(ho:∀b∈fp,∃o,s.heap.get? b=some o/\∀v,o.data≠.cell v):aF X (ae++oR fp s.heap) σ H s:=
 I.xY fun p hp=>(cP.mp hp).elim (fun z=>I.pin p (iw _ z)) fun z=>by
  obtain⟨hb,e⟩:=zy z;obtain⟨f0,f1,f2,_⟩:=hf p.1 hb;obtain⟨o,e',d⟩:=ho p.1 hb;rw[e] at e';cases e';exact⟨e,f0,f1,f2,d⟩
theorem aF.kM(I:aF X (ae++pl) σ H s):aF X ae σ H s:=I.xY fun p hp=>I.pin p (iw _ (ix _ hp))
theorem cr(hp:PassesOwn (model X.prog X.w) X.A X.env X.xe)(hc:X.calm=true)(hi:PI X tg gc wi)(hg:PG X tg g)(hb:pL X body tb)(hs:∀x,foldedSetIterable gc X.env x=pure x:=by intro _;rfl):PS X (.For tg gc body [] pos) (QA wi g tb):=by
 intro ae s σ H D I h;refine wpAny_For (cn (hi ae s σ H _ I h) fun v s1 h1=>cn h1 fun LP s2 h2=>?_) hs;obtain⟨it,fp,tn,J,H2,e,I2,T,qr,f2,W,⟨m0,w0⟩,Bu⟩:=h2;subst e;have wK:∀ {H':Hp},(∀b∈fp,H' b=none)->∀b∈fp,jy X ae H' b:=fun hn b hb=>⟨hn b hb,(f2 b hb).2⟩
 refine codeAny_forLoop_any (fun n s'=>∃i σ' H',aF X ae σ' H' s'/\tn i s'.heap/\(∀b∈fp,H' b=none)/\W i n σ' H') ?_ m0 ⟨0,σ,H2,I2,qr,fun b hb=>(f2 b hb).1,w0⟩;rintro n s3 ⟨i,σ3,H3,I3,wL,Ir,w3⟩;rcases Bu i n σ3 H3 w3 with ⟨stop,qn⟩|⟨go,N,hN,step⟩
 .refine jW hp (cn (T.done X rfl rfl rfl i ae s3 σ3 H3 X.xe (.inl hc) I3 (wK Ir) wL stop) fun r s4 ⟨hr,I4⟩=>?_);subst hr;exact oH ⟨σ3,H3,I4,qn⟩
 .refine jW hp (cn (T.item X rfl rfl rfl i ae s3 σ3 H3 X.xe (.inl hc) I3 (wK Ir) wL go) fun r s4 ⟨u,hr,h4⟩=>?_);subst hr;refine jW hp (cn h4 fun _ s5 ⟨x,H5,I5,r5,y5,tU,QB⟩=>?_);have QC:=I5.pinned (wK QB) (T.obj _ _ tU);refine jW hp (cn (hg _ s5 σ3 H5 x u _ QC r5 (step x H5 y5)) fun _ s6 ⟨σ6,H6,I6,q6⟩=>?_);refine jW hp (cn (hb _ s6 σ6 H6 _ I6 q6) fun f s7 q7=>?_);have again:∀ {σ7:St} {H7:Hp},aF X (ae++oR fp s5.heap) σ7 H7 s7->N σ7 H7->∃m,m<n/\∃i σ' H',aF X ae σ' H' s7/\tn i s7.heap/\(∀b∈fp,H' b=none)/\W i m σ' H':=fun {σ7 H7} I7 n7=>by
   obtain⟨m',hm,w7⟩:=hN σ7 H7 n7;refine⟨m',hm,i+1,σ7,H7,I7.kM,T.keep _ _ _ tU fun b hb o e=>(I7.pin (b,o) (iw _ (iw _ (gX hb e)))).1,fun b hb=>?_,w7⟩;obtain⟨o,e,d⟩:=T.obj _ _ tU b hb;exact(I7.pin (b,o) (iw _ (iw _ (gX hb e)))).2.1
  cases f with
  |next=>obtain⟨σ7,H7,I7,n7⟩:=q7;exact again I7 n7
  |cont=>obtain⟨σ7,H7,I7,n7⟩:=q7;exact again I7 n7
  |brk=>obtain⟨σ7,H7,I7,q7⟩:=q7;exact⟨σ7,H7,I7.kM,q7⟩
  |ret v=>obtain⟨x7,σ7,H7,I7,r7,q7⟩:=q7;exact⟨x7,σ7,H7,I7.kM,r7,q7⟩
end
theorem oU{K:PySem.W.Frag}{a:Addr}{xs:List V}{g:TG}{tb:TS}{D:ub}{σ:St}{H:Hp}(Pv:Nat->St->Hp->Prop)(h0:Pv 0 σ H)(hl:∀i σ H,i<=xs.length->Pv i σ H->bz K H a xs)(hs:∀i x σ H,xs[i]?=some x->Pv i σ H->g x σ H fun σ2 H2=>tb { D with nx:=Pv (i+1),ct:=Pv (i+1),bk:=D.nx } σ2 H2)(hd:∀σ H,Pv xs.length σ H->D.nx σ H):
  ∃W:Nat->Nat->St->Hp->Prop,(∃m,W 0 m σ H)/\∀i m σ H,W i m σ H->
   ((EQ K a).stop i H/\D.nx σ H)\/((EQ K a).go i H/\∃N:St->Hp->Prop,(∀σ' H',N σ' H'->∃m',m'<m/\W (i+1) m' σ' H')/\∀x H',(EQ K a).G8 i H x H'->g x σ H' fun σ2 H2=>tb { D with nx:=N,ct:=N,bk:=D.nx } σ2 H2):=by
 refine⟨fun i m σ H=>m=xs.length-i/\i<=xs.length/\Pv i σ H,⟨xs.length,by simp,cR _,h0⟩,?_⟩;rintro i m σ H ⟨rfl,hi,p⟩;have q:=hl i σ H hi p;by_cases eW:i<xs.length
 .refine .inr ⟨⟨xs,xs[i],q,by simp[eW]⟩,Pv (i+1),fun σ' H' p'=>⟨xs.length-(i+1),by lia,rfl,eW,p'⟩,fun x H' y=>?_⟩;obtain⟨e,y⟩:=y;subst e;exact hs i x σ _ (y xs q) p
 .have e:i=xs.length:=by lia
  subst e;exact .inl ⟨⟨xs,q,aO _⟩,hd σ H p⟩
theorem jl{K:PySem.W.Frag}{a:Addr}{xs:List V}{g:TG}{tb:TS}{D:ub}{σ:St}{H:Hp}(Pv:Nat->St->Hp->Prop)(h0:Pv 0 σ H)(hl:∀i σ H,i<=xs.length->Pv i σ H->bD K H a xs)(hs:∀i x σ H,xs[i]?=some x->Pv i σ H->g x σ H fun σ2 H2=>tb { D with nx:=Pv (i+1),ct:=Pv (i+1),bk:=D.nx } σ2 H2)(hd:∀σ H,Pv xs.length σ H->D.nx σ H):
  ∃W:Nat->Nat->St->Hp->Prop,(∃m,W 0 m σ H)/\∀i m σ H,W i m σ H->
   ((LQ K a).stop i H/\D.nx σ H)\/((LQ K a).go i H/\∃N:St->Hp->Prop,(∀σ' H',N σ' H'->∃m',m'<m/\W (i+1) m' σ' H')/\∀x H',(LQ K a).G8 i H x H'->g x σ H' fun σ2 H2=>tb { D with nx:=N,ct:=N,bk:=D.nx } σ2 H2):=by
 refine⟨fun i m σ H=>m=xs.length-i/\i<=xs.length/\Pv i σ H,⟨xs.length,by simp,cR _,h0⟩,?_⟩;rintro i m σ H ⟨rfl,hi,p⟩;have q:=hl i σ H hi p;by_cases eW:i<xs.length
 .refine .inr ⟨⟨xs,xs[i],q,by simp[eW]⟩,Pv (i+1),fun σ' H' p'=>⟨xs.length-(i+1),by lia,rfl,eW,p'⟩,fun x H' y=>?_⟩;obtain⟨e,y⟩:=y;subst e;exact hs i x σ _ (y xs q) p
 .have e:i=xs.length:=by lia
  subst e;exact .inl ⟨⟨xs,q,aO _⟩,hd σ H p⟩
theorem cw{lo:Int}{n:Nat}{g:TG}{tb:TS}{D:ub}{σ:St}{H:Hp}(Pv:Nat->St->Hp->Prop)(h0:Pv 0 σ H)(hs:∀i σ H,i<n->Pv i σ H->g (.int (lo+i)) σ H fun σ2 H2=>tb { D with nx:=Pv (i+1),ct:=Pv (i+1),bk:=D.nx } σ2 H2)(hd:∀σ H,Pv n σ H->D.nx σ H):
  ∃W:Nat->Nat->St->Hp->Prop,(∃m,W 0 m σ H)/\∀i m σ H,W i m σ H->
   ((By lo n).stop i H/\D.nx σ H)\/((By lo n).go i H/\∃N:St->Hp->Prop,(∀σ' H',N σ' H'->∃m',m'<m/\W (i+1) m' σ' H')/\∀x H',(By lo n).G8 i H x H'->g x σ H' fun σ2 H2=>tb { D with nx:=N,ct:=N,bk:=D.nx } σ2 H2):=by
 refine⟨fun i m σ H=>m=n-i/\i<=n/\Pv i σ H,⟨n,by simp,cR _,h0⟩,?_⟩;rintro i m σ H ⟨rfl,hi,p⟩;by_cases eW:i<n
 .refine .inr ⟨eW,Pv (i+1),fun σ' H' p'=>⟨n-(i+1),by lia,rfl,eW,p'⟩,fun x H' y=>?_⟩;obtain⟨e,y⟩:=y;subst e y;exact hs i σ _ eW p
 .have e:i=n:=by lia
  subst e;exact .inl ⟨aO _,hd σ H p⟩
theorem BC(Pv:St->Hp->Prop)(μ:St->Hp->Nat)(h0:Pv σ H)(hs:∀σ H,Pv σ H->c σ H fun b H1=>if b=true then tb { D with nx:=fun σ' H'=>Pv σ' H'/\μ σ' H'<μ σ H,ct:=fun σ' H'=>Pv σ' H'/\μ σ' H'<μ σ H,bk:=D.nx } σ H1 else D.nx σ H1)(mono:∀σ H Q Q',(∀b H1,Q b H1->Q' b H1)->c σ H Q->c σ H Q'):Bq c tb D σ H:=by
 refine⟨fun m σ H=>m=μ σ H/\Pv σ H,⟨_,rfl,h0⟩,?_⟩;rintro m σ H ⟨rfl,p⟩;refine mono σ H _ _ (fun b H1 q=>?_) (hs σ H p);cases b with
 |true=>exact⟨_,fun σ' H' ⟨p',l⟩=>⟨_,l,rfl,p'⟩,q⟩
 |false=>exact q
abbrev R2:=V->V->Hp->VK->Prop
def jm(X:Cx)(f:Value->Value->Sem Value)(r:R2):Prop:=
 ∀ (ae:List (Addr×Obj)) (s:Shared) (σ:St) (H:Hp) (x y:V) (v u:Value) (Q:VK),aF X ae σ H s->bj x v->bj y u->r x y H Q->
  wpAny (model X.prog X.w) X.A (f v u) (EP X ae σ Q) X.xe s
def QD(X:Cx)(f:Value->Sem Value)(r:V->Hp->VK->Prop):Prop:=
 ∀ (ae:List (Addr×Obj)) (s:Shared) (σ:St) (H:Hp) (x:V) (v:Value) (Q:VK),aF X ae σ H s->bj x v->r x H Q->
  wpAny (model X.prog X.w) X.A (f v) (EP X ae σ Q) X.xe s
def eM(X:Cx)(f:Value)(r:List V->Hp->VK->Prop):Prop:=
 ∀ (ae:List (Addr×Obj)) (s:Shared) (σ:St) (H:Hp) (xs:List V) (us:List Value) (Q:VK),aF X ae σ H s->aR xs us->r xs H Q->
  wpAny (model X.prog X.w) X.A (call f us) (EP X ae σ Q) X.xe s
def mR(r:R2)(ta tb:TE):TE:=fun σ H Q=>ta σ H fun x H1=>tb σ H1 fun y H2=>r x y H2 Q
def QE(r:V->Hp->VK->Prop)(ta:TE):TE:=fun σ H Q=>ta σ H fun x H1=>r x H1 Q
def rI(C:Int->Int->Prop)(g:Int->Int->V):R2:=fun x y H Q=>∃i j,x=.int i/\y=.int j/\C i j/\Q (g i j) H
def ER(g:Int->Int->V):R2:=fun x y H Q=>∃i j,x=.int i/\y=.int j/\Q (g i j) H
def rU(g:Int->V):V->Hp->VK->Prop:=fun x H Q=>∃i,x=.int i/\Q (g i) H
section
variable {X:Cx} {a b c:Expr} {ta tb tc:TE} {pos:Pos}
theorem Iu(ha:PE X a ta)(hb:PE X b tb){ae:List (Addr×Obj)}{s:Shared}{σ:St}{H:Hp}{R:V->V->Hp->Prop}(I:aF X ae σ H s)(h:ta σ H fun x H1=>tb σ H1 fun y H2=>R x y H2){Q:Value->Shared->Prop}{f:Value->Value->Sem Value}(hf:∀v u s2 x y H2,aF X ae σ H2 s2->bj x v->bj y u->R x y H2->wpAny (model X.prog X.w) X.A (f v u) Q X.xe s2):
  wpAny (model X.prog X.w) X.A (eval a X.env) (fun v s₁=>wpAny (model X.prog X.w) X.A (eval b X.env) (fun u s₂=>wpAny (model X.prog X.w) X.A (f v u) Q X.xe s₂) X.xe s₁) X.xe s:=by
 refine cn (ha ae s σ H _ I h) fun v s1 ⟨x,H1,I1,r1,q1⟩=>?_;refine cn (hb ae s1 σ H1 _ I1 q1) fun u s2 ⟨y,H2,I2,r2,q2⟩=>?_;exact hf v u s2 x y H2 I2 r1 r2 q2
theorem aP{op:Operator}{r:R2}(ho:jm X (binaryOp op) r)(ha:PE X a ta)(hb:PE X b tb):PE X (.BinOp a op b pos) (mR r ta tb):=by
 intro ae s σ H Q I h;exact wpAny_BinOp (Iu ha hb I h fun v u s2 x y H2 I2 rx ry q=>ho ae s2 σ H2 x y v u Q I2 rx ry q)
theorem BF(ho:QD X (unaryOp op) r)(ha:PE X a ta):PE X (.UnaryOp op a pos) (QE r ta):=by
 intro ae s σ H Q I h;exact UnaryOp_ (cn (ha ae s σ H _ I h) fun v s1 ⟨x,H1,I1,r1,q1⟩=>ho ae s1 σ H1 x v Q I1 r1 q1)
theorem K8{f:Value->Value->Sem Value}{C:Int->Int->Prop}{g:Int->Int->Int}(rule:∀ (i j:Int) (t u:Tok) (s:Shared) (Q:Value->Shared->Prop) (E:Value->Shared->Prop),C i j->Q (.int (g i j) s.toks) { s with toks:=s.toks+1 }->wpAny (model X.prog X.w) X.A (f (.int i t) (.int j u)) Q E s):
  jm X f (rI C fun i j=>.int (g i j)):=by
 intro ae s σ H x y v u Q I rx ry h;obtain⟨i,j,rfl,rfl,hc,q⟩:=h;obtain⟨t,rfl⟩:=rx;obtain⟨t',rfl⟩:=ry;exact rule i j t t' s _ _ hc ⟨.int (g i j),H,I.tok _,⟨_,rfl⟩,q⟩
theorem LV{f:Value->Value->Sem Value}{g:Int->Int->Int}(rule:∀ (i j:Int) (t u:Tok) (s:Shared) (Q:Value->Shared->Prop) (E:Value->Shared->Prop),Q (.int (g i j) s.toks) { s with toks:=s.toks+1 }->wpAny (model X.prog X.w) X.A (f (.int i t) (.int j u)) Q E s):
  jm X f (ER fun i j=>.int (g i j)):=by
 intro ae s σ H x y v u Q I rx ry h;obtain⟨i,j,rfl,rfl,q⟩:=h;obtain⟨t,rfl⟩:=rx;obtain⟨t',rfl⟩:=ry;exact rule i j t t' s _ _ ⟨.int (g i j),H,I.tok _,⟨_,rfl⟩,q⟩
theorem Iv{f:Value->Value->Sem Value}{g:Int->Int->Bool}(rule:∀ (i j:Int) (t u:Tok) (s:Shared) (Q:Value->Shared->Prop) (E:Value->Shared->Prop),Q (.bool (g i j)) s->wpAny (model X.prog X.w) X.A (f (.int i t) (.int j u)) Q E s):
  jm X f (ER fun i j=>.bl (g i j)):=by
 intro ae s σ H x y v u Q I rx ry h;obtain⟨i,j,rfl,rfl,q⟩:=h;obtain⟨t,rfl⟩:=rx;obtain⟨t',rfl⟩:=ry;exact rule i j t t' s _ _ ⟨.bl (g i j),H,I,rfl,q⟩
def Iw(i j:Int):Prop:=0<j/\j<1073741824
def QF(i j:Int):Prop:=0<=j/\j<=1000000/\i.natAbs<2 ^ 64
def BG(i j:Int):Prop:=(-(2 ^ 64)<i/\i<2 ^ 64)\/(-(2 ^ 64)<j/\j<2 ^ 64)
theorem BG.ok(h:BG i j):IntMulOk i j:=by
 rcases h with ⟨h1,h2⟩|⟨h1,h2⟩
 .exact .of_left (intBits_le_64 h1 h2)
 .exact .of_right (intBits_le_64 h1 h2)
theorem cj:jm X (binaryOp .Add) (ER fun i j=>.int (i+j)):=LV fun _ _ _ _ _ _ _ q=>add_int q
theorem j9:jm X (binaryOp .Sub) (ER fun i j=>.int (i-j)):=LV fun _ _ _ _ _ _ _ q=>sub_int q
theorem lV:jm X (binaryOp .Mult) (rI BG fun i j=>.int (i*j)):=K8 fun _ _ _ _ _ _ _ hc q=>mul_int q hc.ok
theorem nQ:jm X (binaryOp .FloorDiv) (rI Iw fun i j=>.int (i / j)):=K8 fun i j _ _ _ _ _ hc q=>by
 have h1:(0:Int)<j:=hc.1;have h2:j<1073741824:=hc.2;exact floordiv_int (by lia) (by rw[rf i (by lia)];exact q) (.inl (PyProof.noPylong_small (by lia)))
theorem gY:jm X (binaryOp .Mod) (rI (fun _ j=>0<j) fun i j=>.int (i % j)):=K8 fun i j _ _ _ _ _ hc q=>by
 have h1:(0:Int)<j:=hc;exact mod_int' (by lia) (by rw[vw i (by lia)];exact q)
theorem wM:jm X (binaryOp .Pow) (rI QF fun i j=>.int (i ^ j.toNat)):=K8 fun _ _ _ _ _ _ _ hc q=>pow_int_small hc.1 hc.2.1 hc.2.2 q
theorem BH:jm X (inplaceOp .FloorDiv) (rI Iw fun i j=>.int (i / j)):=K8 fun i j _ _ _ _ _ hc q=>by
 have h1:(0:Int)<j:=hc.1;have h2:j<1073741824:=hc.2;exact ifloordiv_int (by lia) (by rw[rf i (by lia)];exact q) (.inl (PyProof.noPylong_small (by lia)))
theorem W8{f:Value->Sem Value}{g:Int->Int}(rule:∀ (i:Int) (t:Tok) (s:Shared) (Q:Value->Shared->Prop) (E:Value->Shared->Prop),Q (.int (g i) s.toks) { s with toks:=s.toks+1 }->wpAny (model X.prog X.w) X.A (f (.int i t)) Q E s):
  QD X f (rU fun i=>.int (g i)):=by
 intro ae s σ H x v Q I rx h;obtain⟨i,rfl,q⟩:=h;obtain⟨t,rfl⟩:=rx;exact rule i t s _ _ ⟨.int (g i),H,I.tok _,⟨_,rfl⟩,q⟩
theorem wN:QD X (unaryOp .USub) (rU fun i=>.int (-i)):=W8 fun _ _ _ _ _ q=>neg_int q
end
def Ix:V->V->Bool
 |.bi,.bi=>true|.bi,.int _=>true|.int _,.bi=>true|.bi,.bl _=>true|.bl _,.bi=>true|.bi,.str _=>true|.str _,.bi=>true
 |.int _,.int _=>true|.bl _,.bl _=>true|.str _,.str _=>true|.AI _,.AI _=>true
 |.int _,.str _=>true|.str _,.int _=>true|.bl _,.str _=>true|.str _,.bl _=>true
 |_,_=>false
def LW:R2:=fun x y H Q=>Ix x y=true/\Q (.bl (decide (x=y))) H
def Vp:R2:=fun x y H Q=>Ix x y=true/\Q (.bl (!decide (x=y))) H
theorem ya:decide (V.int i=V.int j)=(i==j):=by
 rw[gK];simp
theorem BI:decide (V.bl i=V.bl j)=(i==j):=by
 rw[gK];simp
theorem yb:decide (V.str i=V.str j)=(i==j):=by
 rw[gK];simp
theorem yc:decide (V.AI i=V.AI j)=(i.toList==j.toList):=by
 rw[gK];cases i;cases j;simp
section
variable {X:Cx} {a b c:Expr} {ta tb tc:TE} {pos:Pos}
theorem bn(I:aF X ae σ H s)(q:Q (.bl k) H)(e:k=k'):EP X ae σ Q (.bool k') s:=by
 subst e;exact⟨.bl k,H,I,rfl,q⟩
theorem eN:jm X (compareOp .Eq) LW:=by
 intro ae s σ H x y v u Q I rx ry h;obtain⟨hs,q⟩:=h;cases x with
 |bi=>
  cases rx;cases y with
  |bi=>cases ry;exact PySem.EqNone.eq_none_none (bn I q (by simp))
  |bl j=>cases ry;exact PySem.EqNone.eq_none_bool (bn I q (by simp))
  |int j=>obtain⟨t',rfl⟩:=ry;exact PySem.EqNone.eq_none_int (bn I q (by simp))
  |str j=>obtain⟨t',rfl⟩:=ry;exact PySem.EqNone.eq_none_str (bn I q (by simp))
  |_=>exact absurd (show false=true from hs) bJ
 |bl i=>
  cases rx;cases y with
  |bi=>cases ry;exact PySem.EqNone.eq_bool_none (bn I q (by simp))
  |bl j=>cases ry;exact eq_bool (bn I q BI)
  |str j=>obtain⟨t',rfl⟩:=ry;exact PySem.EqMixed.eq_bool_str (bn I q (by simp))
  |_=>exact absurd (show false=true from hs) bJ
 |int i=>
  obtain⟨t,rfl⟩:=rx;cases y with
  |bi=>cases ry;exact PySem.EqNone.eq_int_none (bn I q (by simp))
  |int j=>obtain⟨t',rfl⟩:=ry;exact eq_int (bn I q ya)
  |str j=>obtain⟨t',rfl⟩:=ry;exact PySem.EqMixed.eq_int_str (bn I q (by simp))
  |_=>exact absurd (show false=true from hs) bJ
 |str i=>
  obtain⟨t,rfl⟩:=rx;cases y with
  |bi=>cases ry;exact PySem.EqNone.eq_str_none (bn I q (by simp))
  |bl j=>cases ry;exact PySem.EqMixed.eq_str_bool (bn I q (by simp))
  |int j=>obtain⟨t',rfl⟩:=ry;exact PySem.EqMixed.eq_str_int (bn I q (by simp))
  |str j=>obtain⟨t',rfl⟩:=ry;exact eq_str (bn I q yb)
  |_=>exact absurd (show false=true from hs) bJ
 |AI i=>
  obtain⟨t,rfl⟩:=rx;cases y with
  |AI j=>obtain⟨t',rfl⟩:=ry;exact PySem.W.eq_bytes (bn I q yc)
  |_=>exact absurd (show false=true from hs) bJ
 |_=>cases y <;> exact absurd (show false=true from hs) bJ
theorem oW:jm X (compareOp .NotEq) Vp:=by
 intro ae s σ H x y v u Q I rx ry h;obtain⟨hs,q⟩:=h;cases x with
 |bi=>
  cases rx;cases y with
  |bi=>cases ry;exact PySem.EqNone.ne_none_none (bn I q (by simp))
  |bl j=>cases ry;exact PySem.EqNone.ne_none_bool (bn I q (by simp))
  |int j=>obtain⟨t',rfl⟩:=ry;exact PySem.EqNone.ne_none_int (bn I q (by simp))
  |str j=>obtain⟨t',rfl⟩:=ry;exact PySem.EqNone.ne_none_str (bn I q (by simp))
  |_=>exact absurd (show false=true from hs) bJ
 |bl i=>
  cases rx;cases y with
  |bi=>cases ry;exact PySem.EqNone.ne_bool_none (bn I q (by simp))
  |bl j=>cases ry;exact ne_bool (bn I q (congrArg not BI))
  |str j=>obtain⟨t',rfl⟩:=ry;exact PySem.EqMixed.ne_bool_str (bn I q (by simp))
  |_=>exact absurd (show false=true from hs) bJ
 |int i=>
  obtain⟨t,rfl⟩:=rx;cases y with
  |bi=>cases ry;exact PySem.EqNone.ne_int_none (bn I q (by simp))
  |int j=>obtain⟨t',rfl⟩:=ry;exact ne_int (bn I q (congrArg not ya))
  |str j=>obtain⟨t',rfl⟩:=ry;exact PySem.EqMixed.ne_int_str (bn I q (by simp))
  |_=>exact absurd (show false=true from hs) bJ
 |str i=>
  obtain⟨t,rfl⟩:=rx;cases y with
  |bi=>cases ry;exact PySem.EqNone.ne_str_none (bn I q (by simp))
  |bl j=>cases ry;exact PySem.EqMixed.ne_str_bool (bn I q (by simp))
  |int j=>obtain⟨t',rfl⟩:=ry;exact PySem.EqMixed.ne_str_int (bn I q (by simp))
  |str j=>obtain⟨t',rfl⟩:=ry;exact ne_str (bn I q (congrArg not yb))
  |_=>exact absurd (show false=true from hs) bJ
 |AI i=>
  obtain⟨t,rfl⟩:=rx;cases y with
  |AI j=>obtain⟨t',rfl⟩:=ry;exact PySem.W.ne_bytes (bn I q (congrArg not yc))
  |_=>exact absurd (show false=true from hs) bJ
 |_=>cases y <;> exact absurd (show false=true from hs) bJ
theorem yd:jm X (compareOp .Lt) (ER fun i j=>.bl (decide (i<j))):=Iv fun _ _ _ _ _ _ _ q=>lt_int q
theorem BJ:jm X (compareOp .LtE) (ER fun i j=>.bl (decide (i<=j))):=Iv fun _ _ _ _ _ _ _ q=>le_int q
theorem qt:jm X (compareOp .Gt) (ER fun i j=>.bl (decide (j<i))):=Iv fun _ _ _ _ _ _ _ q=>gt_int q
theorem rY:jm X (compareOp .Is) (fun x y H Q=>y=.bi/\Q (.bl (decide (x=.bi))) H):=by
 intro ae s σ H x y v u Q I rx ry h;obtain⟨rfl,q⟩:=h;cases ry;refine is_none_gen (bn I q ?_);cases x <;> first
  |(cases rx;rfl)
  |(obtain⟨t,rfl⟩:=rx;rfl)
theorem nR:jm X (compareOp .IsNot) (fun x y H Q=>y=.bi/\Q (.bl (!decide (x=.bi))) H):=by
 intro ae s σ H x y v u Q I rx ry h;obtain⟨rfl,q⟩:=h;cases ry;refine isnot_none_gen (bn I q ?_);cases x <;> first
  |(cases rx;rfl)
  |(obtain⟨t,rfl⟩:=rx;rfl)
theorem aQ(b:Expr)(h:op≠.In:=by decide)(h2:op≠.NotIn:=by decide):behindInMarks op b=false:=by
 have e1:(op==CmpOp.In)=false:=by cases op <;> first|rfl|exact absurd rfl h
 have e2:(op==CmpOp.NotIn)=false:=by cases op <;> first|rfl|exact absurd rfl h2
 cases b <;> simp[behindInMarks,e1,e2]
theorem ft(ho:jm X (compareOp op) r)(ha:PE X a ta)(hb:PE X b tb)(hm:behindInMarks op b=false):PE X (.Compare a [op] [b] pos) (mR r ta tb):=by
 intro ae s σ H Q I h;exact wpAny_Compare1 (Iu ha hb I h fun v u s2 x y H2 I2 rx ry q=>ho ae s2 σ H2 x y v u Q I2 rx ry q) hm
def kO(t:TE):TT:=fun σ H Q=>t σ H fun x H'=>∃k,x=.bl k/\Q k H'
theorem aM(ho:jm X (compareOp op) r)(ha:PE X a ta)(hb:PE X b tb)(hm:behindInMarks op b=false):PT X (.Compare a [op] [b] pos) (kO (mR r ta tb)):=by
 intro ae s σ H Q I h;refine wpAny_isTrue_Compare1 (cn (ha ae s σ H _ I h) fun v s1 ⟨x,H1,I1,r1,q1⟩=>cn (hb ae s1 σ H1 _ I1 q1) fun u s2 ⟨y,H2,I2,r2,q2⟩=>
  cn (ho ae s2 σ H2 x y v u _ I2 r1 r2 q2) fun c s3 ⟨z,H3,I3,r3,k,e,q3⟩=>?_) hm
 subst e;cases r3;exact jT ⟨H3,I3,q3⟩
def BK(r r':R2)(ta tb tc:TE):TE:=fun σ H Q=>ta σ H fun x H1=>tb σ H1 fun y H2=>r x y H2 fun z H3=>∃k,z=.bl k/\
 (if k=true then tc σ H3 fun w' H4=>r' y w' H4 Q else Q (.bl false) H3)
theorem BL(ho:jm X (compareOp op) r)(qq:jm X (compareOp K9) r')(ha:PE X a ta)(hb:PE X b tb)(hc:PE X c tc)(hm:lastMarks [op,K9] [b,c]=false:=by with_unfolding_all rfl):PE X (.Compare a [op,K9] [b,c] pos) (BK r r' ta tb tc):=by
 intro ae s σ H Q I h;refine Compare_chain (cn (ha ae s σ H _ I h) fun v s1 ⟨x,H1,I1,r1,q1⟩=>chain_link (cn (hb ae s1 σ H1 _ I1 q1) fun u s2 ⟨y,H2,I2,r2,q2⟩=>
  cn (ho ae s2 σ H2 x y v u _ I2 r1 r2 q2) fun d s3 ⟨z,H3,I3,r3,k,e,q3⟩=>?_)) hm
 subst e;cases r3;refine jT ?_;cases k with
 |false=>exact ite_ff ⟨.bl false,H3,I3,rfl,q3⟩
 |true=>exact ite_tt (chain_last (cn (hc ae s3 σ H3 _ I3 q3) fun w' s4 ⟨z',H4,I4,r4,q4⟩=>qq ae s4 σ H4 y z' u w' Q I4 r2 r4 q4))
theorem BM{op K9:CmpOp}{r r':R2}(ho:jm X (compareOp op) r)(qq:jm X (compareOp K9) r')(ha:PE X a ta)(hb:PE X b tb)(hc:PE X c tc)(hm:lastMarks [op,K9] [b,c]=false:=by with_unfolding_all rfl):PT X (.Compare a [op,K9] [b,c] pos) (kO (BK r r' ta tb tc)):=by
 intro ae s σ H Q I h;refine isTrue_chain (cn (ha ae s σ H _ I h) fun v s1 ⟨x,H1,I1,r1,q1⟩=>test_link (cn (hb ae s1 σ H1 _ I1 q1) fun u s2 ⟨y,H2,I2,r2,q2⟩=>
  cn (ho ae s2 σ H2 x y v u _ I2 r1 r2 q2) fun d s3 ⟨z,H3,I3,r3,k,e,q3⟩=>?_)) hm
 subst e;cases r3;refine jT ?_;cases k with
 |false=>
  obtain⟨k',e',q'⟩:=q3;cases e';exact ite_ff ⟨H3,I3,q'⟩
 |true=>
  refine ite_tt (test_last (cn (hc ae s3 σ H3 _ I3 q3) fun w' s4 ⟨z',H4,I4,r4,q4⟩=>cn (qq ae s4 σ H4 y z' u w' _ I4 r2 r4 q4) fun d' s5 ⟨z2,H5,I5,r5,k2,e2,q5⟩=>?_));subst e2;cases r5;exact jT ⟨H5,I5,q5⟩
theorem rZ:(sizeLine:Nat)<2 ^ 63:=by rw[gQ];decide
theorem uc(r:aR [x] us):∃u,us=[u]/\bj x u:=by
 cases r with
 |cons r1 r2=>cases r2;exact⟨_,rfl,r1⟩
theorem BO(r:aR [x,y] us):∃u w',us=[u,w']/\bj x u/\bj y w':=by
 cases r with
 |cons r1 r2=>
  cases r2 with
  |cons r3 r4=>cases r4;exact⟨_,_,rfl,r1,r3⟩
theorem jn(hc:X.calm=true):eM X (.builtin "max") (fun xs H Q=>∃i j,xs=[.int i,.int j]/\Q (.int (if j > i then j else i)) H):=by
 intro ae s σ H xs us Q I r h;obtain⟨i,j,rfl,q⟩:=h;obtain⟨u,w',rfl,⟨t,rfl⟩,⟨t',rfl⟩⟩:=BO r;refine max_two_ints (I.ok.hd hc) fun h' tk k=>⟨_,H,I.kept k,?_,q⟩
 by_cases hj:j > i
 .rw[am hj,am hj];exact⟨_,rfl⟩
 .rw[ao hj,ao hj];exact⟨_,rfl⟩
theorem lW(hc:X.calm=true):eM X (.builtin "min") (fun xs H Q=>∃i j,xs=[.int i,.int j]/\Q (.int (if j<i then j else i)) H):=by
 intro ae s σ H xs us Q I r h;obtain⟨i,j,rfl,q⟩:=h;obtain⟨u,w',rfl,⟨t,rfl⟩,⟨t',rfl⟩⟩:=BO r;refine min_two_ints (I.ok.hd hc) fun h' tk k=>⟨_,H,I.kept k,?_,q⟩
 by_cases hj:j<i
 .rw[am hj,am hj];exact⟨_,rfl⟩
 .rw[ao hj,ao hj];exact⟨_,rfl⟩
theorem zz:eM X (.type "int") (fun xs H Q=>(∃i,xs=[.int i]/\Q (.int i) H)\/∃k,xs=[.bl k]/\Q (.int (if k then 1 else 0)) H):=by
 intro ae s σ H xs us Q I r h;rcases h with ⟨i,rfl,q⟩|⟨k,rfl,q⟩
 .obtain⟨u,rfl,t,rfl⟩:=uc r;exact call_int_int ⟨.int i,H,I,⟨_,rfl⟩,q⟩
 .obtain⟨u,rfl,r1⟩:=uc r;cases r1;exact call_int_bool ⟨.int (if k then 1 else 0),H,I.tok _,⟨_,rfl⟩,q⟩
end
structure wO(h:Heap)(x dx C:Addr)(mA:Str->Option Value):Prop where
 obj:h.get? x=some (PySem.W.instObj C dx)
 ns:h.Ns1 dx mA
 ne:dx≠x
theorem zA{h:Heap}{dx:Addr}{mA:Str->Option Value}(n:h.Ns1 dx mA):∃od,h.get? dx=some od/\∀name,PySem.W.lookIn name od=some (mA name):=by
 obtain⟨o,es,ep,ho,hd,hk,_,hm⟩:=n;refine⟨o,ho,fun name=>?_⟩;have e:=hm name;unfold nsFind findBy at e;rw[<-Array.find?_toList] at e;unfold PySem.W.lookIn;rw[hd];dsimp only;split
 .rename_i y q;rw[q] at e;exact congrArg some e
 .rename_i q;rw[q] at e;have a:es.toList.any (·.refKey)=false:=by
   rw[wa];intro y hy;obtain⟨z,t,pU⟩:=hk y (Array.mem_toList_iff.mp hy);simp[DictEntry.refKey,pU]
  have a':¬ es.toList.any (·.refKey)=true:=by rw[a];exact bJ
  rw[ao a'];exact congrArg some e
theorem wO.look(I:wO h x dx C mA):∃od,PySem.W.InstAt h x (PySem.W.instObj C dx) C (some od)/\∀name,PySem.W.lookIn name od=some (mA name):=
 let ⟨od,ho,hl⟩:=zA I.ns
 ⟨od,⟨I.obj,rfl,rfl,ho⟩,hl⟩
section
variable {prog:Program} {w:World} {A:Around} {E:Value->Shared->Prop} {s:Shared} {K:PySem.W.Frag} {x dx C f:Addr} {mA:Str->Option Value} {name:Str} {v:Value}
theorem ES(X:K.In s.heap)(I:wO s.heap x dx C mA)(hg:PySem.W.plainGet K C name=true)(hh:PySem.W.hasDictIn K C=true)(ha:PySem.W.findIn K (.ref C) name=some none)(hv:mA name=some v)(Iy:PySem.W.handedIn v=true)(h:Q v { s with toks:=s.toks+1 }):
  wpAny (model prog w) A (getAttr (.ref x) name ET) Q E s:=by
 obtain⟨od,J,hl⟩:=I.look;exact PySem.W.get_value X J (vS hg).1 (PySem.W.findObj_own hh ha rfl (by rw[hl,hv])) Iy h
theorem BQ(X:K.In s.heap)(I:wO s.heap x dx C mA)(hg:PySem.W.plainGet K C name=true)(hf:PySem.W.findIn K (.ref C) name=some (some (.ref f)))(ht:PySem.W.isFn K (.ref f)=true)(hv:mA name=none)(h:Q (.ref f,[.ref x]) s):
  wpAny (model prog w) A (getMethod (.ref x) name pl) Q E s:=by
 obtain⟨od,J,hl⟩:=I.look;exact PySem.W.method_fn X J (vS hg).1 (vS hg).2 hf (fG.mp ht) (by show (PySem.W.lookIn name od).map (·.isSome)=some false;rw[hl,hv];rfl) h
theorem EU(X:K.In s.heap)(I:wO s.heap x dx C mA)(hs:PySem.W.findIn K (.ref C) "__setattr__"=some (some (.builtin "object.__setattr__")))(hp:PySem.W.plainOver K C=true)(ht:PySem.W.takerIn K C name=some none)(hh:PySem.W.hasDictIn K C=true)(hw:PySem.Within mA ns)(kP:ns.length<=sizeLine)(h:∀h',wO h' x dx C (fun y=>if y=name then some v else mA y)->Heap.SameBut dx s.heap h'->Q () { s with heap:=h',toks:=s.toks+2 }):
  wpAny (model prog w) A (setAttr (.ref x) name v) Q E s:=by
 obtain⟨od,J,hl⟩:=I.look;refine PySem.W.set_plain X J hs (PySem.W.osa_open (s:={ s with toks:=s.toks+1 }) (r:=none) X J hp ht fun b=>?_);obtain⟨cd,hc,LB⟩:=PySem.W.any_some hh;have hx:s.heap.get? x=some ⟨.ref C,some dx,.plain,#[]⟩:=I.obj;refine aw (wpAny_pure (aw (aw (wpAny_loadPart hx (aw (PySem.W.Looks.here (s:={ s with toks:=s.toks+1 }) (PySem.W.looks_clsIn X hc) ?_))))));rw[LB];refine wpAny_pure (a:=some dx) (aw (wpAny_pure (aw ?_)));refine wpAny_nsSet1 (s:={ s with toks:=s.toks+1 }) I.ns fun h' K_ vh=>?_;obtain⟨oD,ZW,ZX,W9,LX,EV⟩:=K_.count (PySem.Within.cons name v hw);refine aw (wpAny_lookBehind W9 (by rw[LX];exact pastItsLine_dict (bq EV (by rw[cZ];lia))) ?_);exact wpAny_pure (h _ ⟨(vh.2 _ (ci I.ne)).trans I.obj,K_,I.ne⟩ vh)
theorem BR(X:K.In s.heap)(hm:PySem.W.makesIn K C=true)(hi:PySem.W.findIn K (.ref C) "__init__"=some (some (.ref f)))(hf:PySem.W.typeIn K (.ref f)=some (.type "function"))(h:codeAny (model prog w) (A.under (.builtin "type.__call__" ⟨.ref C::vs,kw⟩)) (.call (.ref f) ⟨.ref (s.heap.objs.size+1)::vs,kw⟩) (PySem.W.InitBack (s.heap.objs.size+1) R)
   { s with heap:=(s.heap.push PySem.W.emptyDict).push (PySem.W.instObj C s.heap.objs.size) }):
  codeAny (model prog w) A (.call (.ref C) ⟨vs,kw⟩) R s:=by
 obtain⟨hh,g,d,t,os⟩:=s;exact PySem.W.make_core (PySem.W.makes_of X hm) (PySem.W.looks_findIn X hi) (fun self=>PySem.W.bind_fn X self hf) (.inl rfl) h
end
def cC(f:Str)(v:V):List (Str×V)->List (Str×V)
 |[]=>[(f,v)]
 |(g,x)::r=>if g=f then (g,v)::r else (g,x)::cC f v r
theorem aT(f g:Str)(v:V):∀fs:List (Str×V),(cC f v fs).lookup g=if g=f then some v else fs.lookup g
 |[]=>by
  show List.lookup g [(f,v)]=_;by_cases h:g=f
  .have hb:(g==f)=true:=fG.mpr h;simp only[List.lookup,hb,am h]
  .have hb:(g==f)=false:=jO.mpr h;simp only[List.lookup,hb,ao h]
 |(k,x)::r=>by
  have ih:=aT f g v r;rw[show cC f v ((k,x)::r)=(if k=f then (k,v)::r else (k,x)::cC f v r) from rfl];by_cases hk:k=f
  .rw[am hk];by_cases h:g=k
   .have hb:(g==k)=true:=fG.mpr h;simp only[List.lookup,hb,am (h.trans hk)]
   .have hb:(g==k)=false:=jO.mpr h;simp only[List.lookup,hb,ao (fun e:g=f=>h (e.trans hk.symm))]
  .rw[ao hk];by_cases h:g=k
   .have hb:(g==k)=true:=fG.mpr h;simp only[List.lookup,hb,ao (fun e:g=f=>hk (h.symm.trans e))]
   .have hb:(g==k)=false:=jO.mpr h;simp only[List.lookup,hb];exact ih
theorem lX(f:Str)(v:V):∀fs:List (Str×V),f∈(cC f v fs).map (·.1)/\∀g,g∈fs.map (·.1)->g∈(cC f v fs).map (·.1)
 |[]=>⟨by simp[cC],fun g h=>by simp at h⟩
 |(k,x)::r=>by
  obtain⟨i1,i2⟩:=lX f v r;rw[show cC f v ((k,x)::r)=(if k=f then (k,v)::r else (k,x)::cC f v r) from rfl];by_cases hk:k=f
  .rw[am hk];subst hk;exact⟨by simp,fun g h=>by simpa using h⟩
  .rw[ao hk];refine⟨?_,fun g h=>?_⟩
   .rw[gq];exact b_ _ i1
   .rw[gq] at h |-;rcases bu.mp h with e|e
    .exact bu.mpr (.inl e)
    .exact b_ _ (i2 g e)
theorem c_(f:Str)(v:V):∀fs:List (Str×V),(cC f v fs).length<=fs.length+1
 |[]=>by simp[cC]
 |(k,x)::r=>by
  have ih:=c_ f v r;rw[show cC f v ((k,x)::r)=(if k=f then (k,v)::r else (k,x)::cC f v r) from rfl];by_cases hk:k=f
  .rw[am hk,cZ,cZ];lia
  .rw[ao hk,cZ,cZ];lia
theorem pR.some_of(r:pR (some v) o):∃u,o=some u/\bj v u:=by
 cases o with
 |none=>exact(show False from r).elim
 |some u=>exact⟨u,rfl,r⟩
theorem pR.none_of(r:pR none o):o=none:=by
 cases o with
 |none=>rfl
 |some u=>exact(show False from r).elim
theorem zB(r:bj v u):PySem.W.handedIn u=true:=by
 cases v with
 |bi=>cases (show u=Value.none from r);rfl
 |bl b=>cases (show u=Value.bool b from r);rfl
 |int i=>obtain⟨t,e⟩:=(show ∃t,u=Value.int i t from r);cases e;rfl
 |str x=>obtain⟨t,e⟩:=(show ∃t,u=Value.str x t from r);cases e;rfl
 |AI b=>obtain⟨t,e⟩:=(show ∃t,u=Value.bytes b t from r);cases e;rfl
 |Ig b=>obtain⟨t,e⟩:=(show ∃t,u=Value.float b t from r);cases e;rfl
 |ref a=>cases (show u=Value.ref a from r);rfl
 |ty n=>cases (show u=Value.type n from r);rfl
section
variable {P:Program} {w:World} {H H':Hp} {h h':Heap} {a C dx:Addr} {fs W3:List (Str×V)}
theorem nU(bA:ji P w H h)(e:H a=some (.ins C dx fs)):∃mA,wO h a dx C mA/\(∀f,pR (fs.lookup f) (mA f))/\PySem.Within mA (fs.map (·.1))/\fs.length<=1000/\H dx=some (.own a):=by
 obtain⟨d,z,ne,ob,mA,n,r,q⟩:=(show bK P w H h a (.ins C dx fs) from bA a _ e)
 exact⟨mA,⟨ob,n,ne⟩,r,q,z,d⟩
end
structure AL(K:PySem.W.Frag)(C:Addr):Prop where
 pg:PySem.W.plainGet K C Str.empty=true
 hd:PySem.W.hasDictIn K C=true
 po:PySem.W.plainOver K C=true
 sa:PySem.W.findIn K (.ref C) "__setattr__"=some (some (.builtin "object.__setattr__"))
theorem AL.get{K:PySem.W.Frag}{C:Addr}(c:AL K C)(f:Str):PySem.W.plainGet K C f=true:=c.pg
def eX(K:PySem.W.Frag)(C:Addr)(f:Str):Prop:=PySem.W.findIn K (.ref C) f=some none
theorem eX.LY{K:PySem.W.Frag}{C:Addr}{f:Str}(n:eX K C f):PySem.W.takerIn K C f=some none:=by
 unfold PySem.W.takerIn;rw[show PySem.W.findIn K (.ref C) f=some none from n];rfl
structure EW(K:PySem.W.Frag)(C:Addr)(m:Str)(f:Addr):Prop where
 at_:PySem.W.findIn K (.ref C) m=some (some (.ref f))
 fn:PySem.W.isFn K (.ref f)=true
 kp:PySem.W.keepIn K (.ref f)=true
section
variable {X:Cx} {ae:List (Addr×Obj)} {σ:St} {H:Hp} {s:Shared} {a C dx:Addr} {fs:List (Str×V)} {f:Str} {v:V} {A:Around} {E:Value->Shared->Prop}
theorem wP(I:aF X ae σ H s)(e:H a=some (.ins C dx fs))(c:AL X.K C)(n:eX X.K C f)(l:fs.lookup f=some v)(h:∀u s',aF X ae σ H s'->bj v u->Q u s'):wpAny (model X.prog X.w) A (getAttr (.ref a) f b) Q E s:=by
 obtain⟨mA,O,r,_,_,_⟩:=nU I.bA e;obtain⟨u,hu,ru⟩:=pR.some_of (v:=v) (o:=mA f) (by rw[<-l];exact r f);exact ES I.j5 O (c.get f) c.hd n hu (zB ru) (h u _ (I.tok _) ru)
theorem oX(I:aF X ae σ H s)(e:H a=some (.ins C dx fs))(c:AL X.K C)(k:EW X.K C m g)(l:fs.lookup m=none)(h:Q (.ref g,[.ref a]) s):wpAny (model X.prog X.w) A (getMethod (.ref a) m pl) Q E s:=by
 obtain⟨mA,O,r,_,_,_⟩:=nU I.bA e;have hn:mA m=none:=pR.none_of (by rw[<-l];exact r m);exact BQ I.j5 O (c.get m) k.at_ k.fn hn h
theorem wQ(I:aF X ae σ H s)(e:H a=some (.ins C dx fs))(c:AL X.K C)(n:eX X.K C f)(hl:fs.length<1000)(ry:bj y u)(h:∀s',aF X ae σ (upd H a (.ins C dx (cC f y fs))) s'->Q () s'):wpAny (model X.prog X.w) A (setAttr (.ref a) f u) Q E s:=by
 obtain⟨mA,O,r,wi,_,ho⟩:=nU I.bA e;have hz:(fs.map (·.1)).length<=sizeLine:=by rw[bp,gQ];lia
 refine EU I.j5 O c.sa c.po n.LY c.hd wi hz fun h' O' sb=>h _ ?_;have hd:∃o,h'.get? dx=some o:=let ⟨o,_,_,e',_⟩:=O'.ns;⟨o,e'⟩;refine I.write (x:=a) (e:=dx) (by rw[e];exact True.intro) (.inr ho) (fun b q hb z=>(sb.2 b hb).trans z) hd ?_;refine⟨by rw[al O.ne];exact ho,?_,O.ne,O'.obj,_,O'.ns,fun g=>?_,fun g hg=>?_⟩
 .have:=c_ f y fs;lia
 .show pR ((cC f y fs).lookup g) (if g=f then some u else mA g);rw[aT];by_cases q:g=f
  .rw[am q,am q];exact ry
  .rw[ao q,ao q];exact r g
 .by_cases q:g=f
  .rw[q];exact(lX f y fs).1
  .refine(lX f y fs).2 g (wi g fun z=>hg ?_);show (if g=f then some u else mA g)=none;rw[ao q];exact z
theorem aF.made(I:aF X ae σ H s):aF X ae σ (upd (upd H s.heap.objs.size (.own (s.heap.objs.size+1))) (s.heap.objs.size+1) (.ins C s.heap.objs.size []))
  { s with heap:=(s.heap.push PySem.W.emptyDict).push (PySem.W.instObj C s.heap.objs.size) }:=by
 have e1:(s.heap.push PySem.W.emptyDict).get? s.heap.objs.size=some PySem.W.emptyDict:=cW s.heap rfl;have e2:((s.heap.push PySem.W.emptyDict).push (PySem.W.instObj C s.heap.objs.size)).get? (s.heap.objs.size+1)=some (PySem.W.instObj C s.heap.objs.size):=by
  have:=cW (s.heap.push PySem.W.emptyDict) (o:=PySem.W.instObj C s.heap.objs.size) rfl;rwa [iE] at this
 have e3:(s.heap.push PySem.W.emptyDict).Ns s.heap.objs.size (fun _=>none):=⟨PySem.W.emptyDict,#[],_,e1,rfl,(fun e he=>absurd he (by simp)),fun _=>rfl⟩
 have I1:=I.laid (a:=s.heap.objs.size) (o:=.own (s.heap.objs.size+1)) (h':=s.heap.push PySem.W.emptyDict) (t':=s.toks) (fun b u q=>cE _ q) (aO _) ⟨_,e1⟩;refine I1.laid (a:=s.heap.objs.size+1) (o:=.ins C s.heap.objs.size []) (t':=s.toks) (fun b u q=>cE _ q) (rO (iE _ _)) ?_;have ne:s.heap.objs.size≠s.heap.objs.size+1:=aZ (jU _);refine⟨by rw[al ne,ag],cR _,ne,e2,fun _=>none,(Heap.Ns1.of_empty e3).at fun o q=>cE _ q,fun _=>True.intro,fun y hy=>absurd rfl hy⟩
theorem EX(hb:attributeBase e f env (eval e env)=eval e env)(h:wpAny (model prog w) A (eval e env) (fun o s₁=>wpAny (model prog w) A (getAttr o f true) Q E s₁) E s):wpAny (model prog w) A (eval (.Attribute e f pos) env) Q E s:=
 Attribute_any_ h (by rw[arm_eval_Attribute,hb])
end
def LZ(K:PySem.W.Frag)(ta:TE)(f:Str):TE:=fun σ H Q=>ta σ H fun x H1=>∃a C dx fs v,x=.ref a/\H1 a=some (.ins C dx fs)/\AL K C/\eX K C f/\fs.lookup f=some v/\Q v H1
def QG(K:PySem.W.Frag)(ta tv:TE)(f:Str):TS:=fun D σ H=>tv σ H fun y H1=>ta σ H1 fun x H2=>∃a C dx fs,x=.ref a/\H2 a=some (.ins C dx fs)/\AL K C/\eX K C f/\fs.length<1000/\
 D.nx σ (upd H2 a (.ins C dx (cC f y fs)))
section
variable {X:Cx} {o e value:Expr} {f:Str} {pos zw L3:Pos} {ta tv:TE}
theorem gZ(he:PE X e ta)(hb:attributeBase e f X.env (eval e X.env)=eval e X.env):PE X (.Attribute e f pos) (LZ X.K ta f):=by
 intro ae s σ H Q I h;refine EX hb (cn (he ae s σ H _ I h) fun u s1 ⟨x,H1,I1,rx,a,C,dx,fs,v,ex,ea,c,n,l,q⟩=>?_);subst ex;obtain rfl:u=Value.ref a:=rx;exact wP I1 ea c n l fun u' s2 I2 ru=>⟨v,H1,I2,ru,q⟩
theorem lY(ha:PE X o ta)(hv:PE X value tv)(hs:swapsWith value (some (.Attribute o f zw)) pos.line X.env=pure false):PS X (.Assign [.Attribute o f zw] value pos) (QG X.K ta tv f):=by
 intro ae s σ H D I h;refine plainObj_wpAny_Assign_Attribute (cn (hv ae s σ H _ I h) fun u s1 ⟨y,H1,I1,ry,q⟩=>cn (ha ae s1 σ H1 _ I1 q) fun ov s2 ⟨x,H2,I2,rx,a,C,dx,fs,ex,ea,c,n,l,q2⟩=>?_) hs;subst ex;obtain rfl:ov=Value.ref a:=rx;exact wQ I2 ea c n l ry fun s3 I3=>⟨σ,_,I3,q2⟩
end
section
variable {X:Cx} {ae:List (Addr×Obj)} {σ:St} {H:Hp} {s:Shared} {A:Around} {E:Value->Shared->Prop} {Q:Value->Shared->Prop} {c:Value} {b:Bool}
inductive lZ (K:PySem.W.Frag) (H:Hp):V->Value->Prop where
 |bi:lZ K H .bi (.type "NoneType")
 |bl (x:Bool):lZ K H (.bl x) (.type "bool")
 |int (i:Int):lZ K H (.int i) (.type "int")
 |str (x:Str):lZ K H (.str x) (.type "str")
 |Ig (x:UInt64):lZ K H (.Ig x) (.type "float")
 |lst {a:Addr} {xs:List V} (e:H a=some (.lst xs)):lZ K H (.ref a) (.type "list")
 |qp {a:Addr} {o:Obj} {xs:List V} (e:H a=some (.qp o (.lst xs))):lZ K H (.ref a) (.type "list")
 |tup {a:Addr} {xs:List V} (e:H a=some (.tup xs)):lZ K H (.ref a) (.type "tuple")
 |dK {a:Addr} {cu:List (jw×V)} (e:H a=some (.dK cu)):lZ K H (.ref a) (.type "dict")
 |dT {a:Addr} {cu:List (List jw×V)} (e:H a=some (.dT cu)):lZ K H (.ref a) (.type "dict")
 |ins {a C dx:Addr} {fs:List (Str×V)} (e:H a=some (.ins C dx fs)) (cl:AL K C) (ha:PySem.W.findIn K (.ref C) "__class__"=some (some (.builtin "object.__class__")))
   (hn:PySem.W.specialIn K (.builtin "object.__class__") "__get__"=some (some (.builtin "getset_descriptor.__get__"))) (QH:PySem.W.takesIn K (.builtin "object.__class__")=some true)
   (hm:PySem.W.mroIn K C (.type "object")=some true):lZ K H (.ref a) (.ref C)
theorem qu(I:aF X ae σ H s)(rx:bj x u)(ty:lZ X.K H x t)(e:PySem.W.kitOne X.K t c=some b)(h:∀tk,Q (.bool b) { s with toks:=tk }):
  wpAny (model X.prog X.w) A (call (.builtin "isinstance") [u,c]) Q E s:=by
 cases ty with
 |bi=>cases (show u=Value.none from rx);exact gm PySem.W.kitx_none I.j5 True.intro e (fun z=>nomatch z) h
 |bl y=>cases (show u=Value.bool y from rx);exact gm PySem.W.kitx_bool I.j5 True.intro e (fun z=>nomatch z) h
 |int i=>obtain⟨t,q⟩:=(show ∃t,u=Value.int i t from rx);cases q;exact gm PySem.W.kitx_int I.j5 True.intro e (fun z=>nomatch z) h
 |str y=>obtain⟨t,q⟩:=(show ∃t,u=Value.str y t from rx);cases q;exact gm PySem.W.kitx_str I.j5 True.intro e (fun z=>nomatch z) h
 |Ig y=>obtain⟨t,q⟩:=(show ∃t,u=Value.float y t from rx);cases q;exact gm PySem.W.kitx_float I.j5 True.intro e (fun z=>nomatch z) h
 |@lst a xs ea=>
  cases (show u=Value.ref a from rx);obtain⟨_,_,n,_,h1⟩:=(show bK X.prog X.w H s.heap a (.lst xs) from I.bA a _ ea)
  exact gm PySem.W.kitx_list I.j5 ⟨_,h1,rfl⟩ e (fun z=>nomatch z) h
 |@qp a ob xs ea=>
  cases (show u=Value.ref a from rx);obtain⟨_,_,_,n,_,h1⟩:=(show bK X.prog X.w H s.heap a (.qp ob (.lst xs)) from I.bA a _ ea)
  exact gm PySem.W.kitx_list I.j5 ⟨_,h1,rfl⟩ e (fun z=>nomatch z) h
 |@tup a xs ea=>
  cases (show u=Value.ref a from rx);obtain⟨_,_,_,p⟩:=(show bK X.prog X.w H s.heap a (.tup xs) from I.bA a _ ea)
  obtain⟨o,h1,h2,_⟩:=p;exact gm PySem.W.kitx_tuple I.j5 ⟨o,h1,h2⟩ e (fun z=>nomatch z) h
 |@dK a cu ea=>
  cases (show u=Value.ref a from rx);obtain⟨_,_,vs,_,p⟩:=(show bK X.prog X.w H s.heap a (.dK cu) from I.bA a _ ea)
  obtain⟨o,es,ep,h1,h2,_⟩:=p;exact gm PySem.W.kitx_dict I.j5 ⟨o,h1,h2.1⟩ e (fun z=>nomatch z) h
 |@dT a cu ea=>
  cases (show u=Value.ref a from rx);obtain⟨_,_,xs,_,o,es,ep,h1,h2,_⟩:=(show bK X.prog X.w H s.heap a (.dT cu) from I.bA a _ ea)
  exact gm PySem.W.kitx_dict I.j5 ⟨o,h1,h2.1⟩ e (fun z=>nomatch z) h
 |@ins a C dx fs ea cl ha hn QH hm=>
  cases (show u=Value.ref a from rx);obtain⟨mA,O,_⟩:=nU I.bA ea;obtain⟨od,J,_⟩:=O.look;exact gm (PySem.W.kitx_own (cl.get _) cl.hd ha hn QH hm) I.j5 J e (fun z=>nomatch z) h
end
structure bv(k:Nat)(A:Around):Prop where
 hd:A.handled=none
 dp:A.depth+3*k+5<recursionLimit
 un:A.units+16*k+200<cLine
 gd:A.guards=some []
theorem bv.mono(r:bv k A)(h:j<=k):bv j A:=⟨r.hd,by have:=r.dp;lia,by have:=r.un;lia,r.gd⟩
theorem bv.deeper(r:bv (k+1) A)(env:Env):bv k (A.deeper env):=
 ⟨r.hd,by have:=r.dp;show A.depth+1+3*k+5<_;lia,by have:=r.un;show A.units+3+16*k+200<_;lia,r.gd⟩
theorem wR{A:Around}{C:Addr}{us:List Value}{kw:List (Str×Value)}:(A.under (.builtin "type.__call__" ⟨.ref C::us,kw⟩)).depth=A.depth+1:=by
 first|rfl|simp[Around.under,Code.weight,Code.isCreation,Code.isGuard,Code.isCaller,Code.frames,Code.isFrame,guardIds]
theorem wS{A:Around}{C:Addr}{us:List Value}{kw:List (Str×Value)}:(A.under (.builtin "type.__call__" ⟨.ref C::us,kw⟩)).units=A.units+1:=by
 first|rfl|simp[Around.under,Code.cUnits,Code.frames,Code.isFrame]
theorem bv.make(r:bv (k+1) A)(C:Addr)(us:List Value)(kw:List (Str×Value)):bv k (A.under (.builtin "type.__call__" ⟨.ref C::us,kw⟩)):=
 ⟨r.hd,by have:=r.dp;rw[wR];lia,by have:=r.un;rw[wS];lia,r.gd⟩
theorem bv.depth(r:bv k A):A.depth<recursionLimit:=by have:=r.dp;lia
theorem bv.u(r:bv k A)(h:n<=200:=by decide):A.units+n<cLine:=by have:=r.un;lia
def dJ:TA:=fun _ H Q=>Q [] H
def aY(ta:TE)(tr:TA):TA:=fun σ H Q=>ta σ H fun x H1=>tr σ H1 fun xs H2=>Q (x::xs) H2
section
variable {X:Cx} {e:Expr} {es:List Expr} {te:TE} {t:TA} {pos:Pos}
theorem af:PA X [] dJ:=fun _ _ _ _ H Q I h=>Calls.spliced_nil ⟨[],H,I,.nil,h⟩
theorem aa(ha:PE X e te)(hr:PA X es t)(hs:starEach (e::es) X.env=(false,eval e X.env)::starEach es X.env:=by rfl):PA X (e::es) (aY te t):=by
 intro pos ae s σ H Q I h;rw[hs];show wpAny _ _ (spliced ((false,eval e X.env)::backTo pos (starEach es X.env))) _ _ s;refine Calls.spliced_cons (cn (ha ae s σ H _ I h) fun u s1 ⟨x,H1,I1,r1,q1⟩=>?_);exact cn (hr pos ae s1 σ H1 _ I1 q1) fun us s2 ⟨xs,H2,I2,r2,q2⟩=>⟨x::xs,H2,I2,.cons r1 r2,q2⟩
def wT(t:TA):TE:=fun σ H Q=>t σ H fun xs H1=>xs.length<=sizeLine/\∀p,H1 p=none->Q (.ref p) (upd H1 p (.tup xs))
def r_(t:TA):TE:=fun σ H Q=>t σ H fun xs H1=>xs.length<=sizeLine/\∀p,H1 p=none->Q (.ref p) (upd H1 p (.lst xs))
theorem dB{x1}(h:PA X es t):PE X (.Tuple es x1 pos) (wT t):=by
 intro ae s σ H Q I hq;refine wpAny_Tuple_spliced (cn (h pos ae s σ H _ I hq) fun us s1 ⟨xs,H1,I1,r,z,q⟩=>⟨by rw[<-r.length];exact z,?_⟩);have hf:H1 s1.heap.objs.size=none:=I1.bA.fresh (aO _);refine⟨.ref s1.heap.objs.size,upd H1 s1.heap.objs.size (.tup xs),I1.laid (t':=s1.toks) (fun b u e=>cE _ e) (aO _) ?_,rfl,q _ hf⟩;exact⟨z,us,r,⟨_,cW _ rfl,rfl,_,rfl,rfl⟩⟩
theorem bw(h:PA X es t):PE X (.List es pos) (r_ t):=by
 intro ae s σ H Q I hq;refine wpAny_List_spliced (cn (h pos ae s σ H _ I hq) fun us s1 ⟨xs,H1,I1,r,z,q⟩=>⟨by rw[<-r.length];exact z,?_⟩);have hf:H1 s1.heap.objs.size=none:=I1.bA.fresh (aO _);refine⟨.ref s1.heap.objs.size,upd H1 s1.heap.objs.size (.lst xs),I1.laid (t':=s1.toks) (fun b u e=>cE _ e) (aO _) ?_,rfl,q _ hf⟩;exact⟨z,us,0,r,cW _ rfl⟩
end
abbrev Sp:=List V->Hp->VK->XK->Prop
abbrev nV:=List Env->Hp->Shared->XK->Value->Shared->Prop
structure se(P:Program)(w:World)(K:PySem.W.Frag)(mg:Str->Option Value)(base:Heap)(A:Around)(outer:List Env)(s:Shared)(H:Hp):Prop where
 frames:A.frames=some outer
 mod:Mod K mg base
 bs:∀b o,base.get? b=some o->s.heap.get? b=some o/\H b=none
 zq:base.objs.size<=s.heap.objs.size
 iL:s.heap.FunFrames base outer
 AK:∀b∈jD outer,H b=none
 bA:ji P w H s.heap
 bare:AllBare s.gens
def CE(outer:List Env)(P:Program)(w:World)(H:Hp)(s:Shared)(Q:VK)(u:Value)(s':Shared):Prop:=
 ∃v H',s'.os=s.os/\AllBare s'.gens/\Un (jD outer) [] H H' s.heap s'.heap/\ji P w H' s'.heap/\bj v u/\Q v H'
def CR(CX:nV)(outer:List Env)(P:Program)(w:World)(H:Hp)(s:Shared)(Q:VK)(E:XK)(r:Result)(s':Shared):Prop:=
 match r with
 |.ok (.ret u)=>CE outer P w H s Q u s'
 |.ok _=>False
 |.error e=>CX outer H s E e s'
structure a7(P:Program)(w:World)(K:PySem.W.Frag)(mg:Str->Option Value)(base:Heap)(CX:nV)(k:Nat)(f:Addr)(fd:FuncData)(ps:List Str)(sp:Sp):Prop where
 len:∀vs H Q E,sp vs H Q E->vs.length=ps.length
 run:∀ (A:Around) (outer:List Env) (s:Shared) (H:Hp) (args:Args) (us:List Value) (vs:List V) (Q:VK) (E:XK),bv k A->se P w K mg base A outer s H->BindsTo s fd args (ps.zip us)->aR vs us->sp vs H Q E->
  codeAny (model P w) A (.call (.ref f) args) (CR CX outer P w H s Q E) s
theorem se.make{P:Program}{w:World}{K:PySem.W.Frag}{mg:Str->Option Value}{base:Heap}{A:Around}{outer:List Env}{s:Shared}{H:Hp}(e:se P w K mg base A outer s H)(C:Addr)(us:List Value)(kw:List (Str×Value)):
  se P w K mg base (A.under (.builtin "type.__call__" ⟨.ref C::us,kw⟩)) outer s H:=⟨by first|exact e.frames|(simpa [Around.under,Code.envs,Code.isFrame,pushEnvs] using e.frames),e.mod,e.bs,e.zq,e.iL,e.AK,e.bA,e.bare⟩
section
variable {X:Cx} {ae:List (Addr×Obj)} {σ:St} {H:Hp} {s s':Shared}
theorem aF.EY(I:aF X ae σ H s):se X.prog X.w X.K X.mg X.base X.A X.stack s H:=
 ⟨I.ok.frames,I.ok.mod,I.bs,bq I.ok.zq I.sz,I.stack,I.rS,I.bA,I.bare⟩
theorem aF.after(I:aF X ae σ H s)(h:CE X.stack X.prog X.w H s Q u s'):EP X ae σ Q u s':=by
 obtain⟨v,H',os,bare,un,bA,r,q⟩:=h;obtain⟨hh,g,d,t,Vq⟩:=s';obtain rfl:Vq=s.os:=os;exact⟨v,H',I.call (h':=hh) (g':=g) (d':=d) (t':=t) (ch:=[]) un bA bare (fun b z=>absurd z (by simp)),r,q⟩
end
def mS(sp:Sp)(ik:List V)(E:XK)(t:TA):TE:=fun σ H Q=>t σ H fun vs H1=>sp (vs++ik) H1 Q E
def G9(C:Addr)(m:Str)(sp:Sp)(ik:List V)(E:XK)(ta:TE)(t:TA):TE:=fun σ H Q=>ta σ H fun x H1=>∃a dx fs,x=.ref a/\H1 a=some (.ins C dx fs)/\fs.lookup m=none/\
 t σ H1 fun vs H2=>sp (x::(vs++ik)) H2 Q E
def L4(C:Addr)(sp:Sp)(ik:List V)(E:XK)(t:TA):TE:=fun σ H Q=>t σ H fun vs H1=>∀x dx,H1 x=none->H1 dx=none->dx≠x->
 sp (.ref x::(vs++ik)) (upd (upd H1 dx (.own x)) x (.ins C dx [])) (fun v H2=>v=.bi/\Q (.ref x) H2) E
def eO(K:PySem.W.Frag)(fd:FuncData)(ps:List Str)(ds:List Value):Prop:=
 ∀ (s:Shared) (us:List Value),K.In s.heap->(us++ds).length=ps.length->BindsTo s fd ⟨us,[]⟩ (ps.zip (us++ds))
theorem eO.all{K:PySem.W.Frag}{fd:FuncData}{ps:List Str}(h:∀us:List Value,us.length=ps.length->bindArgs fd ⟨us,[]⟩=pure (ps.zip us)):eO K fd ps []:=fun s us _ hl=>by
 rw[oG] at hl |-;exact .of_eq (h us hl)
def eY(CX:nV)(X:Cx)(E:XK):Prop:=∀ (ae:List (Addr×Obj)) (σ:St) (H:Hp) (s:Shared) (e:Value) (s':Shared),aF X ae σ H s->CX X.stack H s E e s'->X.xe e s'
section
variable {X:Cx} {CX:nV} {k:Nat} {f C:Addr} {fd:FuncData} {ps:List Str} {sp:Sp} {ik:List V} {ds:List Value} {E:XK} {x m:Str} {p pos nj:Pos} {e o:Expr} {es:List Expr} {ta:TE} {t:TA}
theorem wU(F:a7 X.prog X.w X.K X.mg X.base CX k f fd ps sp)(hr:bv k X.A)(hb:eO X.K fd ps ds)(hd:aR ik ds)(hx:eY CX X E)(I:aF X ae σ H s)(r:aR vs us)(h:sp (vs++ik) H Q E):wpAny (model X.prog X.w) X.A (call (.ref f) us) (EP X ae σ Q) X.xe s:=by
 have r2:aR (vs++ik) (us++ds):=r.append hd;have hl:(us++ds).length=ps.length:=by rw[<-r2.length];exact F.len _ _ _ _ h
 refine lP (iF (F.run X.A X.stack s H ⟨us,[]⟩ (us++ds) (vs++ik) Q E hr I.EY (hb s us I.j5 hl) r2 h) fun r s' hq=>?_);cases r with
 |error e=>exact hx ae σ H s e s' I hq
 |ok fl=>
  cases fl with
  |ret u=>exact I.after hq
  |next=>exact False.elim hq
  |brk=>exact False.elim hq
  |cont=>exact False.elim hq
theorem EZ(F:a7 X.prog X.w X.K X.mg X.base CX k f fd ps sp)(hr:bv k X.A)(hg:Gl X x)(hm:X.mg x=some (.ref f))(hk:PySem.W.keepIn X.K (.ref f)=true)(hb:eO X.K fd ps ds)(hd:aR ik ds)(hx:eY CX X E)(ha:PA X (e::es) t)(nk:(x==("__debug__":Str))=false:=by decide)(he:starEach (e::es) X.env=(false,eval e X.env)::starEach es X.env:=by rfl)(mL:(backTo pos (starEach es X.env)).any (·.1)=false:=by rfl):
  PE X (.Call (.Name x p) (e::es) [] pos) (mS sp ik E t):=by
 intro ae s σ H Q I h;refine jS (jk I hg hm ?_ nk);refine oA (h₀:=X.base) I.ok.mod.Eo hk (cn (ha pos ae s σ H _ I h) fun us s1 ⟨vs,H1,I1,r,q⟩=>⟨I1.j5,?_⟩) he mL;exact wU F hr hb hd hx I1 r q
theorem dO(he:PE X o ta)(c:AL X.K C)(hm:EW X.K C m f)(F:a7 X.prog X.w X.K X.mg X.base CX k f fd ps sp)(hr:bv k X.A)(hb:eO X.K fd ps ds)(hd:aR ik ds)(hx:eY CX X E)(ha:PA X (e::es) t)(eV:starEach (e::es) X.env=(false,eval e X.env)::starEach es X.env:=by rfl)(mL:(backTo pos (starEach es X.env)).any (·.1)=false:=by rfl)(ht:eval (.Call (.Attribute o m nj) (e::es) [] pos) X.env=(do
   let ov <- eval o X.env
   standAt nj.atName
   let (f,first) <- holding [ov] (getMethod ov m pl)
   callWith pos f first (backTo pos (starEach (e::es) X.env)) (backToKw pos (keywordEach [] X.env))):=by rfl):
  PE X (.Call (.Attribute o m nj) (e::es) [] pos) (G9 C m sp ik E ta t):=by
 intro ae s σ H Q I h;refine PySem.W.methodCall_KW (pl:=pl) (cn (he ae s σ H _ I h) fun u s1 ⟨x,H1,I1,rx,a,dx,fs,ex,ea,l,q⟩=>?_) ht;subst ex;obtain rfl:u=Value.ref a:=rx;refine oX I1 ea c hm l ?_;refine oA (first:=[.ref a]) (h₀:=X.base) I.ok.mod.Eo hm.kp (cn (ha pos ae s1 σ H1 _ I1 q) fun us s2 ⟨vs,H2,I2,r,q2⟩=>⟨I2.j5,?_⟩) eV mL;exact wU (us:=.ref a::us) (vs:=.ref a::vs) F hr hb hd hx I2 (.cons rfl r) q2
theorem ud{pl:Sem Bool}(he:PE X o ta)(c:AL X.K C)(hm:EW X.K C m f)(F:a7 X.prog X.w X.K X.mg X.base CX k f fd ps sp)(hr:bv k X.A)(hb:eO X.K fd ps ds)(hd:aR ik ds)(hx:eY CX X E)(ht:eval (.Call (.Attribute o m nj) [] [] pos) X.env=(do
   let ov <- eval o X.env
   standAt nj.atName
   let (f,first) <- holding [ov] (getMethod ov m pl)
   callWith pos f first (backTo pos (starEach [] X.env)) (backToKw pos (keywordEach [] X.env))):=by rfl):
  PE X (.Call (.Attribute o m nj) [] [] pos) (G9 C m sp ik E ta dJ):=by
 intro ae s σ H Q I h;refine PySem.W.methodCall_KW (pl:=pl) (cn (he ae s σ H _ I h) fun u s1 ⟨x,H1,I1,rx,a,dx,fs,ex,ea,l,q⟩=>?_) ht;subst ex;obtain rfl:u=Value.ref a:=rx;refine oX I1 ea c hm l ?_;exact PySem.W.callWith_K0 (first:=[.ref a]) I1.j5 hm.kp (wU (us:=[.ref a]) (vs:=[.ref a]) F hr hb hd hx I1 (.cons rfl .nil) q)
structure Mk(K:PySem.W.Frag)(C f:Addr):Prop where
 makes:PySem.W.makesIn K C=true
 init:PySem.W.findIn K (.ref C) "__init__"=some (some (.ref f))
 fn:PySem.W.isFn K (.ref f)=true
 kp:PySem.W.keepIn K (.ref C)=true
theorem BU(M:Mk X.K C f)(F:a7 X.prog X.w X.K X.mg X.base CX k f fd ps sp)(hr:bv (k+1) X.A)(hb:eO X.K fd ps ds)(hd:aR ik ds)(hx:eY CX X E)(I:aF X ae σ H s)(r:aR vs us)(h:∀x dx,H x=none->H dx=none->dx≠x->sp (.ref x::(vs++ik)) (upd (upd H dx (.own x)) x (.ins C dx [])) (fun v H2=>v=.bi/\Q (.ref x) H2) E):
  wpAny (model X.prog X.w) X.A (call (.ref C) us) (EP X ae σ Q) X.xe s:=by
 have hq:=h (s.heap.objs.size+1) s.heap.objs.size (I.bA.fresh (Nat.le_succ _)) (I.bA.fresh (aO _)) (aZ (jU _));have I2:=aF.made (C:=C) I;have r2:aR (V.ref (s.heap.objs.size+1)::(vs++ik)) (Value.ref (s.heap.objs.size+1)::(us++ds)):=.cons rfl (r.append hd);have hl:(Value.ref (s.heap.objs.size+1)::us++ds).length=ps.length:=by
  have e:=r2.length;rw[F.len _ _ _ _ hq] at e;exact e.symm
 refine lP (BR (f:=f) I.j5 M.makes M.init (fG.mp M.fn) (iF (F.run _ X.stack _ _ ⟨Value.ref (s.heap.objs.size+1)::us,[]⟩ (Value.ref (s.heap.objs.size+1)::(us++ds)) _ _ E (hr.make C us [])
  (I2.EY.make C us []) (hb _ (Value.ref (s.heap.objs.size+1)::us) I2.j5 hl) r2 hq) fun r s' Iz=>?_))
 cases r with
 |error e=>exact hx ae σ _ _ e s' I2 Iz
 |ok fl=>
  cases fl with
  |ret u=>
   obtain⟨v,H',I3,rv,ev,q3⟩:=I2.after Iz;subst ev;exact⟨rv,⟨V.ref (s.heap.objs.size+1),H',I3,rfl,q3⟩⟩
  |next=>exact False.elim Iz
  |brk=>exact False.elim Iz
  |cont=>exact False.elim Iz
theorem ye(M:Mk X.K C f)(F:a7 X.prog X.w X.K X.mg X.base CX k f fd ps sp)(hr:bv (k+1) X.A)(hg:Gl X x)(hm:X.mg x=some (.ref C))(hb:eO X.K fd ps ds)(hd:aR ik ds)(hx:eY CX X E)(ha:PA X (e::es) t)(nk:(x==("__debug__":Str))=false:=by decide)(he:starEach (e::es) X.env=(false,eval e X.env)::starEach es X.env:=by rfl)(mL:(backTo pos (starEach es X.env)).any (·.1)=false:=by rfl):
  PE X (.Call (.Name x p) (e::es) [] pos) (L4 C sp ik E t):=by
 intro ae s σ H Q I h;refine jS (jk I hg hm ?_ nk);refine oA (h₀:=X.base) I.ok.mod.Eo M.kp (cn (ha pos ae s σ H _ I h) fun us s1 ⟨vs,H1,I1,r,q⟩=>⟨I1.j5,?_⟩) he mL;exact BU M F hr hb hd hx I1 r q
end
def PK(X:Cx)(BV:List Keyword)(t:TA):Prop:=
 ∀ (pos:Pos) (ae:List (Addr×Obj)) (s:Shared) (σ:St) (H:Hp) (Q:List V->Hp->Prop),aF X ae σ H s->t σ H Q->wpAny (model X.prog X.w) X.A (evalAll ((backToKw pos (keywordEach BV X.env)).map (·.2))) (AP X ae σ Q) X.xe s
section
variable {X:Cx} {CX:nV} {k:Nat} {f C:Addr} {fd:FuncData} {ps ks:List Str} {sp:Sp} {E:XK} {x m:Str} {p pos nj QI:Pos} {e o:Expr} {es:List Expr} {BV:List Keyword} {te ta:TE} {t tk:TA} {nm:Option Str}
theorem IA:PK X [] dJ:=fun _ _ _ _ H Q I h=>wpAny_evalAll_nil ⟨[],H,I,.nil,h⟩
theorem E2(ha:PE X e te)(hr:PK X BV t):PK X (⟨nm,e,QI⟩::BV) (aY te t):=by
 intro pos ae s σ H Q I h;show wpAny _ _ (evalAll ((do let v <- eval e X.env;standAt pos;pure v)::(backToKw pos (keywordEach BV X.env)).map (·.2))) _ _ s;refine wpAny_evalAll_cons (aw (cn (ha ae s σ H _ I h) fun u s1 ⟨x,H1,I1,r1,q1⟩=>aw (lL (wpAny_pure ?_))));exact cn (hr pos ae s1 σ H1 _ I1 q1) fun us s2 ⟨xs,H2,I2,r2,q2⟩=>⟨x::xs,H2,I2,.cons r1 r2,q2⟩
variable {g:List Value->List Value->List Value} {gV:List V->List V->List V}
end
structure aA(N P:List Str)(sc:Scope):Prop where
 kind:sc.kind=.function
 co:sc.isCoroutine=false
 gen:sc.isGenerator=false
 nd:N.Nodup
 pre:N.take P.length=P
 par:∀x∈P,sc.names.lookup x=some .local\/sc.names.lookup x=some .cell
 BW:∀y∈sc.names,y.2≠.free
theorem qv{kindOf:Str->Option NameKind}{x:Str}:∀ {binds:List (Str×Value)} {m:Str->Option Value},(∀v,(x,v)∉binds)->bindL kindOf binds m x=m x
 |[],_,_=>rfl
 |(n,v)::r,m,h=>by
  unfold bindL;rw[qv fun w hw=>h w (b_ _ hw)];split
  .have:x≠n:=by rintro rfl;exact h v cg
   simp[this]
  .rfl
theorem qw{kindOf:Str->Option NameKind}{x:Str}:∀ {binds:List (Str×Value)} {m:Str->Option Value},(∀v,(x,v)∉binds)->bindC kindOf binds m x=m x
 |[],_,_=>rfl
 |(n,v)::r,m,h=>by
  unfold bindC;rw[qw fun w hw=>h w (b_ _ hw)];split
  .rfl
  .have:x≠n:=by rintro rfl;exact h v cg
   simp[this]
theorem l6{kindOf:Str->Option NameKind}{x:Str}{v:Value}:∀ {P:List Str} {vs:List Value} {i:Nat} {m:Str->Option Value},P.Nodup->P[i]?=some x->vs[i]?=some v->kindOf x=some .local->
  bindL kindOf (P.zip vs) m x=some v
 |[],_,_,_,_,h,_,_=>by simp at h
 |_::_,[],_,_,_,_,h,_=>by simp at h
 |p::P,w::vs,0,m,nd,h1,h2,hk=>by
  simp at h1 h2;subst h1;subst h2;show bindL kindOf ((p,w)::P.zip vs) m p=_;unfold bindL;rw[qv fun v hv=>(d8.mp nd).1 (lH hv).1,am hk];simp
 |p::P,w::vs,i+1,m,nd,h1,h2,hk=>by
  show bindL kindOf ((p,w)::P.zip vs) m x=_;unfold bindL;exact l6 (i:=i) (d8.mp nd).2 (by simpa using h1) (by simpa using h2) hk
theorem l7{kindOf:Str->Option NameKind}{x:Str}{v:Value}:∀ {P:List Str} {vs:List Value} {i:Nat} {m:Str->Option Value},P.Nodup->P[i]?=some x->vs[i]?=some v->kindOf x≠some .local->
  bindC kindOf (P.zip vs) m x=some v
 |[],_,_,_,_,h,_,_=>by simp at h
 |_::_,[],_,_,_,_,h,_=>by simp at h
 |p::P,w::vs,0,m,nd,h1,h2,hk=>by
  simp at h1 h2;subst h1;subst h2;show bindC kindOf ((p,w)::P.zip vs) m p=_;unfold bindC;rw[qw fun v hv=>(d8.mp nd).1 (lH hv).1,ao hk];simp
 |p::P,w::vs,i+1,m,nd,h1,h2,hk=>by
  show bindC kindOf ((p,w)::P.zip vs) m x=_;unfold bindC;exact l7 (i:=i) (d8.mp nd).2 (by simpa using h1) (by simpa using h2) hk
def start(N:List Str)(vs:List V):St:=vs.map some++List.replicate (N.length-vs.length) none
def gu(CX:nV)(P:Program)(w:World)(K:PySem.W.Frag)(mg:Str->Option Value)(base:Heap)(N:List Str)(qual:Str)(scope:Scope)(f:Addr)(cd:Value)(A:Around)(outer:List Env)(s:Shared)(H:Hp)(E:XK):Cx where
 prog:=P
 w:=w
 K:=K
 mg:=mg
 base:=base
 A:=A.deeper (envOfC qual scope s.heap.objs.size f cd)
 N:=N
 s₀:=s
 H₀:=H
 env:=envOfC qual scope s.heap.objs.size f cd
 outer:=outer
 stack:=envOfC qual scope s.heap.objs.size f cd::outer
 ex:=[]
 calm:=true
 fn:=fun _=>true
 pn:=[]
 xe:=fun e s'=>wpAny (model P w) (A.deeper (envOfC qual scope s.heap.objs.size f cd)) (leaving (envOfC qual scope s.heap.objs.size f cd) e) (fun _ E3=>CX outer H s E e E3) (fun e' E3=>CX outer H s E e' E3) s'
theorem kQ{sc:Scope}{n:Nat}{x:Str}(h:sc.names.lookup x=some .cell):∃c,(cellsFrom n sc.names []).lookup x=some c:=by
 have q:=vF sc.names n [] (.inl h);exact vA.mp q
theorem zC{CX:nV}{P:Program}{w:World}{K:PySem.W.Frag}{mg:Str->Option Value}{base:Heap}{N ps:List Str}{qual:Str}{scope:Scope}{f:Addr}{cd:Value}{A:Around}{outer:List Env}{s s1:Shared}{H:Hp}{E:XK}{us:List Value}{vs:List V}(S:aA N ps scope)(hd:A.handled=none)(e0:se P w K mg base A outer s H)(hl:vs.length=ps.length)(r:aR vs us)(x:InCallC s s.heap.objs.size (bindL (envOfC qual scope s.heap.objs.size f cd).kindOf (ps.zip us) fun _=>none) (cellsFrom (s.heap.objs.size+1) scope.names []) (bindC (envOfC qual scope s.heap.objs.size f cd).kindOf (ps.zip us) fun _=>none) s1):
  aF (gu CX P w K mg base N qual scope f cd A outer s H E) [] (start N vs) H s1:=by
 have mL:ps.length<=N.length:=by have:=congrArg List.length S.pre;rw[kI] at this;lia
 obtain⟨h1,tk,rfl,hk⟩:=x.done;have Et:∀b:Addr,b∉(gu CX P w K mg base N qual scope f cd A outer s H E).ex:=fun b z=>absurd (show b∈([]:List Addr) from z) (by simp);refine⟨⟨e0.mod,S.kind,rfl,rfl,aO _,fun y z c h1 h2=>?_,fun y hy=>?_,fun y c _ h=>?_,fun _=>hd,Around.frames_deeper e0.frames,.inr ⟨rfl,rfl⟩,fun b z=>absurd z (Et b),e0.bs,e0.zq,fun b _ _=>Et b,fun b z=>absurd z (Et b),e0.iL,e0.AK⟩,
  rfl,e0.bare,Un.kept hk,⟨_,x.toInCall.ns,fun i y v h1 h2 h3=>?_⟩,fun y c h=>⟨_,x.cell y c h⟩,e0.bA.fresh (aO _),fun y c h=>?_,fun p hp=>absurd (show p∈([]:List (Addr×Obj)) from hp) (by simp),e0.bA.kept hk,?_⟩
 .exact name_of_addr x.apart (gh h1) (gh h2)
 .have hy:scope.names.lookup y=some .cell\/scope.names.lookup y=some .free:=hy;rcases hy with hy|hy
  .exact kQ hy
  .exact absurd rfl (S.BW _ (gh hy))
 .exact gP (x.above y c (gh h))
 .have hi:i<vs.length:=by
   unfold start at h2;by_cases hi:i<vs.length
   .exact hi
   .rw[oo (by simpa using hi)] at h2;rw[vD] at h2;split at h2 <;> cases h2
  have ha:vs[i]?=some v:=by
   unfold start at h2;rw[mB (by simpa using hi),bX] at h2;cases e:vs[i]? with
   |none=>rw[e] at h2;cases h2
   |some a=>rw[e] at h2;cases h2;rfl
  obtain⟨u,hu,rv⟩:=r.get ha;have hp:ps[i]?=some y:=by
   rw[<-S.pre,ot (by lia)];exact h1
  have L5:ps.Nodup:=by rw[<-S.pre];exact S.nd.sublist (List.take_sublist _ _)
  refine⟨u,rv,?_⟩;rcases S.par y (cY hp) with k|k
  .exact .inl ⟨k,l6 L5 hp hu k⟩
  .obtain⟨c,e⟩:=kQ (n:=s.heap.objs.size+1) k;refine .inr ⟨.inl k,c,e,?_⟩;have q:=x.cell y c e;rw[l7 L5 hp hu (by show scope.names.lookup y≠_;rw[k];decide)] at q;exact q
 .exact e0.bA.fresh (gP (x.above y c (gh h)))
 .unfold start;show _=N.length;rw[cz,bp,oj];lia
theorem BY{CX:nV}{P:Program}{w:World}{K:PySem.W.Frag}{mg:Str->Option Value}{base:Heap}{k:Nat}{f:Addr}{name qual:Str}{params:Arguments}{body:List Stmt}{scope:Scope}{dV kV jo pm ce ct oc:Value}{an od:Option Addr}{qx:Array (Option Value)}{N ps:List Str}{sp:Sp}(lk:K.lookup f=some ⟨oc,od,.func (PySem.W.fnOf name qual params body scope dV kV jo pm an ce ct),qx⟩)(mQ:PySem.W.codeIn K ce qual=true)(S:aA N ps scope)(len:∀vs H Q E,sp vs H Q E->vs.length=ps.length)(iP:∀ (A:Around) (outer:List Env) (s:Shared) (H:Hp) (vs:List V) (Q:VK) (E:XK),bv k (A.deeper (envOfC qual scope s.heap.objs.size f ce))->sp vs H Q E->
   ∃t,pL (gu CX P w K mg base N qual scope f ce A outer s H E) body t/\t { nx:=fun _ H'=>Q .bi H',rt:=Q } (start N vs) H):
  a7 P w K mg base CX (k+1) f (PySem.W.fnOf name qual params body scope dV kV jo pm an ce ct) ps sp:=by
 refine⟨len,fun A outer s H args us vs Q E hr e0 hb r ue=>?_⟩;have hl:=len _ _ _ _ ue;have KX:K.In s.heap:=e0.mod.Eo.keeps fun b o e=>(e0.bs b o e).1;have QJ:s.heap.NoLimit:=e0.mod.nolimit.keeps fun b o e=>(e0.bs b o e).1;have BZ:∀y∈ps.zip us,scope.names.lookup y.1=some .local\/(scope.names.lookup y.1=some .cell/\((cellsFrom (s.heap.objs.size+1) scope.names []).lookup y.1).isSome=true):=fun ⟨n,v⟩ hy=>by
  rcases S.par n (lH hy).1 with q|q
  .exact .inl q
  .exact .inr ⟨q,vF _ _ _ (.inl q)⟩
 refine codeAny_call_function hr.depth (KX _ _ lk) rfl S.co S.gen rfl (PySem.W.codeRec_of KX mQ) (hb _ _ _ _ ?_);refine wpAny_newFunctionEnv_cells S.kind BZ fun env he s1 x=>?_;subst he;refine⟨QJ.keeps x.toInCall.keep,codeAny_func ?_⟩;obtain⟨t,ht,hq⟩:=iP A outer s H vs Q E (hr.deeper _) ue;have I:aF (gu CX P w K mg base N qual scope f ce A outer s H E) [] (start N vs) H s1:=zC S hr.hd e0 hl r x;refine f_ (ht [] s1 (start N vs) H _ I hq) (fun fl s' hs=>?_) fun e s' hs=>hs;have dt:∀ {σ':St} {H':Hp} {v:V} {u:Value},aF (gu CX P w K mg base N qual scope f ce A outer s H E) [] σ' H' s'->bj v u->Q v H'->CE outer P w H s Q u s':=
  fun {σ' H' v u} J rv q=>⟨v,H',J.os,J.bare,J.base,J.bA,rv,q⟩
 cases fl with
 |ret u=>
  obtain⟨v,σ',H',J,rv,q⟩:=hs;exact dt J rv q
 |next=>
  obtain⟨σ',H',J,q⟩:=hs;exact dt (v:=V.bi) (u:=Value.none) J rfl q
 |brk=>
  obtain⟨_,_,_,q⟩:=hs;exact False.elim q
 |cont=>
  obtain⟨_,_,_,q⟩:=hs;exact False.elim q
section
variable {X:Cx} {x:Str} {p pos:Pos} {e:Expr} {es:List Expr} {t:TA} {id T:String} {r:List V->Hp->VK->Prop}
def QK(r:List V->Hp->VK->Prop)(t:TA):TE:=fun σ H Q=>t σ H fun vs H1=>r vs H1 Q
theorem au(hc:eM X (.builtin id) r)(hg:Gl X x)(hm:X.mg x=none)(hv:bootBuiltins x=some (.builtin id))(ha:PA X (e::es) t)(hn:x≠"__name__":=by decide)(nk:(x==("__debug__":Str))=false:=by decide)(he:starEach (e::es) X.env=(false,eval e X.env)::starEach es X.env:=by rfl)(mL:(backTo pos (starEach es X.env)).any (·.1)=false:=by rfl):PE X (.Call (.Name x p) (e::es) [] pos) (QK r t):=by
 intro ae s σ H Q I h;refine jS (lS I hg hm hv ?_ hn nk);exact PyProof.Rows.callWith_builtin1 (cn (ha pos ae s σ H _ I h) fun us s1 ⟨vs,H1,I1,r1,q1⟩=>hc ae s1 σ H1 vs us Q I1 r1 q1) he mL
theorem cJ(hc:eM X (.type T) r)(hg:Gl X x)(hm:X.mg x=none)(hv:bootBuiltins x=some (.type T))(ha:PA X (e::es) t)(hn:x≠"__name__":=by decide)(nk:(x==("__debug__":Str))=false:=by decide)(he:starEach (e::es) X.env=(false,eval e X.env)::starEach es X.env:=by rfl)(mL:(backTo pos (starEach es X.env)).any (·.1)=false:=by rfl):PE X (.Call (.Name x p) (e::es) [] pos) (QK r t):=by
 intro ae s σ H Q I h;refine jS (lS I hg hm hv ?_ hn nk);exact vq (cn (ha pos ae s σ H _ I h) fun us s1 ⟨vs,H1,I1,r1,q1⟩=>hc ae s1 σ H1 vs us Q I1 r1 q1) he mL
end
end L2
namespace HT
open PySem PyProof.Rows
section
open PySem.SeqAt
open PySem.AutoSeq1 (wpAny_loadPart')
open PySem.MeetsSeq PySem.MeetsSeq2 PySem.MeetsSeq3
end
section
variable {prog:Program} {w:World} {A:Around} {E:Value->Shared->Prop} {s:Shared}
def eH(n d:Nat):Option Int->Nat
 |none=>d
 |some v=>if v<0 then (v+(n:Int)).toNat else min v.toNat n
theorem IC(n d:Nat)(hd:d<=n)(o:Option Int):eH n d o<=n:=by
 cases o with
 |none=>exact hd
 |some v=>
  show (if v<0 then (v+(n:Int)).toNat else min v.toNat n)<=n;by_cases hv:v<0
  .rw[am hv];lia
  .rw[ao hv];exact Nat.min_le_right _ _
theorem yf(v:Int)(n d:Nat):(if v<0 then max (v+(n:Int)) 0 else min v (n:Int))=((eH n d (some v):Nat):Int):=by
 show (if v<0 then max (v+(n:Int)) 0 else min v (n:Int))=(((if v<0 then (v+(n:Int)).toNat else min v.toNat n):Nat):Int);by_cases hv:v<0
 .simp only[am hv];lia
 .simp only[ao hv];lia
theorem wV(lo hi:Option Int)(n:Nat):Builtin.Slice.sliceAdjust lo hi 1 (n:Int)=(((eH n 0 lo:Nat):Int),((eH n n hi:Nat):Int)):=by
 have h1:¬ ((1:Int)<0):=by lia
 unfold Builtin.Slice.sliceAdjust;simp only[h1,gR];refine gT ?_ ?_
 .cases lo with
  |none=>rfl
  |some v=>exact yf v n 0
 .cases hi with
  |none=>rfl
  |some v=>exact yf v n n
theorem wW(i j:Nat):Builtin.Slice.slicePlaces (i:Int) (j:Int) 1=j-i:=by
 unfold Builtin.Slice.slicePlaces;have h1:(1:Int) > 0:=by lia
 simp only[h1,if_true,Int.ediv_one];split <;> lia
theorem oY(p:IsPart v o)(h:Q o s):wpAny (model prog w) A (Builtin.Slice.slicePartIndex v) Q E s:=by
 cases p with
 |none=>exact slicePart_none h
 |int i t=>exact slicePart_int h
theorem gv{sl:Addr}{vl vu:Value}{lo hi:Option Int}{n:Nat}{Q:Int×Int×Nat->Shared->Prop}(hs:s.heap.IsSliceOf sl vl vu .none)(pl:IsPart vl lo)(pu:IsPart vu hi)(h:Q (((eH n 0 lo:Nat):Int),1,eH n n hi-eH n 0 lo) s):wpAny (model prog w) A (Builtin.Slice.sliceApplied (.ref sl) (pure (n:Int))) Q E s:=by
 obtain⟨os,Eu,Py,L6⟩:=id hs;unfold Builtin.Slice.sliceApplied Builtin.Slice.sliceFields;refine aw (aw (fg Eu L6 (x:=vl) rfl (aw (fg Eu L6 (x:=vu) rfl (aw (fg Eu L6 (x:=.none) rfl (wpAny_pure ?_)))))));refine aw (slicePart_none ?_);show wpAny _ _ (if ((1:Int)==0)=true then _ else _) _ _ s;rw[ao (by decide)];refine aw (oY pl (aw (oY pu (aw (wpAny_pure ?_)))));show wpAny _ _ (match Builtin.Slice.sliceAdjust lo hi 1 (n:Int) with|(lo,hi)=>pure (lo,(1:Int),Builtin.Slice.slicePlaces lo hi 1)) _ _ s;rw[wV lo hi n];show wpAny _ _ (pure (((eH n 0 lo:Nat):Int),(1:Int),Builtin.Slice.slicePlaces ((eH n 0 lo:Nat):Int) ((eH n n hi:Nat):Int) 1)) _ _ s;rw[wW];exact wpAny_pure h
theorem B0(xs:Array Value)(i k:Nat):((List.range k).filterMap fun (m:Nat)=>xs[((i:Int)+(m:Int)*1).toNat]?).toArray=((xs.toList.drop i).take k).toArray:=by
 have e:(fun (m:Nat)=>xs[((i:Int)+(m:Int)*1).toNat]?)=fun m=>xs[i+m]?:=by
  funext m;have:((i:Int)+(m:Int)*1).toNat=i+m:=by lia
  rw[this]
 rw[e];have:=pick_run xs i k;rw[List.filterMap_map] at this;have e2:((fun x=>xs[x]?) ∘ fun x=>i+x)=fun m=>xs[i+m]?:=rfl;rw[e2] at this;rw[this]
theorem kR{t sl:Addr}{items:Array Value}{vl vu:Value}{lo hi:Option Int}{Q:Value->Shared->Prop}(ht:IsTup s.heap t items)(hs:s.heap.IsSliceOf sl vl vu .none)(pl:IsPart vl lo)(pu:IsPart vu hi)(hw:¬ (eH items.size 0 lo=0/\eH items.size items.size hi=items.size))(h:Q (.ref s.heap.objs.size) { s with heap:=s.heap.push { cls:=.type "tuple",data:=.seq ((items.toList.drop (eH items.size 0 lo)).take (eH items.size items.size hi-eH items.size 0 lo)).toArray } })(kP:items.size<=sizeLine):wpAny (model prog w) A (getItem (.ref t) (.ref sl)) Q E s:=by
 have yg:sizeOk (.seq ((items.toList.drop (eH items.size 0 lo)).take (eH items.size items.size hi-eH items.size 0 lo)).toArray):=by
  show ((items.toList.drop (eH items.size 0 lo)).take (eH items.size items.size hi-eH items.size 0 lo)).toArray.size<=sizeLine;rw[bU,kI,List.length_drop,jP];lia
 have hj:eH items.size items.size hi<=items.size:=IC _ _ (aO _) hi;obtain⟨os,Eu,Py,L6⟩:=id hs;have QL:s.TypeIs (.ref sl) "slice":=⟨os,Eu,Py⟩
 unfold getItem;try with_reducible refine iB ?_
 first|refine aw (wpAny_pure ?_)|skip
 refine aw (wpAny_sequenceKey ht.typeIs (by decide) ?_);refine aw (lw (name:=Str.ofString "__getitem__") ht.typeIs qh
  (jV qh ht.typeIs entry_tuple_getitem ?_ (args_tuple_getitem _ _)))
 show wpAny _ _ (Builtin.Tuple.tupleItemsOf (.ref t) >>= _) _ _ s;refine aw (tupleItemsOf_ ht ?_);refine aw (wpAny_typeOf QL ?_);rw[am (by decide)];refine aw (gv hs pl pu ?_);have B6:¬ ((((eH items.size 0 lo:Nat):Int)==0&&(1:Int)==1&&(eH items.size items.size hi-eH items.size 0 lo)==items.size)=true):=by
  intro q;rw[gj,gj] at q;have q1:((eH items.size 0 lo:Nat):Int)=0:=eq_of_beq q.1.1;have q2:eH items.size items.size hi-eH items.size 0 lo=items.size:=eq_of_beq q.2;exact hw ⟨by lia,by lia⟩
 show wpAny _ _ (if (((eH items.size 0 lo:Nat):Int)==0&&(1:Int)==1&&(eH items.size items.size hi-eH items.size 0 lo)==items.size)=true then _ else _) _ _ s;rw[ao B6,B0];first
  |exact aw (m:=Builtin.Tuple.tupleExact _) (iz (wpAny_pure ⟨_,rfl,wpAny_pure h⟩) yg)
  |exact aw (m:=Builtin.Tuple.tupleExact _) (iz (aw (wpAny_pure (wpAny_pure ⟨_,rfl,wpAny_pure h⟩))) yg)
  |exact aw (aw (m:=Builtin.Tuple.tupleExact _) (iz (wpAny_pure (wpAny_pure ⟨_,rfl,wpAny_pure h⟩)) yg))
  |exact aw (aw (m:=Builtin.Tuple.tupleExact _) (iz (wpAny_pure ⟨_,rfl,wpAny_pure h⟩) yg))
end
end HT
namespace L2
open PySem PySem.Spec PyProof.Rows
abbrev TO:=St->Hp->(Option Int->Hp->Prop)->Prop
def PO(X:Cx)(e:Option Expr)(t:TO):Prop:=
 ∀ (ae:List (Addr×Obj)) (s:Shared) (σ:St) (H:Hp) (Q:Option Int->Hp->Prop),aF X ae σ H s->t σ H Q->
  wpAny (model X.prog X.w) X.A (evalPart e X.env) (fun u s'=>∃o H',aF X ae σ H' s'/\IsPart u o/\Q o H') X.xe s
def fU:TO:=fun _ H Q=>Q none H
def yh(t:TE):TO:=fun σ H Q=>t σ H fun x H1=>∃i,x=.int i/\Q (some i) H1
section
variable {X:Cx} {e:Expr} {te:TE} {lo hi:Option Expr} {tl th:TO} {pos p2:Pos}
theorem eI:PO X none fU:=by
 intro ae s σ H Q I h;rw[evalPart_none];exact wpAny_pure ⟨none,H,I,.none,h⟩
theorem dA(h:PE X e te):PO X (some e) (yh te):=by
 intro ae s σ H Q I hw;rw[evalPart_some];refine cn (h ae s σ H _ I hw) fun u s1 ⟨x,H1,I1,r1,q1⟩=>?_;obtain⟨i,rfl,q⟩:=q1;obtain⟨t,rfl⟩:=r1;exact⟨some i,H1,I1,.int i t,q⟩
def QM(X:Cx)(r:V->Option Int->Option Int->Hp->VK->Prop):Prop:=
 ∀ (ae:List (Addr×Obj)) (s:Shared) (σ:St) (H:Hp) (x:V) (v vl vu:Value) (lo hi:Option Int) (sl:Addr) (Q:VK),aF X ae σ H s->bj x v->s.heap.IsSliceOf sl vl vu .none->IsPart vl lo->IsPart vu hi->r x lo hi H Q->
  ∃T id,typeLookup (.type T) "__getitem__"=pure (some (.builtin id))/\s.TypeIs v T/\wpAny (model X.prog X.w) X.A (getItem v (.ref sl)) (EP X ae σ Q) X.xe s
def Pz(r:V->Option Int->Option Int->Hp->VK->Prop)(te:TE)(tl th:TO):TE:=fun σ H Q=>te σ H fun x H1=>tl σ H1 fun l H2=>th σ H2 fun u H3=>r x l u H3 Q
theorem de(hr:QM X r)(he:PE X e te)(hl:PO X lo tl)(hu:PO X hi th):PE X (.Subscript e (.Slice lo hi none p2) pos) (Pz r te tl th):=by
 intro ae s σ H Q I h;refine Subscript_ (cn (he ae s σ H _ I h) fun v s1 ⟨x,H1,I1,r1,q1⟩=>?_);refine wpAny_Slice (cn (hl ae s1 σ H1 _ I1 q1) fun vl s2 ⟨l,H2,I2,pl,q2⟩=>cn (hu ae s2 σ H2 _ I2 q2) fun vu s3 ⟨u,H3,I3,pu,q3⟩=>?_);rw[evalPart_none];refine wpAny_pure ?_;have I4:aF X ae σ H3 { s3 with heap:=s3.heap.push { cls:=.type "slice",data:=.fields #[vl,vu,.none] } }:=I3.kept (t':=s3.toks) fun b ob q=>cE _ q;obtain⟨T,id,hT,ht,hg⟩:=hr ae { s3 with heap:=s3.heap.push { cls:=.type "slice",data:=.fields #[vl,vu,.none] } } σ H3 x v vl vu l u s3.heap.objs.size Q I4 r1 (Heap.IsSliceOf.new ..) pl pu q3;show wpAny (model X.prog X.w) X.A (subscriptTail e (.Slice lo hi none p2) v (.ref s3.heap.objs.size)) (EP X ae σ Q) X.xe { s3 with heap:=s3.heap.push { cls:=.type "slice",data:=.fields #[vl,vu,.none] } };exact tail_any (ops:=[.ref s3.heap.objs.size,v]) ht hT hg (by with_unfolding_all rfl)
def pV(xs:List V)(lo hi:Option Int):List V:=(xs.drop (HT.eH xs.length 0 lo)).take (HT.eH xs.length xs.length hi-HT.eH xs.length 0 lo)
theorem mU(xs:List V)(lo hi:Option Int):(pV xs lo hi).length<=xs.length:=by
 unfold pV;rw[kI,List.length_drop];lia
def QN(K:PySem.W.Frag):V->Option Int->Option Int->Hp->VK->Prop:=fun x lo hi H Q=>∃a xs,x=.ref a/\bD K H a xs/\
 ¬ (HT.eH xs.length 0 lo=0/\HT.eH xs.length xs.length hi=xs.length)/\∀p,H p=none->Q (.ref p) (upd H p (.tup (pV xs lo hi)))
theorem ID:QM X (QN X.K):=by
 intro ae s σ H x v vl vu lo hi sl Q I rx hs pl pu h;obtain⟨a,xs,rfl,hx,hw,q⟩:=h;cases rx;obtain⟨its,r,ht,hz⟩:=I.tuple hx;have dL:its.toArray.size=xs.length:=by rw[bU];exact r.length.symm
 refine⟨"tuple",_,qh.lookup,ht.typeIs,?_⟩;refine HT.kR ht hs pl pu (by rw[dL];exact hw) ?_ (by rw[dL];exact hz);rw[dL];refine⟨.ref s.heap.objs.size,_,I.laid (t':=s.toks) (o:=.tup (pV xs lo hi)) (fun b ob q=>cE _ q) (aO _) ?_,rfl,q _ (I.bA.fresh (aO _))⟩;exact⟨bq (mU xs lo hi) hz,_,(r.drop (HT.eH xs.length 0 lo)).take (HT.eH xs.length xs.length hi-HT.eH xs.length 0 lo),iI.new _ _⟩
theorem aR.nW(r:aR xs us):us=[]↔xs=[]:=by
 cases r with
 |nil=>simp
 |cons _ _=>simp
end
def B_(n:Nat)(i:Int):Option Nat:=if 0<=i then (if i<n then some i.toNat else none) else if -(n:Int)<=i then some (i+n).toNat else none
def Ca{α:Type}(xs:List α)(i:Int):Option α:=(B_ xs.length i).bind fun j=>xs[j]?
theorem yi(h:B_ n i=some j):seqIndex? i n=some j/\j<n/\-(n:Int)<=i/\i<n:=by
 unfold B_ at h;by_cases h0:0<=i
 .rw[am h0] at h;by_cases h1:i<n
  .rw[am h1] at h;have e:i.toNat=j:=bS h;exact⟨by rw[seqIndex_of h0 h1,e],by lia,by lia,h1⟩
  .rw[ao h1] at h;cases h
 .rw[ao h0] at h;by_cases h1:-(n:Int)<=i
  .rw[am h1] at h;have e:(i+n).toNat=j:=bS h;exact⟨by rw[seqIndex_neg (by lia) h1,e],by lia,h1,by lia⟩
  .rw[ao h1] at h;cases h
theorem yj(h:Ca xs i=some v):∃j,seqIndex? i xs.length=some j/\xs[j]?=some v/\j<xs.length/\-(xs.length:Int)<=i/\i<xs.length:=by
 unfold Ca at h;cases e:B_ xs.length i with
 |none=>rw[e] at h;cases h
 |some j=>
  rw[e] at h;obtain⟨h1,h2,h3,h4⟩:=yi e;exact⟨j,h1,h,h2,h3,h4⟩
theorem aJ{α:Type}{xs:List α}{j:Nat}{v:α}(h:xs[j]?=some v):Ca xs (j:Int)=some v:=by
 have hj:j<xs.length:=(cV.mp h).1;have e:B_ xs.length (j:Int)=some j:=by
  unfold B_;rw[am (by lia),am (by lia)];simp
 unfold Ca;rw[e];exact h
theorem Cb(xs:List α)(v:α):Ca (xs++[v]) (-1)=some v:=by
 have hl:(xs++[v]).length=xs.length+1:=by simp
 have e:B_ (xs++[v]).length (-1)=some xs.length:=by
  unfold B_;rw[hl,ao (by decide),am (by lia)];congr 1;lia
 unfold Ca;rw[e];show (xs++[v])[xs.length]?=some v;simp
def E4(b:Expr):Prop:=∀o i,subscripted b false o i=operate [o,i] (getItem o i)
def QO(X:Cx)(r:R2):Prop:=
 ∀ (value slice:Expr) (ae:List (Addr×Obj)) (s:Shared) (σ:St) (H:Hp) (x y:V) (v u:Value) (Q:VK),aF X ae σ H s->bj x v->bj y u->r x y H Q->
  subscripted slice false v u=operate [v,u] (getItem v u)->wpAny (model X.prog X.w) X.A (subscriptTail value slice v u) (EP X ae σ Q) X.xe s
def W_(X:Cx)(id:String)(r:V->List V->Hp->VK->Prop):Prop:=
 ∀ (ae:List (Addr×Obj)) (s:Shared) (σ:St) (H:Hp) (x:V) (xs:List V) (v:Value) (us:List Value) (Q:VK),aF X ae σ H s->bj x v->aR xs us->r x xs H Q->
  wpAny (model X.prog X.w) X.A (call (.builtin id) (v::us)) (EP X ae σ Q) X.xe s
section
variable {X:Cx} {a b:Expr} {ta tb:TE} {pos:Pos}
theorem be(hr:QO X r)(ha:PE X a ta)(hb:PE X b tb)(hs:E4 b):PE X (.Subscript a b pos) (mR r ta tb):=by
 intro ae s σ H Q I h;exact Subscript_ (Iu ha hb I h fun v u s2 x y H2 I2 rx ry q=>hr a b ae s2 σ H2 x y v u Q I2 rx ry q (hs _ _))
def E5(K:PySem.W.Frag):R2:=fun x y H Q=>∃p xs i v,x=.ref p/\y=.int i/\bz K H p xs/\Ca xs i=some v/\Q v H
def zD(K:PySem.W.Frag):R2:=fun x y H Q=>∃p xs i v,x=.ref p/\y=.int i/\bD K H p xs/\Ca xs i=some v/\Q v H
theorem bC:QO X (E5 X.K):=by
 intro value slice ae s σ H x y v u Q I rx ry h hs;obtain⟨p,xs,i,z,rfl,rfl,hq,he,q⟩:=h;cases rx;obtain⟨t,rfl⟩:=ry;obtain⟨its,r,pl,hz⟩:=I.list hq;obtain⟨j,h1,h2,h3,h4,h5⟩:=yj he;obtain⟨w,ew,LO⟩:=r.get h2;have hl:=r.length;have hn:=rZ;have dt:EP X ae σ Q w s:=⟨z,H,I,LO,q⟩
 by_cases h0:0<=i
 .have hj:i.toNat=j:=by
   rw[seqIndex_of h0 h5] at h1;exact bS h1
  exact item_listR pl.isList h0 (by lia) (by rw[hj];simpa using ew) dt hs
 .have hj:(i+(its.toArray.size:Int)).toNat=j:=by
   rw[seqIndex_neg (by lia) h4] at h1;rw[bU,<-hl];exact bS h1
  exact subscriptTail_builtinR (x:=w) pl.isList.typeIs slot_list_getitem.lookup
   (wpAny_getItem_list_neg (Q:=fun r s'=>r=w/\EP X ae σ Q r s') pl.isList (by lia) (by rw[bU] <;> lia) (by lia) (by rw[hj];simpa using ew) ⟨rfl,dt⟩) hs
theorem bN:QO X (zD X.K):=by
 intro value slice ae s σ H x y v u Q I rx ry h hs;obtain⟨p,xs,i,z,rfl,rfl,hq,he,q⟩:=h;cases rx;obtain⟨t,rfl⟩:=ry;obtain⟨its,r,pl,hz⟩:=I.tuple hq;obtain⟨j,h1,h2,h3,h4,h5⟩:=yj he;obtain⟨w,ew,LO⟩:=r.get h2;have hl:=r.length;have hn:=rZ;have dt:EP X ae σ Q w s:=⟨z,H,I,LO,q⟩
 exact subscriptTail_builtinR (x:=w) pl.typeIs slot_tuple_getitem.lookup
  (getItem_tuple (j:=j) (Q:=fun r s'=>r=w/\EP X ae σ Q r s') pl (by lia) (by lia) (by rw[bU,<-hl];exact h1) (by simpa using ew) ⟨rfl,dt⟩) hs
theorem wX(its:List Value)(n j:Nat)(u:Value):Obj.mapSeq (·.setIfInBounds j u) { cls:=.type "list",data:=.seq its.toArray n }={ cls:=.type "list",data:=.seq (its.set j u).toArray n }:=by
 simp[Obj.mapSeq]
theorem aF.lst(I:aF X ae σ H s)(h:H p=some (.lst xs)):
  ∃ (its:List Value) (n:Nat),aR xs its/\s.heap.get? p=some { cls:=.type "list",data:=.seq its.toArray n }/\xs.length<=sizeLine:=by
 obtain⟨z,its,n,r,e⟩:=I.bA p _ h;exact⟨its,n,r,e,z⟩
theorem aF.IE{ae:List (Addr×Obj)}{σ:St}{H:Hp}{s:Shared}{p:Addr}{xs ys:List V}{its its':List Value}{n n':Nat}{f:Obj->Obj}(I:aF X ae σ H s)(h:H p=some (.lst xs))(ho:s.heap.get? p=some { cls:=.type "list",data:=.seq its.toArray n })(hf:f { cls:=.type "list",data:=.seq its.toArray n }={ cls:=.type "list",data:=.seq its'.toArray n' })(r:aR ys its')(hz:ys.length<=sizeLine)(t:Nat):
  aF X ae σ (upd H p (.lst ys)) { s with heap:=s.heap.update p f,toks:=t }:=by
 have e:(s.heap.update p f).get? p=some { cls:=.type "list",data:=.seq its'.toArray n' }:=by
  rw[oz f ho (by rw[hf] <;> rfl),hf]
 refine I.write (x:=p) (e:=p) (by rw[h];trivial) (.inl rfl) (fun b u hb q=>(ow _ _ (ci hb)).trans q) ⟨_,e⟩ ?_;exact⟨hz,its',n',r,e⟩
def L7:V->V->V->Hp->(Hp->Prop)->Prop:=fun o i v H Q=>∃p xs k j,o=.ref p/\i=.int k/\H p=some (.lst xs)/\B_ xs.length k=some j/\Q (upd H p (.lst (xs.set j v)))
theorem kS:LN X L7:=by
 intro ae s σ H o i v ov iv u Q I ro ri rv h;obtain⟨p,xs,k,j,rfl,rfl,hp,hj,q⟩:=h;cases ro;obtain⟨t,rfl⟩:=ri;obtain⟨its,n,r,ho,hz⟩:=I.lst hp;obtain⟨h1,h2,h3,h4⟩:=yi hj;have hl:=r.length;have hn:=rZ;have I':aF X ae σ (upd H p (.lst (xs.set j v))) { s with heap:=s.heap.update p (Obj.mapSeq (·.setIfInBounds j u)) }:=
  I.IE hp ho (wX its n j u) (r.set rv j) (by rw[wr];exact hz) s.toks
 by_cases h0:0<=k
 .have hk:k.toNat=j:=by
   rw[seqIndex_of h0 h4] at h1;exact bS h1
  exact PySem.W.ki_setAt ho h0 (by lia) (by rw[bU,<-hl];exact h4) (by rw[hk];exact⟨_,I',q⟩)
 .have hk:(k+(its.toArray.size:Int)).toNat=j:=by
   rw[seqIndex_neg (by lia) h3] at h1;rw[bU,<-hl];exact bS h1
  exact PySem.W.ki_setBack ho (by lia) (by rw[bU,<-hl];exact h3) (by lia) (by rw[hk];exact⟨_,I',q⟩)
def fh:V->Bool
 |.bi=>true
 |.bl _=>true
 |.int _=>true
 |.str _=>true
 |_=>false
def qy:V->V->Bool
 |.bi,.bi=>true
 |.bl a,.bl b=>a==b
 |.bl a,.int b=>(if a then 1 else 0)==b
 |.int a,.bl b=>a==(if b then 1 else 0)
 |.int a,.int b=>a==b
 |.str a,.str b=>a==b
 |_,_=>false
theorem sf(ry:bj y u)(rx:bj x v)(fy:fh y=true)(fx:fh x=true):SeqAt.EqAt A s u v (qy y x):=by
 cases y with
 |bi=>
  cases ry;cases x with
  |bi=>cases rx;exact SeqAt.EqAt.same _
  |bl b=>cases rx;exact SeqAt.EqAt.none_bool b
  |int b=>obtain⟨t,rfl⟩:=rx;exact SeqAt.EqAt.none_int b t
  |str b=>obtain⟨t,rfl⟩:=rx;exact SeqAt.EqAt.none_str b t
  |_=>exact absurd (show false=true from fx) bJ
 |bl a=>
  cases ry;cases x with
  |bi=>cases rx;exact SeqAt.EqAt.bool_none a
  |bl b=>cases rx;exact SeqAt.EqAt.bool_bool a b
  |int b=>obtain⟨t,rfl⟩:=rx;exact SeqAt.EqAt.bool_int a b t
  |str b=>obtain⟨t,rfl⟩:=rx;exact SeqAt.EqAt.bool_str a b t
  |_=>exact absurd (show false=true from fx) bJ
 |int a=>
  obtain⟨t',rfl⟩:=ry;cases x with
  |bi=>cases rx;exact SeqAt.EqAt.int_none a t'
  |bl b=>cases rx;exact SeqAt.EqAt.int_bool a t' b
  |int b=>obtain⟨t,rfl⟩:=rx;exact SeqAt.EqAt.int_int a t' b t
  |str b=>obtain⟨t,rfl⟩:=rx;exact SeqAt.EqAt.int_str a t' b t
  |_=>exact absurd (show false=true from fx) bJ
 |str a=>
  obtain⟨t',rfl⟩:=ry;cases x with
  |bi=>cases rx;exact SeqAt.EqAt.str_none a t'
  |bl b=>cases rx;exact SeqAt.EqAt.str_bool a t' b
  |int b=>obtain⟨t,rfl⟩:=rx;exact SeqAt.EqAt.str_int a t' b t
  |str b=>obtain⟨t,rfl⟩:=rx;exact SeqAt.EqAt.str_str a t' b t
  |_=>exact absurd (show false=true from fx) bJ
 |_=>exact absurd (show false=true from fy) bJ
def wY(x:V)(u:Value):Bool:=match u with
 |.none=>qy .bi x
 |.bool b=>qy (.bl b) x
 |.int i _=>qy (.int i) x
 |.str z _=>qy (.str z) x
 |_=>false
theorem Cd(r:bj y u)(f:fh y=true):wY x u=qy y x:=by
 cases y with
 |bi=>cases r;rfl
 |bl b=>cases r;rfl
 |int i=>obtain⟨t,rfl⟩:=r;rfl
 |str z=>obtain⟨t,rfl⟩:=r;rfl
 |_=>exact absurd (show false=true from f) bJ
theorem kT:∀ {xs:List V} {us:List Value},aR xs us->xs.all fh=true->us.any (wY x)=xs.any fun y=>qy y x
 |_,_,.nil,_=>rfl
 |y::xs,u::us,.cons r t,f=>by
  rw[rK,gj] at f;rw[jX,jX,Cd r f.1,kT t f.2]
theorem iQ(rx:bj x v)(fx:fh x=true):∀ {xs:List V} {us:List Value},aR xs us->xs.all fh=true->∀u∈us,SeqAt.EqAt A s u v (wY x u)
 |_,_,.nil,_=>fun u hu=>by cases hu
 |y::xs,u::us,.cons r t,f=>fun u' hu=>by
  rw[rK,gj] at f;rcases bu.mp hu with rfl|hu
  .rw[Cd r f.1];exact sf r rx f.1 fx
  .exact iQ rx fx t f.2 u' hu
def zE(x:V)(xs:List V):Bool:=xs.any fun y=>qy y x
def QP(K:PySem.W.Frag)(neg:Bool):R2:=fun x y H Q=>∃p xs,y=.ref p/\(bz K H p xs\/bD K H p xs)/\fh x=true/\xs.all fh=true/\Q (.bl (if neg then !zE x xs else zE x xs)) H
theorem jp:jm X (compareOp .In) (QP X.K false):=by
 intro ae s σ H x y v u Q I rx ry h;obtain⟨p,xs,rfl,hq,fx,fs,q⟩:=h;cases ry;rcases hq with hq|hq
 .obtain⟨its,r,pl,hz⟩:=I.list hq;refine SeqAt.in_listAt (wY x) pl.isList (fun w hw=>iQ rx fx r fs w (by simpa using hw)) ⟨.bl _,H,I,rfl,?_⟩;rw[show its.toArray.any (wY x)=its.any (wY x) by simp,kT r fs];exact q
 .obtain⟨its,r,pl,hz⟩:=I.tuple hq;refine SeqAt.in_tupleAt (wY x) pl (fun w hw=>iQ rx fx r fs w (by simpa using hw)) ⟨.bl _,H,I,rfl,?_⟩;rw[show its.toArray.any (wY x)=its.any (wY x) by simp,kT r fs];exact q
theorem kU:jm X (compareOp .NotIn) (QP X.K true):=by
 intro ae s σ H x y v u Q I rx ry h;obtain⟨p,xs,rfl,hq,fx,fs,q⟩:=h;cases ry;rcases hq with hq|hq
 .obtain⟨its,r,pl,hz⟩:=I.list hq;refine SeqAt.notIn_listAt (wY x) pl.isList (fun w hw=>iQ rx fx r fs w (by simpa using hw)) ⟨.bl _,H,I,rfl,?_⟩;rw[show its.toArray.any (wY x)=its.any (wY x) by simp,kT r fs];exact q
 .obtain⟨its,r,pl,hz⟩:=I.tuple hq;refine SeqAt.notIn_tupleAt (wY x) pl (fun w hw=>iQ rx fx r fs w (by simpa using hw)) ⟨.bl _,H,I,rfl,?_⟩;rw[show its.toArray.any (wY x)=its.any (wY x) by simp,kT r fs];exact q
theorem aD:eM X (.builtin "len") (fun xs H Q=>∃p ys,xs=[.ref p]/\(bz X.K H p ys\/bD X.K H p ys)/\Q (.int ys.length) H):=by
 intro ae s σ H xs us Q I r h;obtain⟨p,ys,rfl,hq,q⟩:=h;obtain⟨u,rfl,rx⟩:=uc r;cases rx;have hn:=rZ;rcases hq with hq|hq
 .obtain⟨its,r',pl,hz⟩:=I.list hq;have dL:=r'.length;exact Calls.call_len_list pl.isList (by simp only[bU] <;> lia) ⟨.int ys.length,H,I.tok _,⟨s.toks+1,by rw[bU,dL]⟩,q⟩
 .obtain⟨its,r',pl,hz⟩:=I.tuple hq;have dL:=r'.length;exact len_tuple pl (by simp only[bU] <;> lia) ⟨.int ys.length,H,I.tok _,⟨s.toks+1,by rw[bU,dL]⟩,q⟩
theorem sg:eM X (.type "list") (fun xs H Q=>∃p ys,xs=[.ref p]/\(bz X.K H p ys\/bD X.K H p ys)/\∀l,H l=none->Q (.ref l) (upd H l (.lst ys))):=by
 intro ae s σ H xs us Q I r h;obtain⟨p,ys,rfl,hq,q⟩:=h;obtain⟨u,rfl,rx⟩:=uc r;cases rx;have dt:∀ (its:List Value),aR ys its->ys.length<=sizeLine->∀ (h':Heap) (c':Nat),(∀b o',s.heap.get? b=some o'->h'.get? b=some o')->
   h'.get? s.heap.objs.size=some { cls:=.type "list",dict:=none,data:=.seq its.toArray c',slots:=#[] }->EP X ae σ Q (.ref s.heap.objs.size) { s with heap:=h' }:=fun its r' hz h' c' kp e=>
  ⟨.ref s.heap.objs.size,_,I.laid (t':=s.toks) kp (aO _) (show bK X.prog X.w _ h' _ (.lst ys) from ⟨hz,its,c',r',e⟩),rfl,q _ (I.bA.fresh (aO _))⟩
 rcases hq with hq|hq
 .obtain⟨its,r',pl,hz⟩:=I.list hq;have dL:=r'.length;obtain⟨o,ho,hc,n,hd⟩:=pl.isList;exact call_list_seq p (.inl rfl) ho hc hd (fun h' c' kp e=>dt its r' hz h' c' kp e) (by simp only[bU] <;> lia)
 .obtain⟨its,r',pl,hz⟩:=I.tuple hq;have dL:=r'.length;obtain⟨o,ho,hc,n,hd⟩:=pl;exact call_list_seq p (.inr rfl) ho hc hd (fun h' c' kp e=>dt its r' hz h' c' kp e) (by simp only[bU] <;> lia)
theorem cT:eM X (.type "tuple") (fun xs H Q=>∃p ys,xs=[.ref p]/\((bz X.K H p ys/\∀l,H l=none->Q (.ref l) (upd H l (.tup ys)))\/(bD X.K H p ys/\Q (.ref p) H))):=by
 intro ae s σ H xs us Q I r h;obtain⟨p,ys,rfl,h⟩:=h;obtain⟨u,rfl,rx⟩:=uc r;cases rx;rcases h with ⟨hq,q⟩|⟨hq,q⟩
 .obtain⟨its,r',pl,hz⟩:=I.list hq;have dL:=r'.length;refine call_tuple_list pl.isList (fun h' kp=>?_) (by simp only[bU] <;> lia);have I1:aF X ae σ H { s with heap:=h' }:=I.kept (t':=s.toks) kp;have I2:aF X ae σ (upd H h'.objs.size (.tup ys)) { s with heap:=h'.push { cls:=.type "tuple",data:=.seq its.toArray } }:=
   I1.laid (t':=s.toks) (fun b o e=>cE _ e) (aO _) (show bK X.prog X.w _ _ _ (.tup ys) from ⟨hz,its,r',iI.new _ _⟩)
  exact⟨.ref h'.objs.size,_,I2,rfl,q _ (I1.bA.fresh (aO _))⟩
 .obtain⟨its,r',pl,hz⟩:=I.tuple hq;exact call_tuple_same pl ⟨.ref p,H,I,rfl,q⟩
def Vr(K:PySem.W.Frag)(T:String)(x:V)(H:Hp):Prop:=match x with
 |.str _=>T="str"
 |.int _=>T="int"
 |.ref p=>(T="list"/\∃xs,bz K H p xs)\/(T="tuple"/\∃o,K.lookup p=some o/\o.cls=.type "tuple"/\o.dict=none)\/
   (T="dict"/\((∃cu,H p=some (.dK cu))\/∃cu,H p=some (.dT cu)))\/(T="set"/\∃S n,H p=some (.set S n))
 |_=>False
theorem IF(I:aF X ae σ H s)(r:bj x v)(ty:Vr X.K T x H):
  s.TypeIs v T/\∀a,v=.ref a->∃ob,s.heap.get? a=some ob/\ob.dict=none:=by
 cases x with
 |str z=>
  obtain⟨t,rfl⟩:=r;cases (show T="str" from ty);exact⟨typeIs_str s z t,fun _ e=>nomatch e⟩
 |int i=>
  obtain⟨t,rfl⟩:=r;cases (show T="int" from ty);exact⟨typeIs_int s i t,fun _ e=>nomatch e⟩
 |ref p=>
  cases r;rcases ty with ⟨rfl,xs,hq⟩|⟨rfl,o,hk,hc,hd⟩|⟨rfl,hk⟩|⟨rfl,S,n,hk⟩
  .obtain⟨its,_,pl,_⟩:=I.list hq;refine⟨pl.isList.typeIs,fun a e=>?_⟩;cases e;obtain⟨o,n,e,c,hd,_⟩:=pl;exact⟨o,e,hd⟩
  .refine⟨⟨o,I.j5 p o hk,hc⟩,fun a e=>?_⟩;cases e;exact⟨o,I.j5 _ o hk,hd⟩
  .have z:∃o,s.heap.get? p=some o/\o.ExactDict:=by
    rcases hk with ⟨cu,hk⟩|⟨cu,hk⟩
    .obtain⟨_,_,_,_,o,_,_,e,ex,_⟩:=I.bA p _ hk;exact⟨o,e,ex⟩
    .obtain⟨_,_,_,_,o,_,_,e,ex,_⟩:=I.bA p _ hk;exact⟨o,e,ex⟩
   obtain⟨o,e,ex⟩:=z;refine⟨⟨o,e,ex.1⟩,fun a e2=>?_⟩;cases e2;exact⟨o,e,ex.2.1⟩
  .obtain⟨o,_,_,_,e,ex,_⟩:=I.bA p _ hk;refine⟨⟨o,e,ex.1⟩,fun a e2=>?_⟩;cases e2;exact⟨o,e,ex.2.1⟩
 |_=>exact False.elim ty
def Xa(K:PySem.W.Frag)(T:String)(r:V->List V->Hp->VK->Prop)(to:TE)(t:TA):TE:=fun σ H Q=>to σ H fun x H1=>Vr K T x H1/\t σ H1 fun xs H2=>r x xs H2 Q
variable {o e:Expr} {es:List Expr} {to:TE} {t:TA} {name:Str} {nj nq:Pos} {T id:String} {r:V->List V->Hp->VK->Prop}
theorem iR(pa:PlainAttrs T)(slot:Slot T name id)(Xb:typeOf (.builtin id)=pure (.type "method_descriptor"))(hm:W_ X id r)(ho:PE X o to)(ha:PA X (e::es) t)(L8:attributeBase o name X.env (eval o X.env)=eval o X.env:=by rfl)(QQ:((backTo nq (starEach (e::es) X.env)).all (fun x=>!x.1)&&(backToKw nq (keywordEach [] X.env)).all (fun x=>x.1.isSome)
   && decide ((e::es).length+([]:List Keyword).length+(if ([]:List Keyword).isEmpty then 0 else 1)<30))=true:=by rfl)(L9:(nj.endLine==nq.line)=true:=by rfl)(hs:starEach (e::es) X.env=(false,eval e X.env)::starEach es X.env:=by rfl)(wZ:(backTo nq (starEach es X.env)).any (·.1)=false:=by rfl):
  PE X (.Call (.Attribute o name nj) (e::es) [] nq) (Xa X.K T r to t):=by
 intro ae s σ H Q I h;refine wpAny_Call_method_late L8 QQ L9 rfl (cn (ho ae s σ H _ I h) fun v s1 ⟨x,H1,I1,r1,ty,q1⟩=>?_);obtain⟨h1,h2⟩:=IF I1 r1 ty;refine⟨T,id,pa,slot,Xb,h1,h2,?_⟩;have hA:=ha nq ae s1 σ H1 _ I1 q1;rw[hs] at hA |-;refine Calls.callWith_builtin (by show (false||(backTo nq (starEach es X.env)).any (·.1))=false;rw[wZ] <;> rfl) (Calls.evalArgs_plain ?_);exact cn hA fun us s2 ⟨vs,H2,I2,r2,q2⟩=>hm ae s2 σ H2 x vs v us Q I2 r1 r2 q2
end
def Xc(X:Cx)(id:String)(r:V->List V->Hp->VK->Prop):Prop:=
 ∀ (ae:List (Addr×Obj)) (s:Shared) (σ:St) (H:Hp) (x:V) (xs:List V) (v:Value) (us:List Value) (Q:VK),aF X ae σ H s->bj x v->aR xs us->r x xs H Q->
  wpAny (model X.prog X.w) X.A (call (.builtin id) (v::us)) (EP X ae σ Q) X.xe s
theorem aR.one{x:V}{us:List Value}(h:aR [x] us):∃u,us=[u]/\bj x u:=by
 cases h with
 |cons r h=>cases h;exact⟨_,rfl,r⟩
theorem aR.two{x y:V}{us:List Value}(h:aR [x,y] us):∃u v,us=[u,v]/\bj x u/\bj y v:=by
 cases h with
 |cons r h=>
  cases h with
  |cons q h=>cases h;exact⟨_,_,rfl,r,q⟩
section
variable {X:Cx} {ae:List (Addr×Obj)} {σ:St} {H:Hp} {s:Shared} {l b:Addr} {xs ys zs:List V}
theorem aF.QR{its its':List Value}{n:Nat}{f:Array Value->Array Value}{t':Nat}(I:aF X ae σ H s)(hH:H l=some (.lst xs))(e:s.heap.get? l=some { cls:=.type "list",data:=.seq its.toArray n })(hf:f its.toArray=its'.toArray)(hv:aR ys its')(hz:ys.length<=sizeLine):
  aF X ae σ (upd H l (.lst ys)) { s with heap:=s.heap.update l (Obj.mapSeq f),toks:=t' }:=by
 have q:=PySem.IsL.update e f;rw[hf] at q;refine I.write (x:=l) (e:=l) (by rw[hH];exact trivial) (.inl rfl) (fun b' u hb hu=>(ow s.heap (Obj.mapSeq f) (ci hb)).trans hu) ⟨_,q⟩ ?_;exact⟨hz,its',_,hv,q⟩
theorem aF.L_(I:aF X ae σ H s)(hv:aR ys its)(hz:ys.length<=sizeLine):
  aF X ae σ (upd H s.heap.objs.size (.lst ys)) { s with heap:=s.heap.push { cls:=.type "list",data:=.seq its.toArray },toks:=t' }:=
 I.laid (fun _ _ q=>cE _ q) (aO _) ⟨hz,its,0,hv,cW _ rfl⟩
theorem aF.fresh(I:aF X ae σ H s):H s.heap.objs.size=none:=I.bA.fresh (aO _)
theorem aF.IG(I:aF X ae σ H s)(hH:H l=some (.lst xs)):xs.length<=sizeLine/\∃ (its:List Value) (n:Nat),aR xs its/\xs.length=its.length/\s.heap.get? l=some { cls:=.type "list",data:=.seq its.toArray n }:=by
 obtain⟨z,its,n,r,e⟩:=I.bA l _ hH;exact⟨z,its,n,r,r.length,e⟩
end
section
variable {X:Cx}
def E6:V->List V->Hp->VK->Prop:=fun x vs H Q=>∃l xs y,x=.ref l/\vs=[y]/\H l=some (.lst xs)/\xs.length<sizeLine/\Q .bi (upd H l (.lst (xs++[y])))
theorem cx:Xc X "list.append" E6:=by
 intro ae s σ H x vs v us Q I rx rv h;obtain⟨l,xs,y,rfl,rfl,hH,hz,q⟩:=h;cases rx;obtain⟨u,rfl,ru⟩:=rv.one;obtain⟨z,its,n,r,hl,e⟩:=I.IG hH;refine call_meets F.slot_list_append ⟨_,e,rfl⟩ F.entry_list_append (F.args_list_append_2 _ _) (PySem.list_append l its.toArray n u (by rw[bU];lia)) ⟨e,?_⟩;refine⟨.bi,_,I.QR (its':=its++[u]) hH e (by simp) (r.append (.cons ru .nil)) ?_,rfl,q⟩;rw[cz,List.length_singleton];lia
def Ma:R2:=fun x y H Q=>∃l b xs zs,x=.ref l/\y=.ref b/\H l=some (.lst xs)/\H b=some (.lst zs)/\xs.length+zs.length<=sizeLine/\∀p,H p=none->Q (.ref p) (upd H p (.lst (xs++zs)))
theorem l8:jm X (binaryOp .Add) Ma:=by
 intro ae s σ H x y v u Q I rx ry h;obtain⟨l,b,xs,zs,rfl,rfl,hH,hB,hz,q⟩:=h;cases rx;cases ry;obtain⟨z,its,n,r,hl,e⟩:=I.IG hH;obtain⟨z2,pW,n2,r2,Mb,e2⟩:=I.IG hB;refine PySem.P.add_list e e2 ?_ (by rw[bU,bU];lia);have ea:its.toArray++pW.toArray=(its++pW).toArray:=by simp
 rw[ea];exact⟨.ref _,_,I.L_ (t':=s.toks) (r.append r2) (by rw[cz];lia),rfl,q _ I.fresh⟩
end
section
variable {prog:Program} {w:World} {A:Around} {E:Value->Shared->Prop} {s:Shared}
end
section
variable {X:Cx}
end
end L2
namespace Vs
open PySem PySem.W PySem.Calls PyProof.Rows
theorem ny:∀ (ns:List Int) (vs:List Value),WellAll P h vs (ns.map WData.int)->IntsAre vs ns:=by
 intro ns;induction ns with
 |nil=>
  intro vs w;rw[List.map_nil] at w;cases w;exact .nil
 |cons n ns ih=>
  intro vs w;rw[gq] at w;cases w with
  |cons a b=>
   cases a;exact .cons _ _ (ih _ b)
theorem zF{l:OpenLaw}{n:Nat}(hn:l.most=some n){P:Params}{h:Heap}{args:List WData}{Ce:List Value}(E7:l.row.toRowW.claim.pre args=true)(QS:WellAll P h Ce args):
  ∃a vs ns,Ce=[Value.ref a]/\args=[WData.list (ns.map WData.int)]/\h.get? a=some { cls:=.type "list",data:=.seq vs.toArray }/\IntsAre vs ns/\ns.length<=n:=by
 have Xd:WShape.hasAll [] args [.list .int]=true:=(pre_splitW E7).1;have hc:l.pre.holds [] { args:=args }=true:=(pre_splitW E7).2;obtain⟨d,r,rfl,h1,h2⟩:=hasAllW_cons Xd;obtain rfl:=hasAllW_nil h2;obtain⟨xs,rfl,h3⟩:=hasW_list h1;obtain⟨ns,rfl⟩:=items_int h3;have dL:ns.length<=n:=by
  unfold OpenLaw.pre at hc;have h4:(WTm.not (.lt (.lit (.int (n:Int))) (.len (.arg 0)))).holds [] { args:=[.list (ns.map .int)] }=true:=by
   have h4:=(holds_andW hc).1;rw[hn] at h4;exact h4
  have h5:=condW_of h4 (w_not (w_lt w_lit (w_len_list (w_arg rfl))));rw[bp] at h5;refine Nat.le_of_not_lt fun q=>?_;have q':(n:Int)<((ns.length:Nat):Int):=by lia
  first
   |(rw[bH q'] at h5;exact absurd h5 (by decide))
   |(simp at h5;lia)
 cases QS with
 |cons w1 w2=>
  cases w2;cases w1 with
  |list ho pX=>exact⟨_,_,ns,rfl,rfl,ho,ny ns _ pX,dL⟩
theorem zG(l:OpenLaw)(args:List WData):l.row.toRowW.claim.post args (.bool true) args=true:=
 postW_of (r:=l.row.toRowW) (X:=(true==true))
  (show WShape.has [] (.bool true) .bool=true by first|rfl|decide|simp[WShape.has,WShape.arms,WShape.armsAll])
  (show (WTm.eq .res (.lit (.bool true))).value [] { args:=args,res:=some (.bool true),after:=args }=some (.bool (true==true)) from w_eq_bool (w_res rfl) w_lit) rfl
theorem uf{l:OpenLaw}{n:Nat}{q:Program}{qz:List Str}{XP:(Str->Option Value)->Heap->Prop}{YP:World->Heap->Prop}{d:DefRec}(hn:l.most=some n)(Mc:d.params.defaults=[])(call:∀ (w:World) (s₀ s₁:Shared) (mg mb:Str->Option Value) (fa:Addr) (o:Obj) (pm cd jo:Value) (a:Addr) (vs:List Value) (ns:List Int),
   Ground q qz [] XP w s₀ mg mb s₁.heap->YP w s₁.heap->
   s₁.heap.get? fa=some o->o.data=.func (docDef d.name d.params d.body d.scope pm cd jo)->s₁.heap.CodeRec cd d.name->mg d.name=some (.ref fa)->
   s₁.heap.get? a=some { cls:=.type "list",data:=.seq vs.toArray }->IntsAre vs ns->ns.length<=n->s₁.gens=#[]->
   codeAny (model l.prog w) callerA (.call (.ref fa) ⟨[.ref a],[]⟩) (fun r s'=>r=.ok (.ret (.bool true))/\OldK s₁.heap s'.heap/\s'.os=s₁.os/\AllBare s'.gens) s₁):
  WalkO q qz XP YP l.row.toRowW d [] (fun f vs=>PySem.call f vs):=by
 intro w s₀ s₁ mg mb G Y fa o pm cd jo dV kV ho hd mQ hD Md hg args Ce as E7 Xe ZY QS PB;obtain rfl:dV=.none:=Dflts.none hD Mc;obtain rfl:kV=.none:=Dflts.noKw hD;obtain⟨a,vs,ns,rfl,rfl,II,Cf,dL⟩:=zF hn E7 QS;refine enter_call (iF (call w s₀ s₁ mg mb fa o pm cd jo a vs ns G Y ho (fd_plain hd) mQ Md II Cf dL hg) fun r s' hq=>?_);obtain⟨rfl,h2,h3,h4⟩:=hq;exact⟨.inl ⟨.bool true,.bool true,[],rfl,fun _=>rfl,.bool true,zG l _,fun _=>⟨List.Pairwise.nil,fun _ hm=>(nomatch hm)⟩⟩,h2,h3,h4⟩
section
variable {prog:Program} {w:World} {A:Around} {E:Value->Shared->Prop} {s:Shared} {K:Frag}
end
end Vs
namespace L2
open PySem PySem.Spec PyProof.Rows
theorem qA:∀ {vs:List Value} {ns:List Int},IntsAre vs ns->aR (ns.map V.int) vs
 |_,_,.nil=>.nil
 |_,_,.cons n t h=>.cons ⟨t,rfl⟩ (qA h)
def fu(s:Stmt)(j:Nat):Stmt:=match s with
 |.ClassDef _ _ _ body _ _ _ _ _ _ _=>body.getD j (.Pass ⟨0,0,0,0⟩)
 |_=>.Pass ⟨0,0,0,0⟩
def cD(s:Stmt):Arguments:=match s with
 |.FunctionDef _ a _ _ _ _ _ _ _ _=>a
 |_=>{ posonlyargs:=[],args:=[],vararg:=none,kwonlyargs:=[],kw_defaults:=[],kwarg:=none,defaults:=[] }
def bt(s:Stmt):List Stmt:=match s with
 |.FunctionDef _ _ b _ _ _ _ _ _ _=>b
 |_=>[]
def ak(s:Stmt):Scope:=match s with
 |.FunctionDef _ _ _ _ _ _ sc _ _ _=>sc
 |_=>{ kind:=.function,names:=[],isGenerator:=false,isCoroutine:=false }
abbrev a9:nV:=fun _ _ _ _ _ _=>False
abbrev E0:XK:=fun _ _ _=>False
theorem aG:eY a9 X E0:=fun _ _ _ _ _ _ _ h=>h.elim
structure dH(K:PySem.W.Frag)(x qual:Str)(st:Stmt)(f:Addr)(fd:FuncData):Prop where
 ex:∃ (oc:Value) (od:Option Addr) (kV jo pm:Value) (an:Option Addr) (ce ct:Value) (qx:Array (Option Value)),
  fd=PySem.W.fnOf x qual (cD st) (bt st) (ak st) .none kV jo pm an ce ct/\K.lookup f=some ⟨oc,od,.func fd,qx⟩/\PySem.W.codeIn K ce qual=true
 kp:PySem.W.keepIn K (.ref f)=true
section
variable {P:Program} {w:World} {K:PySem.W.Frag} {mg:Str->Option Value} {base:Heap}
theorem dH.ok{x qual:Str}{st:Stmt}{f:Addr}{fd:FuncData}{N ps:List Str}{k:Nat}{sp:Sp}(F:dH K x qual st f fd)(S:aA N ps (ak st))(len:∀vs H Q E,sp vs H Q E->vs.length=ps.length)(iP:∀ (ce:Value) (A:Around) (outer:List Env) (s:Shared) (H:Hp) (vs:List V) (Q:VK) (E:XK),bv k (A.deeper (envOfC qual (ak st) s.heap.objs.size f ce))->sp vs H Q E->
   ∃t,pL (gu a9 P w K mg base N qual (ak st) f ce A outer s H E).Es (bt st) t/\t { nx:=fun _ H'=>Q .bi H',rt:=Q } (start N vs) H):a7 P w K mg base a9 (k+1) f fd ps sp:=by
 obtain⟨oc,od,kV,jo,pm,an,ce,ct,qx,rfl,lk,mQ⟩:=F.ex;refine BY lk mQ S len fun A outer s H vs Q E hr ue=>?_;obtain⟨t,h,q⟩:=iP ce A outer s H vs Q E hr ue;exact⟨t,h.Es,q⟩
theorem dH.binds{x qual:Str}{st:Stmt}{f:Addr}{fd:FuncData}{ps:List Str}(F:dH K x qual st f fd)(h:∀ (kV jo pm:Value) (an:Option Addr) (ce ct:Value) (us:List Value),us.length=ps.length->bindArgs (PySem.W.fnOf x qual (cD st) (bt st) (ak st) .none kV jo pm an ce ct) ⟨us,[]⟩=pure (ps.zip us)):eO K fd ps []:=by
 obtain⟨oc,od,kV,jo,pm,an,ce,ct,qx,rfl,lk,mQ⟩:=F.ex;exact .all (h kV jo pm an ce ct)
theorem l9{x qual:Str}{st:Stmt}{f:Addr}{oc:Value}{od an:Option Addr}{qx:Array (Option Value)}{kV jo pm ce ct:Value}(l:K.lookup f=some ⟨oc,od,.func (PySem.W.fnOf x qual (cD st) (bt st) (ak st) .none kV jo pm an ce ct),qx⟩)(c:PySem.W.codeIn K ce qual=true)(k:PySem.W.keepIn K (.ref f)=true):dH K x qual st f (PySem.W.fnOf x qual (cD st) (bt st) (ak st) .none kV jo pm an ce ct):=⟨⟨oc,od,kV,jo,pm,an,ce,ct,qx,rfl,l,c⟩,k⟩
end
section
variable {X:Cx}
theorem pv(i:Nat)(hN:X.N[i]?=some x:=by rfl)(hv:Ly X.env.scope x:=by first|exact Or.inl rfl|exact Or.inr (Or.inl rfl)|exact Or.inr (Or.inr rfl))(hd:(x==("__debug__":Str))=false:=by decide)(mQ:(x==("__classdict__":Str))=false:=by decide):PE X (.Name x pos) (br i):=Ik hN hv hd mQ
end
theorem dP{A B:Prop}(h:B):if false=true then A else B:=by
 rw[ao bJ];exact h
theorem fK{A B:Prop}(h:A):if true=true then A else B:=by
 rw[am rfl];exact h
theorem ei{c A B:Prop}[Decidable c](h1:c->A)(h2:¬ c->B):if c then A else B:=by
 by_cases h:c
 .rw[am h];exact h1 h
 .rw[ao h];exact h2 h
def az(H H':Hp):Prop:=∀b o,H b=some o->H' b=some o
theorem az.refl(H:Hp):az H H:=fun _ _ h=>h
theorem az.trans(a:az H H1)(b:az H1 H2):az H H2:=fun c o h=>b c o (a c o h)
theorem az.free(e:az H H')(h:H' l=Option.none):H l=Option.none:=by
 cases q:H l with
 |none=>rfl
 |some o=>
  rw[e l o q] at h;cases h
def E8(src:List (Option Nat))(σ:St):St:=src.map fun o=>match o with|some j=>σ.getD j none|none=>none
theorem E9{src:List (Option Nat)}{σ:St}{i:Nat}{v:V}(h:(E8 src σ)[i]?=some (some v)):∃j,src[i]?=some (some j)/\σ[j]?=some (some v):=by
 unfold E8 at h;rw[bX] at h;cases e:src[i]? with
 |none=>rw[e] at h;cases h
 |some o=>
  rw[e] at h;cases o with
  |none=>cases h
  |some j=>
   refine⟨j,rfl,?_⟩;have h':σ.getD j none=some v:=bS h;rw[cf] at h';cases e2:σ[j]? with
   |none=>rw[e2] at h';cases h'
   |some o=>rw[e2] at h';rw[show o=some v from h']
structure eQ(NB:List Str)(src:List (Option Nat))(scope:Scope)(X:Cx):Prop where
 kind:scope.kind=.function
 nd:NB.Nodup
 len:src.length=NB.length
 cells:∀y∈scope.names,y.2=.cell->scope.names.lookup y.1=some .cell
 names:∀y∈scope.names,y.2=.local->scope.names.lookup y.1=some .local
 free:∀y∈scope.names,y.2=.free->X.env.scope.names.lookup y.1=some .cell\/X.env.scope.names.lookup y.1=some .free
 src:∀ (i:Nat) (x:Str) (j:Nat),NB[i]?=some x->src[i]?=some (some j)->X.N[j]?=some x/\scope.names.lookup x=some .free
def si(scope:Scope)(x:Str):Bool:=match scope.names.lookup x with
 |some .cell=>true
 |_=>false
theorem ug:si scope x=true↔scope.names.lookup x=some .cell:=by
 unfold si;split
 .rename_i h;exact⟨fun _=>h,fun _=>rfl⟩
 .rename_i h;exact⟨fun z=>(by cases z),fun z=>absurd z h⟩
def uh(X:Cx)(NB:List Str)(scope:Scope)(cl:List (Str×Addr))(C:Addr)(s₃:Shared)(H₃:Hp)(fp:List Addr):Cx:=
 { X with N:=NB,s₀:=s₃,H₀:=H₃,env:=compEnvC scope cl C X.env,outer:=X.stack,stack:=X.stack,ex:=fp,fn:=si scope,pn:=[],xe:=fun _ _=>False }
theorem j_:∀ (names:List (Str×NameKind)) (dg:List (Str×Addr)),(∀y∈names,y.2=NameKind.free->∃c,env.cells.lookup y.1=some c)->(∀x c,dg.lookup x=some c->env.cells.lookup x=some c)->
  ∃cl,(forIn names dg fun x r=>(if (x.2==NameKind.free)=true then (do let a <- cellOf env x.1;pure (ForInStep.yield ((x.1,a)::r))) else pure (ForInStep.yield r):Sem (ForInStep (List (Str×Addr)))))=(pure cl:Sem (List (Str×Addr)))/\
   (∀x c,cl.lookup x=some c->env.cells.lookup x=some c)/\(∀x c,dg.lookup x=some c->∃c',cl.lookup x=some c')/\∀x,(x,NameKind.free)∈names->∃c,cl.lookup x=some c
 |[],dg,_,ha=>⟨dg,by rw[List.forIn_nil],ha,fun x c h=>⟨c,h⟩,fun x h=>nomatch h⟩
 |(n,k)::r,dg,hf,ha=>by
  by_cases hk:k=NameKind.free
  .subst hk;obtain⟨c,hc⟩:=hf (n,NameKind.free) cg rfl;have Me:∀x c',((n,c)::dg).lookup x=some c'->env.cells.lookup x=some c':=fun x c' h=>by
    rw[ff] at h;cases hx:x==n with
    |true=>
     rw[hx] at h;cases h;have:x=n:=by simpa using hx
     rw[this];exact hc
    |false=>rw[hx] at h;exact ha x c' h
   obtain⟨cl,e1,e2,e3,e4⟩:=j_ r ((n,c)::dg) (fun y hy=>hf y (b_ _ hy)) Me;refine⟨cl,?_,e2,fun x c' h=>?_,fun x h=>?_⟩
   .rw[List.forIn_cons];have ec:cellOf env n=pure c:=by unfold cellOf;rw[hc]
    have e0:(if ((n,NameKind.free).2==NameKind.free)=true then (do let a <- cellOf env (n,NameKind.free).1;pure (ForInStep.yield (((n,NameKind.free).1,a)::dg))) else pure (ForInStep.yield dg):Sem (ForInStep (List (Str×Addr))))=pure (ForInStep.yield ((n,c)::dg)):=by
     rw[am (show (NameKind.free==NameKind.free)=true by decide)];show cellOf env n >>= _=_;rw[ec];rfl
    rw[e0];exact e1
   .cases hx:x==n with
    |true=>exact e3 x c (by rw[ff,hx])
    |false=>exact e3 x c' (by rw[ff,hx];exact h)
   .rcases bu.mp h with h|h
    .cases h;exact e3 n c (by rw[ff];simp)
    .exact e4 x h
  .obtain⟨cl,e1,e2,e3,e4⟩:=j_ r dg (fun y hy=>hf y (b_ _ hy)) ha;refine⟨cl,?_,e2,e3,fun x h=>?_⟩
   .rw[List.forIn_cons];have hb:(k==NameKind.free)=false:=by simpa using hk
    have e0:(if ((n,k).2==NameKind.free)=true then (do let a <- cellOf env (n,k).1;pure (ForInStep.yield (((n,k).1,a)::dg))) else pure (ForInStep.yield dg):Sem (ForInStep (List (Str×Addr))))=pure (ForInStep.yield dg):=by
     rw[ao (by show ¬ (k==NameKind.free)=true;rw[hb];decide)]
    rw[e0];exact e1
   .rcases bu.mp h with h|h
    .cases h;exact absurd rfl hk
    .exact e4 x h
theorem g8(ok:X.Ok)(S:eQ NB src scope X):
  ∃cl,closureFor scope X.env=pure cl/\(∀x c,cl.lookup x=some c->X.env.cells.lookup x=some c)/\∀x,(x,NameKind.free)∈scope.names->∃c,cl.lookup x=some c:=by
 obtain⟨cl,e1,e2,_,e4⟩:=j_ (env:=X.env) scope.names [] (fun y hy hk=>ok.has y.1 (S.free y hy hk)) (fun x c h=>nomatch h);refine⟨cl,?_,e2,e4⟩;unfold closureFor;simp only[bind_pure];exact e1
theorem sj(h:scope.names.lookup x=some .free):(relabel scope env).names.lookup x=some .cell\/(relabel scope env).names.lookup x=some .free:=by
 have go:∀names:List (Str×NameKind),names.lookup x=some .free->
   (names.map fun (n,k)=>if (k==NameKind.free&&env.scope.kind==.function&&env.kindOf n==some .cell) then (n,NameKind.cell) else (n,k)).lookup x=some .cell\/
   (names.map fun (n,k)=>if (k==NameKind.free&&env.scope.kind==.function&&env.kindOf n==some .cell) then (n,NameKind.cell) else (n,k)).lookup x=some .free:=by
  intro names;induction names with
  |nil=>intro h;simp at h
  |cons y r ih=>
   intro h;obtain⟨n,k⟩:=y;rw[ff] at h;rw[gq];cases hx:x==n with
   |true=>
    rw[hx] at h;cases h;by_cases hc:(NameKind.free==NameKind.free&&env.scope.kind==.function&&env.kindOf n==some .cell)=true
    .left;show List.lookup x ((if _ then _ else _)::_)=_;rw[am hc,ff,hx]
    .right;show List.lookup x ((if _ then _ else _)::_)=_;rw[ao hc,ff,hx]
   |false=>
    rw[hx] at h;by_cases hc:(k==NameKind.free&&env.scope.kind==.function&&env.kindOf n==some .cell)=true
    .show List.lookup x ((if _ then _ else _)::_)=_\/List.lookup x ((if _ then _ else _)::_)=_;rw[am hc,ff,hx];exact ih h
    .show List.lookup x ((if _ then _ else _)::_)=_\/List.lookup x ((if _ then _ else _)::_)=_;rw[ao hc,ff,hx];exact ih h
 exact go scope.names h
theorem kW(h:(relabel scope env).names.lookup x=some k)(hk:k=.cell\/k=.free):(x,NameKind.free)∈scope.names\/(x,NameKind.cell)∈scope.names:=by
 have m:=gh h;obtain⟨⟨n,k'⟩,hm,e⟩:=a_.mp m;by_cases q:(k'==NameKind.free&&env.scope.kind==.function&&env.kindOf n==some .cell)=true
 .have e':(n,NameKind.cell)=(x,k):=by simpa [q] using e
  have k1:k'=NameKind.free:=by
   simp only[gj,fG] at q;exact q.1.1
  cases e';left;rw[<-k1];exact hm
 .have e':(n,k')=(x,k):=by simpa [q] using e
  cases e';rcases hk with z|z
  .subst z;exact .inr hm
  .subst z;exact .inl hm
theorem l_:∀ (names:List (Str×NameKind)) (h:Heap) (dg:List (Str×Addr)) (x:Str) (c:Addr),(cellsFrom h.objs.size names dg).lookup x=some c->dg.lookup x=some c\/(h.objs.size<=c/\(pushCells h names).IsCell c none)
 |[],_,_,_,_,e=>.inl e
 |(name,kind)::r,h,dg,x,c,e=>by
  unfold cellsFrom at e;unfold pushCells;split at e
  .rename_i hk;rw[am hk];have kP:(h.push { cls:=.type "cell",data:=.cell none }).objs.size=h.objs.size+1:=iE ..;rw[<-kP] at e;rcases l_ r _ _ x c e with z|⟨z1,z2⟩
   .rw[ff] at z;cases hx:x==name with
    |true=>
     rw[hx] at z;cases z;exact .inr ⟨aO _,_,pushCells_keeps r _ _ _ (cW _ rfl),rfl⟩
    |false=>rw[hx] at z;exact .inl z
   .exact .inr ⟨by lia,z2⟩
  .rename_i hk;rw[ao hk];exact l_ r h dg x c e
theorem qB:∀ (names:List (Str×NameKind)) (n:Nat) (dg:List (Str×Addr)) (x:Str),(x,NameKind.cell)∈names->∃c,n<=c/\(cellsFrom n names dg).lookup x=some c:=by
 have up:∀ (names:List (Str×NameKind)) (n m:Nat) (dg:List (Str×Addr)) (x:Str) (c:Addr),dg.lookup x=some c->m<=c->m<=n->∃c',m<=c'/\(cellsFrom n names dg).lookup x=some c':=by
  intro names;induction names with
  |nil=>intro n m dg x c e h _;exact⟨c,h,e⟩
  |cons y r ih=>
   intro n m dg x c e h hm;obtain⟨name,kind⟩:=y;unfold cellsFrom;split
   .cases hx:x==name with
    |true=>exact ih (n+1) m _ x n (by rw[ff,hx]) hm (by lia)
    |false=>exact ih (n+1) m _ x c (by rw[ff,hx];exact e) h (by lia)
   .exact ih n m dg x c e h hm
 intro names;induction names with
 |nil=>intro n dg x h;cases h
 |cons y r ih=>
  intro n dg x h;obtain⟨name,kind⟩:=y;unfold cellsFrom;rcases bu.mp h with z|z
  .cases z;rw[am (by decide)];exact up r (n+1) n _ x n (by rw[ff];simp) (aO _) (by lia)
  .split
   .obtain⟨c,h1,h2⟩:=ih (n+1) ((name,n)::dg) x z;exact⟨c,by lia,h2⟩
   .exact ih n dg x z
theorem jq:∀ (names:List (Str×NameKind)) (n:Nat) (dg:List (Str×Addr)) (x:Str) (c:Addr),dg.lookup x=some c->(x,NameKind.cell)∉names->(cellsFrom n names dg).lookup x=some c
 |[],_,_,_,_,e,_=>e
 |(name,kind)::r,n,dg,x,c,e,h=>by
  have hr:(x,NameKind.cell)∉r:=fun z=>h (b_ _ z);unfold cellsFrom;split
  .rename_i hk;have ka:(x==name)=false:=by
    cases hx:x==name with
    |false=>rfl
    |true=>
     have e1:x=name:=by simpa using hx
     have e2:kind=.cell:=by simpa using hk
     exact absurd (by rw[e1,e2];exact cg) h
   exact jq r (n+1) _ x c (by rw[ff,ka];exact e) hr
  .exact jq r n dg x c e hr
theorem me:∀ (names:List (Str×NameKind)) (n:Nat) (dg:List (Str×Addr)),(∀x y c,dg.lookup x=some c->dg.lookup y=some c->x=y)->(∀x c,dg.lookup x=some c->c<n)->∀x y c,(cellsFrom n names dg).lookup x=some c->(cellsFrom n names dg).lookup y=some c->x=y
 |[],_,_,hi,_=>hi
 |(name,kind)::r,n,dg,hi,hl=>by
  unfold cellsFrom;split
  .refine me r (n+1) _ (fun x y c h1 h2=>?_) (fun x c h=>?_)
   .rw[ff] at h1 h2;cases hx:x==name <;> cases hy:y==name <;> rw[hx] at h1 <;> rw[hy] at h2
    .exact hi x y c h1 h2
    .cases h2;exact absurd (hl x _ h1) (gn _)
    .cases h1;exact absurd (hl y _ h2) (gn _)
    .have e1:x=name:=by simpa using hx
     have e2:y=name:=by simpa using hy
     rw[e1,e2]
   .rw[ff] at h;cases hx:x==name <;> rw[hx] at h
    .exact dM (hl x c h)
    .cases h;exact jU _
  .exact me r n dg hi hl
section
variable {X:Cx} {ae:List (Addr×Obj)} {σ:St} {H:Hp} {s:Shared} {NB:List Str} {src:List (Option Nat)} {scope:Scope} {cl:List (Str×Addr)} {fp:List Addr} {h₁:Heap} {t₁:Nat}
theorem E_(I:aF X ae σ H s)(S:eQ NB src scope X)(c1:∀x c,cl.lookup x=some c->X.env.cells.lookup x=some c)(c2:∀x,(x,NameKind.free)∈scope.names->∃c,cl.lookup x=some c)(hf:∀b∈fp,jy X ae H b)(Mf:∀b∈fp,b<s.heap.objs.size){m:Str->Option Value}(hn:h₁.Ns s.heap.objs.size m)(hk:∀b o,s.heap.get? b=some o->h₁.get? b=some o)(zH:∀x c,(cellsFrom (s.heap.objs.size+1) scope.names cl).lookup x=some c->cl.lookup x=some c\/(s.heap.objs.size<c/\h₁.IsCell c none)):
  aF (uh X NB scope (cellsFrom (s.heap.objs.size+1) scope.names cl) s.heap.objs.size s H fp) [] (E8 src σ) H { s with heap:=h₁,toks:=t₁ }:=by
 have AJ:∀b∈jD X.stack,b∈X.env.locals::X.fs:=I.rR;have Cg:∀x c,cl.lookup x=some c->∃v,s.heap.IsCell c v:=fun x c e=>I.cell x c (c1 x c e);have QT:∀x c,cl.lookup x=some c->c<s.heap.objs.size:=fun x c e=>by obtain⟨v,o,ho,_⟩:=Cg x c e;exact aX ho
 refine⟨⟨I.ok.mod,S.kind,I.ok.glob,I.ok.blt,aO _,me _ _ _ (fun x y c e1 e2=>I.ok.inj x y c (c1 x c e1) (c1 y c e2)) (fun x c e=>dM (QT x c e)),fun x hx=>?_,fun x c z e=>?_,I.ok.hd,I.ok.frames,.inl rfl,fun b hb=>⟨?_,fun x c e=>?_⟩,I.bs,bq I.ok.zq I.sz,fun b o e hb=>?_,fun b hb=>?_,I.stack,I.rS⟩,
  rfl,I.bare,Un.kept hk,⟨m,hn,fun i x v e1 e2 e3=>?_⟩,fun x c e=>?_,I.bA.fresh (aO _),fun x c e=>?_,fun p hp=>absurd (show p∈([]:List (Addr×Obj)) from hp) (by simp),I.bA.kept hk,?_⟩
 .have Fa:(x,NameKind.free)∈scope.names\/(x,NameKind.cell)∈scope.names:=by
   rcases hx with hx|hx
   .exact kW hx (.inl rfl)
   .exact kW hx (.inr rfl)
  by_cases hc:(x,NameKind.cell)∈scope.names
  .obtain⟨c,_,e⟩:=qB scope.names (s.heap.objs.size+1) cl x hc;exact⟨c,e⟩
  .rcases Fa with z|z
   .obtain⟨c,e⟩:=c2 x z;exact⟨c,jq _ _ _ _ _ e hc⟩
   .exact absurd z hc
 .have hm:=gh (ug.mp z);obtain⟨c',h1,h2⟩:=qB scope.names (s.heap.objs.size+1) cl x hm;have e':(cellsFrom (s.heap.objs.size+1) scope.names cl).lookup x=some c:=e;rw[h2] at e';cases e';exact Nat.le_of_succ_le h1
 .exact aZ (Mf b hb)
 .rcases zH x c e with z|⟨z,_⟩
  .exact(hf b hb).2.2.2.2.1 x c (c1 x c z)
  .exact jY (Nat.lt_trans (Mf b hb) z)
 .rcases(hf b hb).2.2.2.1 with z|z
  .exact I.ok.lR b o e z
  .exact absurd (cM (aX e) (bq I.ok.zq z)) (gn _)
 .intro z;rcases bu.mp (AJ b z) with e|e
  .exact(hf b hb).2.1 e
  .exact(hf b hb).2.2.1 e
 .obtain⟨j,hj,hv⟩:=E9 e2;obtain⟨hN,hF⟩:=S.src i x j e1 hj;obtain⟨m0,Ev,QU⟩:=I.loc;have Fb:=gh hF;have kx:=S.free _ Fb rfl;have Qy:Ly X.env.scope x:=by
   rcases kx with z|z
   .exact .inr (.inl z)
   .exact .inr (.inr z)
  obtain⟨u,r,l⟩:=QU j x v hN hv Qy;refine⟨u,r,.inr ⟨sj hF,?_⟩⟩;obtain⟨c,hc⟩:=c2 x Fb;have Xf:(x,NameKind.cell)∉scope.names:=fun z=>by
   have:=S.cells _ z rfl;rw[hF] at this;cases this
  refine⟨c,jq _ _ _ _ _ hc Xf,?_⟩;rcases l with ⟨PC,_⟩|⟨_,c',e,z⟩
  .have Mg:X.env.scope.names.lookup x=some .local:=PC;rcases kx with z|z <;> (rw[z] at Mg;cases Mg)
  .rw[c1 x c hc] at e;cases e;obtain⟨o,ho,hd⟩:=z;exact⟨o,hk _ _ ho,hd⟩
 .rcases zH x c e with z|⟨_,z⟩
  .obtain⟨v,o,ho,hd⟩:=Cg x c z;exact⟨v,o,hk _ _ ho,hd⟩
  .exact⟨none,z⟩
 .rcases zH x c e with z|⟨z,_⟩
  .exact I.fJ x c (c1 x c z)
  .exact I.bA.fresh (gP z)
 .show (E8 src σ).length=NB.length;unfold E8;rw[bp];exact S.len
theorem aF.Mh(I:aF X ae σ H s)(J:aF (uh X NB scope cl C s H fp) [] σB H' s')(hf:∀b∈fp,jy X ae H b):aF X ae σ H' s':=by
 refine I.G7 (ch:=fp) J.os J.base J.bA J.bare fun b hb=>?_;obtain⟨_,f1,_,f3,f4,f5⟩:=hf b hb;exact⟨f3,f1,f4,f5⟩
end
def IJ(X:Cx)(vi:List Expr)(t:TT):Prop:=
 ∀ (ae:List (Addr×Obj)) (s:Shared) (σ:St) (H:Hp) (Q:Bool->Hp->Prop),aF X ae σ H s->t σ H Q->
  wpAny (model X.prog X.w) X.A (forIn vi true fun c r=>if r=true then do let ok <- isTrue c X.env (eval c X.env);pure (ForInStep.yield ok) else pure (ForInStep.yield r)) (TP X ae σ Q) X.xe s
def QV:TT:=fun _ H Q=>Q true H
theorem jr:IJ X [] QV:=fun _ _ _ H _ I h=>wpAny_tests_nil ⟨H,I,h⟩
theorem fv(h:PT X c t):IJ X [c] t:=fun ae s σ H Q I q=>wpAny_tests_one (h ae s σ H Q I q)
def jE(J:It)(g:TG)(tt:TT)(te:TE)(D:Addr)(dt:Hp->Prop)(σB:St)(H1:Hp):Prop:=
 ∃W:Nat->Nat->St->Hp->Prop,(∃m,W 0 m σB H1)/\∀i m σ H,W i m σ H->(J.stop i H/\dt H)\/(J.go i H/\∀x H',J.G8 i H x H'->g x σ H' fun σ2 H2=>tt σ2 H2 fun b H3=>
  if b=true then te σ2 H3 fun v H4=>∃ys,H4 D=some (.lst ys)/\ys.length<sizeLine/\∃m',m'<m/\W (i+1) m' σ2 (upd H4 D (.lst (ys++[v]))) else ∃m',m'<m/\W (i+1) m' σ2 H3)
def oZ(G:Hp->Prop)(J:It)(g:TG)(tt:TT)(te:TE)(D:Addr)(dt:Hp->Prop)(σB:St)(H1:Hp):Prop:=
 ∃W:Nat->Nat->St->Hp->Prop,(∃m,W 0 m σB H1)/\∀i m σ H,W i m σ H->G H/\((J.stop i H/\dt H)\/(J.go i H/\∀x H',J.G8 i H x H'->g x σ H' fun σ2 H2=>tt σ2 H2 fun b H3=>
  if b=true then te σ2 H3 fun v H4=>∃ys,H4 D=some (.lst ys)/\ys.length<sizeLine/\∃m',m'<m/\W (i+1) m' σ2 (upd H4 D (.lst (ys++[v]))) else ∃m',m'<m/\W (i+1) m' σ2 H3))
theorem jE.g{J:It}{g:TG}{tt:TT}{te:TE}{D:Addr}{dt:Hp->Prop}{σB:St}{H1:Hp}(h:jE J g tt te D dt σB H1):oZ (fun _=>True) J g tt te D dt σB H1:=let ⟨W,a,b⟩:=h;⟨W,a,fun i m σ H w=>⟨trivial,b i m σ H w⟩⟩
theorem zI(hx:B.xe=fun _ _=>False)(hc:∀H,G H->B.calm=true\/J.EO B.A H)(T:wH B.prog B.w B.K tg J fp it tn)(hg:PG B tg g)(ht:IJ B vi tt)(he:PE B yk te)(I:aF B [] σB H1 s)(st:tn 0 s.heap)(hf:∀b∈fp,jy B [] H1 b)(hw:oZ G J g tt te D dt σB H1)(hR:∀σ' H' s',aF B [] σ' H' s'->dt H'->R (.ok .next) s'):
  codeAny (model B.prog B.w) B.A (.compLoop (.ListComp yk [⟨tg,gc,vi,0⟩] scope pos) 0 (.ref it) (.ref D) B.env) R s:=by
 obtain⟨W,⟨m0,w0⟩,Bu⟩:=hw;have wK:∀ {H':Hp},(∀b∈fp,H' b=none)->∀b∈fp,jy B [] H' b:=fun hn b hb=>⟨hn b hb,(hf b hb).2⟩
 refine codeAny_loop rfl (fun n s'=>∃i σ' H',aF B [] σ' H' s'/\tn i s'.heap/\(∀b∈fp,H' b=none)/\W i n σ' H') ?_ m0 ⟨0,σB,H1,I,st,fun b hb=>(hf b hb).1,w0⟩;rintro n s3 ⟨i,σ3,H3,I3,wL,Ir,w3⟩;show wpAny _ B.A ((compTurn (.ListComp yk [⟨tg,gc,vi,0⟩] scope pos) 0 (.ref it) (.ref D) B.env).onRaise (fun x=>do noteFrame x B.env;theTreesLotGoes x)) _ _ s3;refine wpAny_noted ?_;rw[compTurn_list];have nx:∀ {α:Type} {t:Sem α} {Q:α->Shared->Prop} {E':Value->Shared->Prop} {s:Shared},wpAny (model B.prog B.w) B.A t Q B.xe s->wpAny (model B.prog B.w) B.A t Q E' s:=fun h=>
  f_ h (fun _ _ q=>q) fun _ _ z=>by rw[hx] at z;exact z.elim
 obtain⟨hG,Mi⟩:=Bu i n σ3 H3 w3;rcases Mi with ⟨stop,qn⟩|⟨go,step⟩
 .refine aw (lL (aw (cn (T.done B rfl rfl rfl i [] s3 σ3 H3 _ (hc _ hG) I3 (wK Ir) wL stop) fun r s4 ⟨hr,I4⟩=>?_)));subst hr;exact wpAny_pure (hR σ3 H3 s4 I4 qn)
 .refine aw (lL (aw (cn (T.item B rfl rfl rfl i [] s3 σ3 H3 _ (hc _ hG) I3 (wK Ir) wL go) fun r s4 ⟨u,hr,h4⟩=>?_)));subst hr;refine aw (cn h4 fun _ s5 ⟨x,H5,I5,r5,y5,tU,QB⟩=>?_);have QC:=I5.pinned (wK QB) (T.obj _ _ tU);refine aw (nx (cn (hg _ s5 σ3 H5 x u _ QC r5 (step x H5 y5)) fun _ s6 ⟨σ6,H6,I6,q6⟩=>?_));have back:∀ {σ7:St} {H7:Hp} {s7:Shared} {m':Nat},aF B ([]++oR fp s5.heap) σ7 H7 s7->m'<n->W (i+1) m' σ7 H7->∃m,m<n/\∃i σ' H',aF B [] σ' H' s7/\tn i s7.heap/\(∀b∈fp,H' b=none)/\W i m σ' H':=fun {σ7 H7 s7 m'} I7 hm w7=>by
   refine⟨m',hm,i+1,σ7,H7,I7.kM,T.keep _ _ _ tU fun b hb o e=>(I7.pin (b,o) (iw _ (iw _ (gX hb e)))).1,fun b hb=>?_,w7⟩;obtain⟨o,e,d⟩:=T.obj _ _ tU b hb;exact(I7.pin (b,o) (iw _ (iw _ (gX hb e)))).2.1
  refine aw (nx (cn (ht _ s6 σ6 H6 _ I6 q6) fun ok s7 ⟨H7,I7,q7⟩=>?_));cases ok with
  |false=>
   rw[ao bJ] at q7;obtain⟨m',hm,w7⟩:=q7;exact wpAny_pure ⟨rfl,back I7 hm w7⟩
  |true=>
   rw[am rfl] at q7;refine aw (aw (nx (cn (he _ s7 σ6 H7 _ I7 q7) fun v s8 ⟨y,H8,I8,r8,ys,hD,hl,m',hm,w8⟩=>?_)));refine aw (nx (cn (cx _ s8 σ6 H8 (.ref D) [y] (.ref D) [v] (fun _ H9=>H9=upd H8 D (.lst (ys++[y]))) I8 rfl (.cons r8 .nil) ⟨D,ys,y,rfl,rfl,hD,hl,rfl⟩) fun _ s9 ⟨_,H9,I9,_,e9⟩=>?_));subst e9;exact wpAny_pure (wpAny_pure ⟨rfl,back I9 hm w8⟩)
theorem sk(hQ:Q { scope:=scope,locals:=s.heap.objs.size,globals:=globals,cells:=cellsFrom (s.heap.objs.size+1) scope.names cl,qual:=qual,func:=none,code:=outer.code,frame:=outer.frame,builtins:=outer.builtins }
   { s with heap:=pushCells (s.heap.push { cls:=.type "dict",data:=.dict #[] }) scope.names }):
  wpAny M A (newFunctionEnv scope globals cl [] qual none .none (some outer)) Q E s:=by
 simp only[newFunctionEnv,Option.isSome_some,if_true];refine aw (wpAny_alloc ?_);refine aw (wpAny_layCells _ (fun name kind cells=>by cases Xg:kind==NameKind.cell <;> simp[Xg]) _ _ _ _ ?_);rw[show ({ s with heap:=s.heap.push { cls:=.type "dict",data:=.dict #[] } }:Shared).heap.objs.size=s.heap.objs.size+1 from iE ..];refine aw ?_;rw[List.forIn_nil];exact wpAny_pure (wpAny_pure hQ)
section
variable {X:Cx} {yk tg gc:Expr} {vi:List Expr} {scope:Scope} {pos:Pos} {wi:TI} {g:TG} {tt:TT} {te:TE} {NB:List Str} {src:List (Option Nat)}
def G_(src:List (Option Nat))(wi:TI)(g:TG)(tt:TT)(te:TE):TE:=fun σ H Q=>wi σ H fun J H1=>∀D,H1 D=none->jE J g tt te D (fun H'=>Q (.ref D) H') (E8 src σ) (upd H1 D (.lst []))
theorem kg{ae:List (Addr×Obj)}{σ:St}{H2:Hp}{s2:Shared}{J:It}{fp:List Addr}{it:Addr}{tn:Nat->Heap->Prop}{cl:List (Str×Addr)}{dt:Addr->Hp->Prop}{E':Value->Shared->Prop}{RR:Value->Addr->Result->Shared->Prop}{G:Hp->Prop}(S:eQ NB src scope X)(hc:∀H,G H->X.calm=true\/J.EO X.A H)(c1:∀x c,cl.lookup x=some c->X.env.cells.lookup x=some c)(c2:∀x,(x,NameKind.free)∈scope.names->∃c,cl.lookup x=some c)(hg:∀cl C s₃ H₃ fp,PG (uh X NB scope cl C s₃ H₃ fp) tg g)(ht:∀cl C s₃ H₃ fp,IJ (uh X NB scope cl C s₃ H₃ fp) vi tt)(he:∀cl C s₃ H₃ fp,PE (uh X NB scope cl C s₃ H₃ fp) yk te)(I2:aF X ae σ H2 s2)(T:wH X.prog X.w X.K tg J fp it tn)(qr:tn 0 s2.heap)(f2:∀b∈fp,jy X ae H2 b)(hw:∀D,H2 D=none->oZ G J g tt te D (dt D) (E8 src σ) (upd H2 D (.lst [])))(hR:∀D C H' s',jy X ae H' C->aF X ae σ H' s'->(∃m,s'.heap.Ns C m)->dt D H'->RR (.ref D) C (.ok .next) s'):
  wpAny (model X.prog X.w) X.A (newList []) (fun dg s₃=>wpAny (model X.prog X.w) X.A (newFunctionEnv scope X.env.globals cl [] X.env.qual none .none (some X.env)) (fun Mj s₄=>
   codeAny (model X.prog X.w) X.A (.compStart (.ListComp yk [⟨tg,gc,vi,0⟩] scope pos) 0 (.ref it) dg { Mj with scope:=relabel scope X.env }) (RR dg Mj.locals) s₄) E' s₃) E' s2:=by
 refine iz (sk ?_);have I3:=I2.L_ (ys:=[]) (its:=[]) (t':=s2.toks) .nil (cR _);have hD:H2 s2.heap.objs.size=none:=I2.fresh;have fo:∀b∈fp,b<s2.heap.objs.size:=fun b hb=>by obtain⟨o,e,_⟩:=T.obj _ _ qr b hb;exact aX e
 have up:∀ {b:Addr},b∈fp->upd H2 s2.heap.objs.size (.lst []) b=H2 b:=fun {b} hb=>al (aZ (fo b hb));have f3:∀b∈fp,jy X ae (upd H2 s2.heap.objs.size (.lst [])) b:=fun b hb=>⟨by rw[up hb];exact(f2 b hb).1,(f2 b hb).2⟩
 have kP:(s2.heap.push { cls:=.type "list",data:=.seq ([]:List Value).toArray }).objs.size=s2.heap.objs.size+1:=by rw[iE]
 generalize Xh:({ s2 with heap:=s2.heap.push { cls:=.type "list",data:=.seq ([]:List Value).toArray } }:Shared)=s3 at I3 |-;have Vt:s3.heap=s2.heap.push { cls:=.type "list",data:=.seq ([]:List Value).toArray }:=by rw[<-Xh]
 have Vu:∀b∈fp,b<s3.heap.objs.size:=fun b hb=>by rw[Vt,kP];exact dM (fo b hb)
 have Ml:(s3.heap.push { cls:=.type "dict",data:=.dict #[] }).objs.size=s3.heap.objs.size+1:=iE ..;have zH:∀x c,(cellsFrom (s3.heap.objs.size+1) scope.names cl).lookup x=some c->cl.lookup x=some c\/(s3.heap.objs.size<c/\(pushCells (s3.heap.push { cls:=.type "dict",data:=.dict #[] }) scope.names).IsCell c none):=fun x c e=>by
  rw[<-Ml] at e;rcases l_ _ _ _ _ _ e with z|⟨z1,z2⟩
  .exact .inl z
  .exact .inr ⟨by rw[Ml] at z1;exact z1,z2⟩
 have Mm:=(Heap.Ns.new s3.heap (.type "dict")).keeps (pushCells_keeps scope.names _);have keep:∀b o,s3.heap.get? b=some o->(pushCells (s3.heap.push { cls:=.type "dict",data:=.dict #[] }) scope.names).get? b=some o:=fun b o e=>pushCells_keeps _ _ b o (cE _ e);generalize ZZ:pushCells (s3.heap.push { cls:=.type "dict",data:=.dict #[] }) scope.names=h₁ at zH Mm keep |-;have IB:aF (uh X NB scope (cellsFrom (s3.heap.objs.size+1) scope.names cl) s3.heap.objs.size s3 (upd H2 s2.heap.objs.size (.lst [])) fp) [] (E8 src σ) (upd H2 s2.heap.objs.size (.lst [])) { s3 with heap:=h₁,toks:=s3.toks }:=
  E_ I3 S c1 c2 f3 Vu Mm keep zH
 have Vv:tn 0 h₁:=T.keep 0 s2.heap h₁ qr fun b hb o e=>keep b o (by rw[Vt];exact cE _ e);have fB:∀b∈fp,jy (uh X NB scope (cellsFrom (s3.heap.objs.size+1) scope.names cl) s3.heap.objs.size s3 (upd H2 s2.heap.objs.size (.lst [])) fp) [] (upd H2 s2.heap.objs.size (.lst [])) b:=fun b hb=>by
  refine⟨(f3 b hb).1,aZ (Vu b hb),fun z=>?_,.inl hb,fun x c e=>(IB.ok.LA b hb).2 x c e,fun p hp=>absurd (show p∈([]:List (Addr×Obj)) from hp) (by simp)⟩;rcases bu.mp (I3.rR b z) with e|e
  .exact(f3 b hb).2.1 e
  .exact(f3 b hb).2.2.1 e
 have loop:codeAny (model X.prog X.w) X.A (.compLoop (.ListComp yk [⟨tg,gc,vi,0⟩] scope pos) 0 (.ref it) (.ref s2.heap.objs.size) (compEnvC scope (cellsFrom (s3.heap.objs.size+1) scope.names cl) s3.heap.objs.size X.env)) (RR (.ref s2.heap.objs.size) s3.heap.objs.size)
   { s3 with heap:=h₁,toks:=s3.toks }:=by
  refine zI (B:=uh X NB scope (cellsFrom (s3.heap.objs.size+1) scope.names cl) s3.heap.objs.size s3 (upd H2 s2.heap.objs.size (.lst [])) fp) rfl hc T (hg _ _ _ _ _) (ht _ _ _ _ _) (he _ _ _ _ _) IB Vv fB (hw _ hD) fun σ' H' s' J' q=>?_;obtain⟨m,hm,_⟩:=J'.loc;exact hR _ _ H' s' (I3.Bv (aO _) J'.free) (I3.Mh J' f3) ⟨m,hm⟩ q
 exact codeAny_compStart_list loop (T.self _ 0 _ _ _ Vv loop)
theorem dQ(S:eQ NB src scope X)(hc:X.calm=true)(hi:PI X tg gc wi)(hg:∀cl C s₃ H₃ fp,PG (uh X NB scope cl C s₃ H₃ fp) tg g)(ht:∀cl C s₃ H₃ fp,IJ (uh X NB scope cl C s₃ H₃ fp) vi tt)(he:∀cl C s₃ H₃ fp,PE (uh X NB scope cl C s₃ H₃ fp) yk te)(hs:∀x,foldedSetIterable gc X.env x=pure x:=by intro _;rfl):PE X (.ListComp yk [⟨tg,gc,vi,0⟩] scope pos) (G_ src wi g tt te):=by
 intro ae s σ H Q I h;obtain⟨cl,Ew,c1,c2⟩:=g8 I.ok S;rw[eval_ListComp];refine vK (use:=none) (cl:=cl) rfl hs Ew S.kind S.names (cn (hi ae s σ H _ I h) fun v s1 h1=>cn h1 fun LP s2 h2=>?_);obtain⟨it,fp,tn,J,H2,e,I2,T,qr,f2,hw⟩:=h2;subst e;refine kg (RR:=fun dg C=>compPost (model X.prog X.w) X.A X.xe none (EP X ae σ Q) dg C) S (G:=fun _=>True) (fun _ _=>.inl hc) c1 c2 hg ht he I2 T qr f2 (fun D hD=>(hw D hD).g) fun D C H' s' fC I' hm q=>?_;obtain⟨m,hm⟩:=hm;refine⟨m,hm,fun h' sb=>⟨.ref D,H',?_,rfl,q⟩⟩;obtain⟨g0,g1,_,g3,g4,g5⟩:=fC;exact I'.turned (t':=s'.toks) (fun b o hb e=>(sb.2 b hb).trans e) g0 g1 g3 g4 g5
def IK(A:Around)(src:List (Option Nat))(wi:TI)(g:TG)(tt:TT)(te:TE):TE:=fun σ H Q=>wi σ H fun J H1=>∀D,H1 D=none->oZ (J.EO A) J g tt te D (fun H'=>Q (.ref D) H') (E8 src σ) (upd H1 D (.lst []))
theorem Ch(S:eQ NB src scope X)(hi:PI X tg gc wi)(hg:∀cl C s₃ H₃ fp,PG (uh X NB scope cl C s₃ H₃ fp) tg g)(ht:∀cl C s₃ H₃ fp,IJ (uh X NB scope cl C s₃ H₃ fp) vi tt)(he:∀cl C s₃ H₃ fp,PE (uh X NB scope cl C s₃ H₃ fp) yk te)(hs:∀x,foldedSetIterable gc X.env x=pure x:=by intro _;rfl):PE X (.ListComp yk [⟨tg,gc,vi,0⟩] scope pos) (IK X.A src wi g tt te):=by
 intro ae s σ H Q I h;obtain⟨cl,Ew,c1,c2⟩:=g8 I.ok S;rw[eval_ListComp];refine vK (use:=none) (cl:=cl) rfl hs Ew S.kind S.names (cn (hi ae s σ H _ I h) fun v s1 h1=>cn h1 fun LP s2 h2=>?_);obtain⟨it,fp,tn,J,H2,e,I2,T,qr,f2,hw⟩:=h2;subst e;refine kg (RR:=fun dg C=>compPost (model X.prog X.w) X.A X.xe none (EP X ae σ Q) dg C) S (G:=J.EO X.A) (fun _ z=>.inr z) c1 c2 hg ht he I2 T qr f2 hw fun D C H' s' fC I' hm q=>?_;obtain⟨m,hm⟩:=hm;refine⟨m,hm,fun h' sb=>⟨.ref D,H',?_,rfl,q⟩⟩;obtain⟨g0,g1,_,g3,g4,g5⟩:=fC;exact I'.turned (t':=s'.toks) (fun b o hb e=>(sb.2 b hb).trans e) g0 g1 g3 g4 g5
theorem kh{i:Nat}{y:Str}{py Mn:Pos}(S:eQ NB src scope X)(hc:X.calm=true)(hi:PI X tg gc wi)(hg:∀cl C s₃ H₃ fp,PG (uh X NB scope cl C s₃ H₃ fp) tg g)(ht:∀cl C s₃ H₃ fp,IJ (uh X NB scope cl C s₃ H₃ fp) vi tt)(he:∀cl C s₃ H₃ fp,PE (uh X NB scope cl C s₃ H₃ fp) yk te)(hN:X.N.Nodup)(w4:X.N[i]?=some y)(hy:X.env.scope.names.lookup y=some .local)(Xi:swapsWith (.ListComp yk [⟨tg,gc,vi,0⟩] scope pos) (some (.Name y py)) Mn.line X.env=pure true)(hs:∀x,foldedSetIterable gc X.env x=pure x:=by intro _;rfl):
  PS X (.Assign [.Name y py] (.ListComp yk [⟨tg,gc,vi,0⟩] scope pos) Mn) (EN (G_ src wi g tt te) (cI i)):=by
 intro ae s σ H D0 I h;obtain⟨cl,Ew,c1,c2⟩:=g8 I.ok S;rw[exec_Assign_Name_used _ _ _ _ Xi];refine aw (lL (aw ?_));show wpAny _ X.A (do let _ <- comprehension (.ListComp yk [⟨tg,gc,vi,0⟩] scope pos) scope X.env _ (newList []) false (eval gc X.env) (some (assign (.Name y py) X.env))) _ _ s;refine aw (f_ (vK (use:=some (assign (.Name y py) X.env)) (Q:=fun _ s'=>SP X ae D0 .next s') (cl:=cl) rfl hs Ew S.kind S.names
  (cn (hi ae s σ H _ I h) fun v s1 h1=>cn h1 fun LP s2 h2=>?_)) (fun _ s' hq=>wpAny_pure (wpAny_pure hq)) fun _ _ e=>e)
 obtain⟨it,fp,tn,J,H2,e,I2,T,qr,f2,hw⟩:=h2;subst e;refine kg (RR:=fun dg C=>compPost (model X.prog X.w) X.A X.xe (some (assign (.Name y py) X.env)) (fun _ s'=>SP X ae D0 .next s') dg C) S (G:=fun _=>True) (fun _ _=>.inl hc) c1 c2 hg ht he I2 T qr f2 (fun D hD=>(hw D hD).g) fun D C H' s' fC I' hm q=>?_;obtain⟨m,hm⟩:=hm;obtain⟨g0,g1,_,g3,g4,g5⟩:=fC;show wpAny _ X.A (assign (.Name y py) X.env (.ref D)) _ _ _;refine wpAny_assign_Name (jj I' hN w4 (.inl hy) (v:=.ref D) rfl (fun E3 Xj sb=>?_) (.inr hy));obtain⟨a,sb,ha⟩:=sb;have ka:C≠a:=by
  rcases ha with z|z
  .rw[z];exact g1
  .exact fun z'=>g4 y a z z'.symm
 refine⟨m,hm.sameBut sb ka,fun h' Xk=>⟨_,H',Xj.turned (t':=E3.toks) (fun b o hb e=>(Xk.2 b hb).trans e) g0 g1 g3 g4 g5,q⟩⟩
end
structure Ci(P:Program)(w:World)(outer:List Env)(H:Hp)(s:Shared)(B:Heap)(p:Addr)(C a0:Value)(H':Hp)(s':Shared):Prop where
 os:s'.os=s.os
 bare:AllBare s'.gens
 bA:ji P w H' B
 keep:∀b o,s.heap.get? b=some o->H b=none->b∉jD outer->B.get? b=some o/\H' b=none
 frame:∀b o,s.heap.get? b=some o->H b=none->b∈jD outer->(∃sl,s'.heap.get? b=some { o with slots:=sl })/\H' b=none
 there:∀b o,s.heap.get? b=some o->H b≠none->∃o',B.get? b=some o'
 gU:∀b xs,H b=some (.tup xs)->H' b=some (.tup xs)
 iJ:∀b o u,H b=some (.qp o u)->H' b=some (.qp o u)
 jx:∀b ps,H b=some (.oM ps)->∃more,H' b=some (.oM (ps++more))
 fl:tX B outer p C s'.heap
def d0(P:Program)(w:World):nV:=fun outer H s E e s'=>∃p C a0 B H',e=.ref p/\Ci P w outer H s B p C a0 H' s'/\E C none H'
section
variable {P:Program} {w:World} {K:PySem.W.Frag} {mg:Str->Option Value} {base:Heap} {N:List Str} {qual:Str} {scope:Scope} {f:Addr} {cd:Value} {A:Around} {outer:List Env} {s:Shared} {H:Hp} {E:XK}
abbrev QW(h:Heap)(l:List Env):Heap:=PySem.W.hideAll h (jD l)
theorem Fc{l:List Env}{H1:Hp}{h:Heap}(ok:ji P w H1 h)(nf:∀b∈jD l,H1 b=none):ji P w H1 (QW h l):=fun a o e=>by
 refine(ok a o e).ng (fun b u hb q=>rC _ q fun z=>?_) (fun _ q=>q) fun _ _ q=>q;have n:=nf b z;rcases hb with rfl|hb
 .rw[n] at e;cases e
 .rw[n] at hb;cases hb
theorem gw{ae:List (Addr×Obj)}{σ:St}{H1:Hp}{s1:Shared}{h':Heap}{e:Addr}{C:Value}{vs:List Value}(I:aF (gu (d0 P w) P w K mg base N qual scope f cd A outer s H E) ae σ H1 s1)(hx:Heap.MadeExcOf s1.heap h' e C vs)(q:E C none H1):
  (gu (d0 P w) P w K mg base N qual scope f cd A outer s H E).xe (.ref e) { s1 with heap:=h' }:=by
 have AJ:jD (envOfC qual scope s.heap.objs.size f cd::outer)=s.heap.objs.size::jD outer:=rfl;have QX:=I.stack;refine wE (B:=QW s1.heap (envOfC qual scope s.heap.objs.size f cd::outer)) (h:=s1.heap) (L:=s.heap.objs.size) I.ok.frames rfl (fun b o z=>PySem.W.of_hideAll _ z)
  (PySem.W.funFrames_hide QX fun env he b hb=>jR.mpr ⟨env,he,hb⟩) hx fun h2 x1 x4=>?_
 have Xl:∀b o,s1.heap.get? b=some o->b∉jD outer->b<s.heap.objs.size->(QW s1.heap (envOfC qual scope s.heap.objs.size f cd::outer)).get? b=some o:=fun b o z hb eW=>
  rC _ z fun m=>by
   rw[AJ] at m;rcases bu.mp m with z'|z'
   .exact absurd eW (by rw[z'];exact gn _)
   .exact hb z'
 refine⟨e,C,.none,_,H1,rfl,⟨I.os,I.bare,Fc I.bA I.rS,fun b o z n hb=>⟨Xl b o (I.base.keep b o z n hb (by intro m;exact absurd (show b∈([]:List Addr) from m) (by simp))) hb (aX z),I.base.free b o z n (by intro m;exact absurd (show b∈([]:List Addr) from m) (by simp))⟩,
  fun b o z n hb=>⟨?_,I.base.free b o z n (by intro m;exact absurd (show b∈([]:List Addr) from m) (by simp))⟩,fun b o z n=>?_,I.base.gU,I.base.iJ,I.base.jx,x1⟩,q⟩
 .obtain⟨sl,z1⟩:=I.base.slot b o z n hb (by intro m;exact absurd (show b∈([]:List Addr) from m) (by simp));obtain⟨_,o',qq,nd⟩:=I.ok.iL.mem hb;have e':o'=o:=bS (qq.symm.trans z);subst e';obtain⟨Ha,z2⟩:=x4 b _ (hx.keeps _ _ z1) nd;exact⟨Ha,z2⟩
 .have QY:b∉jD (envOfC qual scope s.heap.objs.size f cd::outer):=fun m=>by
   rw[AJ] at m;rcases bu.mp m with z'|z'
   .exact absurd (aX z) (by rw[z'];exact gn _)
   .exact n (I.ok.AK b z')
  obtain⟨o',z1⟩:=I.base.there b o z (by intro m;exact absurd (show b∈([]:List Addr) from m) (by simp));exact⟨o',rC _ z1 QY⟩
theorem o0{E':XK}(hE:∀C d H',E' C d H'->E C d H'):eY (d0 P w) (gu (d0 P w) P w K mg base N qual scope f cd A outer s H E) E':=by
 intro ae σ H1 s1 e s' I h;obtain⟨p,C,a0,B,H',rfl,F,q⟩:=h;have AJ:jD (envOfC qual scope s.heap.objs.size f cd::outer)=s.heap.objs.size::jD outer:=rfl;have lR:∀b:Addr,b∉(gu (d0 P w) P w K mg base N qual scope f cd A outer s H E).ex:=fun b m=>absurd (show b∈([]:List Addr) from m) (by simp);have Vw:∀b o,s.heap.get? b=some o->b∉jD outer->b∉jD (gu (d0 P w) P w K mg base N qual scope f cd A outer s H E).stack:=fun b o z hb m=>by
  have m':b∈s.heap.objs.size::jD outer:=m;rcases bu.mp m' with z'|z'
  .exact absurd (aX z) (by rw[z'];exact gn _)
  .exact hb z'
 show wpAny _ _ (leaving (envOfC qual scope s.heap.objs.size f cd) (.ref p)) _ _ s';refine Be (outer:=outer) (L:=s.heap.objs.size) I.ok.frames rfl F.fl fun h2 x1 x2=>?_;refine⟨p,C,a0,B,H',rfl,⟨F.os.trans I.os,F.bare,F.bA,fun b o z n hb=>?_,fun b o z n hb=>?_,fun b o z n=>?_,fun b xs z=>F.gU b xs (I.base.gU b xs z),fun b o u z=>F.iJ b o u (I.base.iJ b o u z),fun b ps z=>?_,x1⟩,hE _ _ _ q⟩
 .exact F.keep b o (I.base.keep b o z n hb (lR b)) (I.base.free b o z n (lR b)) (Vw b o z hb)
 .obtain⟨sl,z1⟩:=I.base.slot b o z n hb (lR b);have ym:b∈jD (gu (d0 P w) P w K mg base N qual scope f cd A outer s H E).stack:=b_ _ hb;obtain⟨⟨Ha,z2⟩,n2⟩:=F.frame b _ z1 (I.base.free b o z n (lR b)) ym;obtain⟨_,o',qq,nd⟩:=I.ok.iL.mem hb;have e':o'=o:=bS (qq.symm.trans z);subst e';obtain⟨Xm,z3⟩:=x2 b _ z2 nd;exact⟨⟨Xm,z3⟩,n2⟩
 .obtain⟨o',z1⟩:=I.base.there b o z (lR b);have B6:b∉jD outer:=fun m=>n (I.ok.AK b m);cases n1:H1 b with
  |none=>exact⟨o',(F.keep b o' z1 n1 (Vw b o z B6)).1⟩
  |some u=>exact F.there b o' z1 (by rw[n1];intro z';cases z')
 .obtain⟨m1,z1⟩:=I.base.jx b ps z;obtain⟨m2,z2⟩:=F.jx b _ z1;exact⟨m1++m2,by rw[z2,Array.append_assoc]⟩
theorem IM:PassesOwn (model P w) (gu (d0 P w) P w K mg base N qual scope f cd A outer s H E).A (gu (d0 P w) P w K mg base N qual scope f cd A outer s H E).env (gu (d0 P w) P w K mg base N qual scope f cd A outer s H E).xe:=by
 intro e s' h;exact PassesOwn.leaving (M:=model P w) (A:=A.deeper (envOfC qual scope s.heap.objs.size f cd)) (env:=envOfC qual scope s.heap.objs.size f cd) (Q₁:=fun e E3=>d0 P w outer H s E e E3) (E₁:=fun e' E3=>d0 P w outer H s E e' E3) e s' h
end
theorem mV{P:Program}{w:World}{X:Cx}:eY (d0 P w) X E0:=fun _ _ _ _ _ _ _ h=>by
 obtain⟨_,_,_,_,_,_,_,q⟩:=h;exact q.elim
open PySem PySem.Spec PyProof.Rows PySem.W
abbrev Xn:List Value:=[.type "ValueError",.type "Exception",.type "BaseException",.type "object"]
structure iS(K:PySem.W.Frag)(C:Addr):Prop where
 ex:PySem.W.excIn K C Xn "ValueError.__new__"=true
 kp:PySem.W.keepIn K (.ref C)=true
 ga:PySem.W.findIn K (.ref C) "__getattribute__"=some (some (.builtin "BaseException.__getattribute__"))
 gt:PySem.W.findIn K (.ref C) "__getattr__"=some none
 cl:PySem.W.findIn K (.ref C) "__class__"=some (some (.builtin "object.__class__"))
 mo:PySem.W.mroIn K C (.type "object")=some true
 mb:PySem.W.mroIn K C (.type "BaseException")=some true
 ty:(PySem.W.clsIn K C).isSome=true
theorem ui{K:PySem.W.Frag}{h:Heap}{C:Addr}{Vx:List Value}{Hb:String}(X:K.In h)(q:PySem.W.excIn K C Vx Hb=true):
  ∃bm N nm qn bs hdct sn sub ab col dd k0 k1 k2 k3 k5 mN,h.get? C=some (excClassObj nm qn C N bs bm hdct sn sub ab col dd k0 k1 k2 k3 k5 Hb)/\h.Ns N mN/\mN "__init__"=none/\OwnTail h Vx bm:=by
 unfold PySem.W.excIn at q;split at q
 .rename_i dd cd sl ho;split at q
  .rename_i C' bm k0 k1 k2 k3 n k5 hm hs;simp only[gj,fG,mJ] at q;obtain⟨⟨⟨⟨⟨rfl,rfl⟩,Mo⟩,ht⟩,bA⟩,Mp⟩:=q;obtain⟨nm,bs,mro,ns,qn,hd,sn,sub,ab,col,Z0⟩:=cd;dsimp only at hm Mo bA Mp;subst hm Mo;have La:sl=#[k0,k1,k2,k3,some (.builtin n),k5]:=by
    obtain⟨l⟩:=sl;simp only at hs;rw[hs]
   subst La;exact⟨bm,ns,nm,qn,bs,hd,sn,sub,ab,col,dd,k0,k1,k2,k3,k5,_,X _ _ ho,.of_isNs (isNs_of_in X bA),nsMap_none_of_in X bA Mp,tail_of_in X ht⟩
  .cases q
 .cases q
def Ey(p:Addr)(C:Value)(h:Heap):Prop:=∃o,h.get? p=some o/\o.cls=C/\∃vs,o.data=.fields vs/\vs[2]?=some .none
theorem Ey.nc{p:Addr}{C:Value}{h:Heap}(x:Ey p C h):tY p h:=let ⟨o,a,_,vs,b,c⟩:=x;⟨o,vs,a,b,c⟩
abbrev sq(p:Addr)(C:Value):HO:=.ext (Ey p C)
theorem Ey.ok{P:Program}{w:World}{H:Hp}{h:Heap}{p:Addr}{C:Value}(x:Ey p C h):bK P w H h p (sq p C):=
 ⟨x,(let ⟨o,e,_⟩:=x;⟨o,e⟩),fun h1 h2 ⟨o,e,r⟩ k=>⟨o,k o e,r⟩⟩
theorem bK.get(x:bK P w H h a o):∃u,h.get? a=some u:=by
 cases o with
 |lst xs=>obtain⟨_,_,_,_,e⟩:=x;exact⟨_,e⟩
 |tup xs=>obtain⟨_,_,_,ob,e,_⟩:=x;exact⟨_,e⟩
 |dK cu=>obtain⟨_,_,_,_,o,_,_,e,_⟩:=x;exact⟨_,e⟩
 |dT cu=>obtain⟨_,_,_,_,o,_,_,e,_⟩:=x;exact⟨_,e⟩
 |set S n=>obtain⟨o,_,_,_,e,_⟩:=x;exact⟨_,e⟩
 |ins C dx fs=>obtain⟨_,_,_,e,_⟩:=x;exact⟨_,e⟩
 |own y=>exact x
 |xd fs=>obtain⟨_,⟨_,_,_,e,_⟩,_⟩:=x;exact⟨_,e⟩
 |Em lo hi=>obtain⟨_,_,_,e⟩:=x;exact⟨_,e⟩
 |qp ob u=>obtain⟨e,_⟩:=x;exact⟨_,e⟩
 |oM ps=>exact⟨_,(show h.get? a=some _ from x)⟩
 |met f y=>exact⟨_,(show h.get? a=some _ from x)⟩
 |ext φ=>exact x.2.1
theorem ji.o2(x:ji P w H h)(e:h.get? a=none):H a=none:=by
 cases q:H a with
 |none=>rfl
 |some u=>obtain⟨o,z⟩:=(x a u q).get;rw[e] at z;cases z
theorem aF.Cj(I:aF X ae σ H s)(k:∀b u,s.heap.get? b=some u->h'.get? b=some u)(hp:s.heap.get? a=none)(new:bK X.prog X.w (upd H a o) h' a o):
  aF X ae σ (upd H a o) { s with heap:=h',toks:=t' }:=by
 have hn:=I.bA.o2 hp;have ne:∀b u,s.heap.get? b=some u->b≠a:=fun b u e z=>by rw[z,hp] at e;cases e
 refine I.un ⟨fun b u e _ _ _=>k b u e,fun b u e _ _ _=>⟨u.slots,k b u e⟩,fun b u e n _=>by rw[al (ne b u e)];exact n,fun b u e _=>⟨u,k b u e⟩,fun b xs e=>by rw[al (aq e hn)];exact e,fun b u v e=>by rw[al (aq e hn)];exact e,fun b ps e=>⟨#[],by rw[al (aq e hn),e];simp⟩⟩ fun b u e=>?_;by_cases hb:b=a
 .subst hb;rw[ag] at e;cases e;exact new
 .rw[al hb] at e;exact(I.bA b u e).ng (fun c v _ q=>k c v q) (fun c q=>by rw[al (aq q hn)];exact q) fun c xs q=>by rw[al (aq q hn)];exact q
section
variable {prog:Program} {w:World} {A:Around} {E:Value->Shared->Prop} {s:Shared} {K:PySem.W.Frag} {x C:Addr} {ox:Obj}
theorem yn(hx:h.get? x=some ox)(hc:ox.cls=.ref C):PySem.W.Looks M h (typeOf (.ref x)) (.ref C):=hc ▸ (PySem.W.Looks.ld hx).andThen .now
open Builtin Builtin.ObjectAttr Builtin.Getset_descriptor in
theorem w6(X:K.In s.heap)(hx:s.heap.get? x=some ox)(hc:ox.cls=.ref C)(hm:PySem.W.mroIn K C (.type "object")=some true)(h:R (.ok (.ret (.ref C))) s):codeAny (model prog w) A (.call (.builtin "getset_descriptor.__get__") ⟨[.builtin "object.__class__",.ref x,tp],[]⟩) R s:=by
 obtain⟨hh,g,dr,t,os⟩:=s;have L0:=yn (M:=model prog w) hx hc;have L1:=looks_mroIn (M:=model prog w) X hm;refine v6 KF.slot_gs.plain KF.entry_gs (KF.slot_gs.check _ _ _ _ _ _ _ _ KF.type_class (KF.args_gs _ _ _) ?_);unfold Builtin.«getset_descriptor.__get__» descrGet;rw[dga_obj];refine aw (wpAny_pure ?_);unfold descrGetter descrCheckInstance descrNameAndClass isInstance;simp only[KF.owner_class];repeat lk
 refine⟨Code.quiet_builtin _ (by decide +kernel),oI KF.entry_class ?_⟩;unfold Builtin.«object.__class__» shownTypeOf;repeat lk
 exact h
theorem uj{M:Model}{D:Addr}{b:Bool}{Q:Bool->Shared->Prop}{h:Heap}{g d t os}(X:K.In h)(TD:iS K D)(hx:h.get? x=some ox)(hc:ox.cls=.ref C)(sub:PySem.W.subIn K (.ref C) (.ref D)=some b)(hq:Q b ⟨h,g,d,t,os⟩):
  wpAny M A (excMatches (.ref x) (.ref D)) Q E ⟨h,g,d,t,os⟩:=by
 obtain⟨bm,N,nm,qn,bs,hdct,sn,Xo,ab,col,dd,k0,k1,k2,k3,k5,mN,hC,hN,Mp,TL⟩:=ui X TD.ex;have Xp:(Value.ref D::bm).contains (.type "BaseException")=true:=by rw[List.contains_cons,TL.hasType vt.hasBase,Bool.or_true]
 have L1:=looks_subIn (M:=M) X sub;have f:=tc_notTuple;unfold excMatches;repeat (first|(with_reducible refine oF hx ?_;rw[hc])|with_reducible refine oF hC ?_|with_reducible refine L1.at ?_|(with_reducible refine wpAny_isSubtype_exc hC ?_;rw[Xp])|wp_step)
 cases b
 .repeat (first|exact hq|wp_step)
 .repeat (first|exact hq|wp_step)
theorem zJ{g d t os}(T:iS K C)(X:K.In h)(hx:h.get? x=some ox)(hc:ox.cls=.ref C)(hq:Q (.done (.ret (.ref C))) ⟨h,g,d,t,os⟩):
  wpAny (model prog w) A (Builtin.«object.__getattribute__» ⟨[.ref x,.str "__class__" tk],[]⟩) Q E ⟨h,g,d,t,os⟩:=by
 have f5:=F.typeOf_bexc_args;have Z1:(⟨h,g,d,t,os⟩:Shared).TypeIs (.builtin "object.__class__") "getset_descriptor":=AX;have Z2:=AX;have f6:=F.slot_gs_get.lookup;have f7:=F.slot_gs_set.lookup;have L1:=looks_findIn (M:=model prog w) X T.cl;repeat (any_goals (first|assumption|(with_reducible refine oF hx ?_;rw[hc])|with_reducible refine L1.at ?_|wp_step))
 refine w6 (s:=⟨h,g,d,t,os⟩) X hx hc T.mo ?_;repeat (any_goals (first|assumption|wp_step))
theorem zK{g d t os}(T:iS K C)(X:K.In h)(hx:h.get? x=some ox)(hc:ox.cls=.ref C)(hq:Q () ⟨h,g,d,t,os⟩):
  wpAny M A (checkBuiltinCall "BaseException.__getattribute__" ⟨[.ref x,Mq],[]⟩) Q E ⟨h,g,d,t,os⟩:=by
 have hk:builtinKind "BaseException.__getattribute__"=some .slot:=by decide +kernel
 have IN:splitId "BaseException.__getattribute__"=some ("BaseException","__getattribute__"):=by decide +kernel
 have ha:=F.args_bexc_ga (.ref x) Mq;have L1:=looks_mroIn (M:=M) X T.mb;simp only[checkBuiltinCall,hk,IN];refine aw ?_
 .unfold isInstance;repeat (first|(with_reducible refine oF hx ?_;rw[hc])|with_reducible refine L1.at ?_|wp_step)
  exact hq
theorem IP{tk:Tok}{fill ET:Bool}{Q:Value->Shared->Prop}{h:Heap}{g d t os}(T:iS K C)(X:K.In h)(hx:h.get? x=some ox)(hc:ox.cls=.ref C)(hq:Q (.ref C) ⟨h,g,d,t,os⟩):
  wpAny (model prog w) A (getAttrBy (.ref x) (.str "__class__" tk) fill ET) Q E ⟨h,g,d,t,os⟩:=by
 have f3:=F.attr_ValueError.ga.bind (.ref x);have Z3:(ET&&onTheHeap (Value.builtin "BaseException.__getattribute__"))=false:=by cases ET <;> rfl
 have Xq:(Value.builtin "BaseException.__getattribute__"==Value.builtin "object.__getattribute__")=false:=by decide +kernel
 have Z4:(onTheHeap (Value.ref C)&&Value.builtin "BaseException.__getattribute__"==Value.builtin "object.__getattribute__")=false:=by rw[Xq];rfl
 have L1:=looks_findIn (M:=model prog w) X T.ga;have L2:=looks_findIn (M:=model prog w) X T.gt;repeat (any_goals (first|assumption|(with_reducible refine oF hx ?_;rw[hc])|with_reducible refine L1.at ?_|with_reducible refine L2.at ?_|wp_step))
 refine v6 F.attr_ValueError.ga.plain F.entry_bexc_ga (zK T X hx hc (zJ T X hx hc ?_));repeat (any_goals (first|assumption|wp_step))
theorem Ck{Q:Option Value->Shared->Prop}{h:Heap}{g d t os}(T:iS K C)(X:K.In h)(hx:h.get? x=some ox)(hc:ox.cls=.ref C)(hq:Q (some (.ref C)) ⟨h,g,d,t+1,os⟩):
  wpAny (model prog w) A (getAttr? (.ref x) "__class__") Q E ⟨h,g,d,t,os⟩:=by
 unfold getAttr?;repeat (any_goals (first|assumption|with_reducible apply IP T X hx hc|wp_step))
theorem uk(T:iS K C):PySem.W.KitX K (.ref x) (.ref C) (Ey x (.ref C)) where
 ty:=fun _ _ _ ⟨o,e,c,_⟩=>yn e c
 it:=fun _ _ X _=>by
  obtain⟨Xr,EV⟩:=vA.mp T.ty;unfold clsIn at EV;split at EV
  .rename_i c' d' Xs Qo ho;intro A' Q' E' s' k q;unfold isType loadHead;exact aw (wpAny_loadPart (k _ _ (X _ _ ho)) (wpAny_pure q))
  .cases EV
 ne:=fun h tp dd its n sl X QZ=>by
  obtain⟨Xr,EV⟩:=vA.mp T.ty;refine mK.mpr fun q=>?_;have e:C=tp:=Value.ref.inj (fG.mp q);subst e;unfold clsIn at EV;split at EV
  .rename_i c' d' Xs Qo ho;have z:=(X _ _ ho).symm.trans QZ;cases z
  .cases EV
 ca:=fun {_ _ _ _ _ s} X ⟨o,e,c,_⟩ k=>by
  obtain⟨h,g,d,t,os⟩:=s;exact Ck T X e c k
end
section
variable {X:Cx}
inductive IQ (K:PySem.W.Frag) (H:Hp):V->Value->Prop where
 |of {v:V} {t:Value} (h:lZ K H v t):IQ K H v t
 |exc {p C:Addr} (T:iS K C) (e:H p=some (sq p (.ref C))):IQ K H (.ref p) (.ref C)
def Mr(K:PySem.W.Frag):List V->Hp->VK->Prop:=fun xs H Q=>∃x c cv t b,xs=[x,c]/\(c=.ty cv/\PySem.W.kitOne K t (.type cv)=some b)/\IQ K H x t/\Q (.bl b) H
theorem dz:eM X (.builtin "isinstance") (Mr X.K):=by
 intro ae s σ H xs us Q I r h;obtain⟨x,c,cv,t,b,rfl,⟨rfl,e⟩,ty,q⟩:=h;obtain⟨u1,u2,rfl,r1,r2⟩:=r.two;obtain rfl:u2=Value.type cv:=r2;cases ty with
 |of ty=>exact qu I r1 ty e fun tk=>⟨.bl b,H,I.tok tk,rfl,q⟩
 |@exc p C T ea=>
  obtain rfl:u1=Value.ref p:=r1;have p1:Ey p (.ref C) s.heap:=(I.bA p _ ea).1;exact gm (uk T) I.j5 p1 e (fun z=>nomatch z) fun tk=>⟨.bl b,H,I.tok tk,rfl,q⟩
def Ms(K:PySem.W.Frag):List V->Hp->VK->Prop:=fun xs H Q=>∃x c t b,xs=[x,.ref c]/\PySem.W.kitOne K t (.ref c)=some b/\IQ K H x t/\Q (.bl b) H
theorem cy:eM X (.builtin "isinstance") (Ms X.K):=by
 intro ae s σ H xs us Q I r h;obtain⟨x,c,t,b,rfl,e,ty,q⟩:=h;obtain⟨u1,u2,rfl,r1,r2⟩:=r.two;obtain rfl:u2=Value.ref c:=r2;cases ty with
 |of ty=>exact qu I r1 ty e fun tk=>⟨.bl b,H,I.tok tk,rfl,q⟩
 |@exc p C T ea=>
  obtain rfl:u1=Value.ref p:=r1;have p1:Ey p (.ref C) s.heap:=(I.bA p _ ea).1;exact gm (uk T) I.j5 p1 e (fun z=>nomatch z) fun tk=>⟨.bl b,H,I.tok tk,rfl,q⟩
end
section
variable {X:Cx} {x:Str} {C:Addr} {np nq pos:Pos} {e:Expr} {es:List Expr} {t:TA}
def IR(q:Hp->Prop)(t:TA):TS:=fun _ σ H=>t σ H fun vs H1=>vs.length<=sizeLine/\q H1
theorem gy{q:Hp->Prop}(hc:X.calm=true)(T:iS X.K C)(hg:Gl X x)(hm:X.mg x=some (.ref C))(ha:PA X (e::es) t)(Xt:∀ (ae:List (Addr×Obj)) (σ:St) (H1:Hp) (s1:Shared) (h':Heap) (p:Addr) (vs:List Value),aF X ae σ H1 s1->Heap.MadeExcOf s1.heap h' p (.ref C) vs->q H1->X.xe (.ref p) { s1 with heap:=h' })(nk:(x==("__debug__":Str))=false:=by decide)(he:starEach (e::es) X.env=(false,eval e X.env)::starEach es X.env:=by rfl)(mL:(backTo nq (starEach (e::es) X.env)).any (·.1)=false:=by rfl):
  PS X (.Raise (some (.Call (.Name x np) (e::es) [] nq)) none pos) (IR q t):=by
 intro ae s σ H D I h;obtain⟨bm,N,nm,qn,bs,hdct,sn,sub,ab,col,dd,k0,k1,k2,k3,k5,mN,hC,hN,Mp,TL⟩:=ui I.ok.mod.Eo T.ex;refine wpAny_Raise_call_subT (C:=C) (nm:=nm) (q:=qn) (N:=N) (bs:=bs) (bm:=bm) (hdct:=hdct) (sn:=sn) (sub:=sub) (ab:=ab) (col:=col) (dd:=dd) (k0:=k0) (k1:=k1) (k2:=k2) (k3:=k3) (k5:=k5)
  vt (mN:=mN) (TL.hasType vt.hasBase) (I.ok.hd hc) mL Mp (jk I hg hm ⟨rfl,?_⟩ nk)
 have h1:=ha nq ae s σ H _ I h;rw[he] at h1 |-;exact Calls.evalArgs_plain (f_ h1 (fun us s2 ⟨vs,H2,I2,r,hl,z⟩=>⟨rfl,(by show us.length<=sizeLine;rw[<-r.length];exact hl),I2.bk _ _ hC,hN.keeps I2.bk,TL.keeps I2.bk,fun h' p m=>Xt ae σ H2 s2 h' p us I2 m z⟩) fun _ _ y=>y)
end
def kX(CX:nV)(X:Cx)(E:St->XK):Prop:=∀ (ae:List (Addr×Obj)) (σ:St) (H:Hp) (s:Shared) (e:Value) (s':Shared),aF X ae σ H s->CX X.stack H s (E σ) e s'->X.xe e s'
def su(sp:Sp)(ik:List V)(E:St->XK)(t:TA):TE:=fun σ H Q=>t σ H fun vs H1=>sp (vs++ik) H1 Q (E σ)
section
variable {X:Cx} {CX:nV} {k:Nat} {f C:Addr} {fd:FuncData} {ps:List Str} {sp:Sp} {ik:List V} {ds:List Value} {E:St->XK} {x m:Str} {p pos nj:Pos} {e o:Expr} {es:List Expr} {ta:TE} {t:TA}
theorem Fe{ae:List (Addr×Obj)}{σ:St}{H:Hp}{s:Shared}{Q:VK}{us:List Value}{vs:List V}(F:a7 X.prog X.w X.K X.mg X.base CX k f fd ps sp)(hr:bv k X.A)(hb:eO X.K fd ps ds)(hd:aR ik ds)(hx:kX CX X E)(I:aF X ae σ H s)(r:aR vs us)(h:sp (vs++ik) H Q (E σ)):wpAny (model X.prog X.w) X.A (call (.ref f) us) (EP X ae σ Q) X.xe s:=by
 have r2:aR (vs++ik) (us++ds):=r.append hd;have hl:(us++ds).length=ps.length:=by rw[<-r2.length];exact F.len _ _ _ _ h
 refine lP (iF (F.run X.A X.stack s H ⟨us,[]⟩ (us++ds) (vs++ik) Q (E σ) hr I.EY (hb s us I.j5 hl) r2 h) fun r s' hq=>?_);cases r with
 |error e=>exact hx ae σ H s e s' I hq
 |ok fl=>
  cases fl with
  |ret u=>exact I.after hq
  |next=>exact False.elim hq
  |brk=>exact False.elim hq
  |cont=>exact False.elim hq
theorem Cm(F:a7 X.prog X.w X.K X.mg X.base CX k f fd ps sp)(hr:bv k X.A)(hg:Gl X x)(hm:X.mg x=some (.ref f))(hk:PySem.W.keepIn X.K (.ref f)=true)(hb:eO X.K fd ps ds)(hd:aR ik ds)(hx:kX CX X E)(ha:PA X (e::es) t)(nk:(x==("__debug__":Str))=false:=by decide)(he:starEach (e::es) X.env=(false,eval e X.env)::starEach es X.env:=by rfl)(mL:(backTo pos (starEach es X.env)).any (·.1)=false:=by rfl):
  PE X (.Call (.Name x p) (e::es) [] pos) (su sp ik E t):=by
 intro ae s σ H Q I h;refine jS (jk I hg hm ?_ nk);refine oA (h₀:=X.base) I.ok.mod.Eo hk (cn (ha pos ae s σ H _ I h) fun us s1 ⟨vs,H1,I1,r,q⟩=>⟨I1.j5,?_⟩) he mL;exact Fe F hr hb hd hx I1 r q
end
structure jF(k:Nat)(A:Around):Prop where
 dp:A.depth+3*k+5<recursionLimit
 un:A.units+16*k+200<cLine
theorem jF.deeper{k:Nat}{A:Around}(r:jF (k+1) A)(env:Env):jF k (A.deeper env):=
 ⟨by have:=r.dp;show A.depth+1+3*k+5<_;lia,by have:=r.un;show A.units+3+16*k+200<_;lia⟩
theorem jF.depth{k:Nat}{A:Around}(r:jF k A):A.depth<recursionLimit:=by have:=r.dp;lia
def qC(CX:nV)(P:Program)(w:World)(K:PySem.W.Frag)(mg:Str->Option Value)(base:Heap)(N:List Str)(qual:Str)(scope:Scope)(f:Addr)(cd:Value)(A:Around)(outer:List Env)(s:Shared)(H:Hp)(E:XK):Cx:=
 { gu CX P w K mg base N qual scope f cd A outer s H E with calm:=false }
theorem w9{CX:nV}{P:Program}{w:World}{K:PySem.W.Frag}{mg:Str->Option Value}{base:Heap}{N ps:List Str}{qual:Str}{scope:Scope}{f:Addr}{cd:Value}{A:Around}{outer:List Env}{s s1:Shared}{H:Hp}{E:XK}{us:List Value}{vs:List V}(S:aA N ps scope)(e0:se P w K mg base A outer s H)(hl:vs.length=ps.length)(r:aR vs us)(x:InCallC s s.heap.objs.size (bindL (envOfC qual scope s.heap.objs.size f cd).kindOf (ps.zip us) fun _=>none) (cellsFrom (s.heap.objs.size+1) scope.names []) (bindC (envOfC qual scope s.heap.objs.size f cd).kindOf (ps.zip us) fun _=>none) s1):
  aF (qC CX P w K mg base N qual scope f cd A outer s H E) [] (start N vs) H s1:=by
 have mL:ps.length<=N.length:=by have:=congrArg List.length S.pre;rw[kI] at this;lia
 obtain⟨h1,tk,rfl,hk⟩:=x.done;have Et:∀b:Addr,b∉(qC CX P w K mg base N qual scope f cd A outer s H E).ex:=fun b z=>absurd (show b∈([]:List Addr) from z) (by simp);refine⟨⟨e0.mod,S.kind,rfl,rfl,aO _,fun y z c h1 h2=>?_,fun y hy=>?_,fun y c _ h=>?_,fun z=>absurd (show false=true from z) (by decide),Around.frames_deeper e0.frames,.inr ⟨rfl,rfl⟩,fun b z=>absurd z (Et b),e0.bs,e0.zq,fun b _ _=>Et b,fun b z=>absurd z (Et b),e0.iL,e0.AK⟩,
  rfl,e0.bare,Un.kept hk,⟨_,x.toInCall.ns,fun i y v h1 h2 h3=>?_⟩,fun y c h=>⟨_,x.cell y c h⟩,e0.bA.fresh (aO _),fun y c h=>?_,fun p hp=>absurd (show p∈([]:List (Addr×Obj)) from hp) (by simp),e0.bA.kept hk,?_⟩
 .exact name_of_addr x.apart (gh h1) (gh h2)
 .have hy:scope.names.lookup y=some .cell\/scope.names.lookup y=some .free:=hy;rcases hy with hy|hy
  .exact kQ hy
  .exact absurd rfl (S.BW _ (gh hy))
 .exact gP (x.above y c (gh h))
 .have hi:i<vs.length:=by
   unfold start at h2;by_cases hi:i<vs.length
   .exact hi
   .rw[oo (by simpa using hi)] at h2;rw[vD] at h2;split at h2 <;> cases h2
  have ha:vs[i]?=some v:=by
   unfold start at h2;rw[mB (by simpa using hi),bX] at h2;cases e:vs[i]? with
   |none=>rw[e] at h2;cases h2
   |some a=>rw[e] at h2;cases h2;rfl
  obtain⟨u,hu,rv⟩:=r.get ha;have hp:ps[i]?=some y:=by
   rw[<-S.pre,ot (by lia)];exact h1
  have L5:ps.Nodup:=by rw[<-S.pre];exact S.nd.sublist (List.take_sublist _ _)
  refine⟨u,rv,?_⟩;rcases S.par y (cY hp) with k|k
  .exact .inl ⟨k,l6 L5 hp hu k⟩
  .obtain⟨c,e⟩:=kQ (n:=s.heap.objs.size+1) k;refine .inr ⟨.inl k,c,e,?_⟩;have q:=x.cell y c e;rw[l7 L5 hp hu (by show scope.names.lookup y≠_;rw[k];decide)] at q;exact q
 .exact e0.bA.fresh (gP (x.above y c (gh h)))
 .unfold start;show _=N.length;rw[cz,bp,oj];lia
section
variable {X:Cx} {CX:nV} {k:Nat} {f:Addr} {fd:FuncData} {ps:List Str} {sp:Sp} {ik:List V} {ds:List Value} {E:XK} {x:Str} {p pos:Pos} {e:Expr} {es:List Expr} {t:TA}
end
section
variable {P:Program} {w:World} {K:PySem.W.Frag} {mg:Str->Option Value} {base:Heap}
theorem dH.Ez{x qual:Str}{st:Stmt}{f:Addr}{fd:FuncData}{N ps:List Str}{k:Nat}{sp:Sp}(F:dH K x qual st f fd)(S:aA N ps (ak st))(len:∀vs H Q E,sp vs H Q E->vs.length=ps.length)(iP:∀ (ce:Value) (A:Around) (outer:List Env) (s:Shared) (H:Hp) (vs:List V) (Q:VK) (E:XK),bv k (A.deeper (envOfC qual (ak st) s.heap.objs.size f ce))->sp vs H Q E->
   ∃t,pL (gu (d0 P w) P w K mg base N qual (ak st) f ce A outer s H E) (bt st) t/\t { nx:=fun _ H'=>Q .bi H',rt:=Q } (start N vs) H):a7 P w K mg base (d0 P w) (k+1) f fd ps sp:=by
 obtain⟨oc,od,kV,jo,pm,an,ce,ct,qx,rfl,lk,mQ⟩:=F.ex;exact BY lk mQ S len fun A outer s H vs Q E hr ue=>iP ce A outer s H vs Q E hr ue
end
abbrev Cx.eZ(X:Cx)(pn:List (Addr×Obj))(xe:Value->Shared->Prop):Cx:={ X with pn:=pn,xe:=xe }
abbrev Cx.dR(X:Cx)(pn:List (Addr×Obj))(p:Addr):Cx:={ X with pn:=pn,xe:=fun _ _=>False,calm:=false,A:=X.A.mark (some (.ref p)) }
theorem Cx.Ok.eZ{X:Cx}(ok:X.Ok)(pn:List (Addr×Obj))(xe:Value->Shared->Prop):(X.eZ pn xe).Ok:=
 ⟨ok.mod,ok.kind,ok.glob,ok.blt,ok.above,ok.inj,ok.has,ok.Ih,ok.hd,ok.frames,ok.AJ,ok.LA,ok.bs,ok.zq,ok.lR,ok.zu,ok.iL,ok.AK⟩
theorem Cx.Ok.dR{X:Cx}(ok:X.Ok)(pn:List (Addr×Obj))(p:Addr):(X.dR pn p).Ok:=
 ⟨ok.mod,ok.kind,ok.glob,ok.blt,ok.above,ok.inj,ok.has,ok.Ih,fun z=>absurd (show false=true from z) (by decide),ok.frames,ok.AJ,ok.LA,ok.bs,ok.zq,ok.lR,ok.zu,ok.iL,ok.AK⟩
section
variable {X:Cx} {ae:List (Addr×Obj)} {σ:St} {H:Hp} {s:Shared}
theorem aF.eZ(I:aF X ae σ H s)(xe:Value->Shared->Prop):aF (X.eZ (X.pn++ae) xe) [] σ H s:=
 ⟨I.ok.eZ _ _,I.os,I.bare,I.base,I.loc,I.cell,I.free,I.fJ,fun p hp=>I.pin p (by simpa using hp),I.bA,I.len⟩
theorem aF.kY{oO:List (Addr×Obj)}{xe:Value->Shared->Prop}(ok:X.Ok)(I:aF (X.eZ (X.pn++ae) xe) oO σ H s):aF X ae σ H s:=
 ⟨ok,I.os,I.bare,I.base,I.loc,I.cell,I.free,I.fJ,fun p hp=>I.pin p (ix _ hp),I.bA,I.len⟩
theorem aF.w_{oO:List (Addr×Obj)}{p:Addr}(ok:X.Ok)(I:aF (X.dR (X.pn++ae) p) oO σ H s):aF X ae σ H s:=
 ⟨ok,I.os,I.bare,I.base,I.loc,I.cell,I.free,I.fJ,fun p hp=>I.pin p (ix _ hp),I.bA,I.len⟩
theorem sv{xe:Value->Shared->Prop}{oO:List (Addr×Obj)}{B h6:Heap}{p:Addr}{C a0:Value}{H':Hp}{s':Shared}(ok:X.Ok)(I:aF (X.eZ (X.pn++ae) xe) oO σ H s)(F:Ci X.prog X.w X.stack H s B p C a0 H' s')(fl:tX B X.stack p C h6)(sm:s'.heap.UpToSlots h6):
  H' p=none/\aF (X.dR (X.pn++ae) p) [] σ (upd H' p (sq p C)) { s' with heap:=h6 }:=by
 have hp:H' p=none:=F.bA.o2 fl.new;have QY:∀b∈jD X.stack,b≠p:=fun b hb z=>by
  obtain⟨_,o,ho,nd⟩:=fl.frames.mem hb;obtain⟨oe,vs,he,_,hd,_⟩:=fl.there;rw[z] at ho;have e:o=oe:=bS (ho.symm.trans he);rw[e] at nd;exact nd vs hd
 have ne:∀b o,s.heap.get? b=some o->H b=none->b≠p:=fun b o e n z=>by
  by_cases hb:b∈jD X.stack
  .exact QY b hb z
  .have q:=(F.keep b o e n hb).1;rw[z,fl.new] at q;cases q
 have neT:∀ {b:Addr} {u:HO},H' b=some u->b≠p:=fun {b u} e z=>by rw[z,hp] at e;cases e
 have U:Un (jD X.stack) [] H (upd H' p (sq p C)) s.heap h6:={
  keep:=fun b o e n hb _=>fl.stays _ _ (F.keep b o e n hb).1
  slot:=fun b o e n hb _=>by
   obtain⟨⟨sl,q⟩,_⟩:=F.frame b o e n hb;obtain⟨_,o',qq,nd⟩:=F.fl.frames.mem hb;have e':o'={ o with slots:=sl }:=bS (qq.symm.trans q);obtain⟨Ha,q2⟩:=sm b o' qq nd;rw[e'] at q2;exact⟨Ha,q2⟩
  free:=fun b o e n _=>by
   rw[al (ne b o e n)];by_cases hb:b∈jD X.stack
   .exact(F.frame b o e n hb).2
   .exact(F.keep b o e n hb).2
  there:=fun b o e _=>by
   cases n:H b with
   |none=>
    by_cases hb:b∈jD X.stack
    .obtain⟨_,o',qq,nd⟩:=fl.frames.mem hb;exact⟨o',qq⟩
    .exact⟨o,fl.stays _ _ (F.keep b o e n hb).1⟩
   |some u=>
    obtain⟨o',q⟩:=F.there b o e (by rw[n];intro z;cases z);exact⟨o',fl.stays _ _ q⟩
  gU:=fun b xs e=>by rw[al (neT (F.gU b xs e))];exact F.gU b xs e
  iJ:=fun b o u e=>by rw[al (neT (F.iJ b o u e))];exact F.iJ b o u e
  jx:=fun b ps e=>by
   obtain⟨m,q⟩:=F.jx b ps e;exact⟨m,by rw[al (neT q)];exact q⟩ }
 have bA:ji X.prog X.w (upd H' p (sq p C)) h6:=fun b u e=>by
  by_cases hb:b=p
  .subst hb;rw[ag] at e;cases e;obtain⟨o,vs,q,c,d1,d2⟩:=fl.there;exact Ey.ok ⟨o,q,c,vs,d1,d2⟩
  .rw[al hb] at e;exact(F.bA b u e).ng (fun c v _ q=>fl.stays c v q) (fun c q=>by rw[al (neT q)];exact q) fun c xs q=>by rw[al (neT q)];exact q
 have J:=I.G7 (s':={ s' with heap:=h6 }) (ch:=[]) F.os U bA F.bare fun b z=>absurd z (by simp);exact⟨hp,⟨ok.dR _ _,J.os,J.bare,J.base,J.loc,J.cell,J.free,J.fJ,fun q hq=>J.pin q (ix _ (by simpa using hq)),J.bA,J.len⟩⟩
end
def Mt(K:PySem.W.Frag)(Dc:Addr)(i:Nat)(E:St->XK)(tb:TS)(th:Addr->TS):TS:=fun D σ H=>tb D σ H/\∀σ' C H',E σ' C none H'->PySem.W.subIn K C (.ref Dc)=some true/\(∃Cc,C=.ref Cc)/\
 ∀p,H' p=none->th p { nx:=fun σ2 H2=>D.nx (σ2.set i none) H2,rt:=D.rt,bk:=fun σ2 H2=>D.bk (σ2.set i none) H2,ct:=fun σ2 H2=>D.ct (σ2.set i none) H2 } (σ'.set i (some (.ref p))) (upd H' p (sq p C))
theorem IS{X:Cx}{body ul:List Stmt}{b₀:Stmt}{x n:Str}{np um pos:Pos}{Dc:Addr}{i:Nat}{E:St->XK}{tb:TS}{th:Addr->TS}(TD:iS X.K Dc)(hg:Gl X x)(hm:X.mg x=some (.ref Dc))(eV:X.stack=X.env::X.outer)(Bd:X.env.frame=some X.env.locals)(hN:X.N.Nodup)(hi:X.N[i]?=some n)(hn:X.env.scope.names.lookup n=some .local)(hb:∀pn xe,kX (d0 X.prog X.w) (X.eZ pn xe) E->pL (X.eZ pn xe) body tb)(hh:∀pn p,pL (X.dR pn p) (b₀::ul) (th p))(nk:(x==("__debug__":Str))=false:=by decide):
  PS X (.Try body [.ExceptHandler (some (.Name x np)) (some n) (b₀::ul) um] [] [] pos) (Mt X.K Dc i E tb th):=by
 intro ae s σ H D I h;obtain⟨h1,h2⟩:=h;refine wpAny_Try_except ?_;have Ii:(X.env.scope.kind==.class||(X.env.scope.kind==.module&&X.env.locals != X.env.globals))=false:=by rw[I.ok.kind];rfl
 refine f_ (hb (X.pn++ae) _ ?_ [] s σ H D (I.eZ _) h1) (fun f s1 q=>?_) fun e s1 q=>q
 .-- an exception has Xu
  intro Vy σ1 H1 s1 e s' I1 Xv;obtain⟨p,C,a0,B,H',rfl,F,q⟩:=Xv;obtain⟨Q0,⟨Cc,Xw⟩,Xx⟩:=h2 σ1 C H' q;subst Xw;have F':Ci X.prog X.w X.stack H1 s1 B p (.ref Cc) a0 H' s':=F;have Vz:=F'.fl;rw[eV] at Vz;refine xX (by rw[I.ok.frames,eV]) Bd Vz fun h4 Mu zL=>?_;refine fS Mu fun h5 Q3 Xy=>?_;have Hd:∀b o,X.base.get? b=some o->h5.get? b=some o:=fun b o e=>by
   obtain⟨e1,n1⟩:=I1.bs b o e;refine Q3.stays _ _ (F'.keep b o e1 n1 fun z=>?_).1;have:=(I1.stack.mem z).1;rw[e] at this;cases this
  have Q4:X.K.In h5:=I.ok.mod.Eo.keeps Hd;obtain⟨oe,_,Xz,K7,_⟩:=Q3.there;refine wpAny_handleBy_cons (codeAny_handlers_test (vE I.ok.kind hg (Calls.loadGlobal_global (by rw[I.ok.glob];exact I.ok.mod.glob.keeps Hd) hm ?_) nk)) (by intro z;cases z);refine uj (K:=X.K) Q4 TD Xz K7 Q0 ?_;show codeAny _ _ _ _ _;refine codeAny_handlers_suite_as ?_;refine fS Q3 fun h6 XA Cn=>?_;have Q5:tX B X.stack p (.ref Cc) h6:=by rw[eV];exact XA
  obtain⟨hp,IH⟩:=sv I.ok I1 F' Q5 ((zL.trans Xy).trans Cn);refine jj (X:=X.dR (X.pn++ae) p) IH hN hi (.inl hn) (v:=.ref p) rfl (fun s7 I7 _=>?_) (.inr hn);refine f_ (hh _ p [] s7 _ _ _ I7 (Xx p hp)) (fun f s8 q8=>?_) fun _ _ z=>z.elim;have Ff:∀ {σ2:St} {H2:Hp} {Q:Unit->Shared->Prop},aF (X.dR (X.pn++ae) p) [] σ2 H2 s8->(∀s9,aF X ae (σ2.set i none) H2 s9->Q () s9)->
    wpAny (model X.prog X.w) X.A (do bindName X.env n .none;unbindBehindTheSuite X.env n um) Q X.xe s8:=fun {σ2 H2 Q} I8 k=>by
   have XB:aF X ae σ2 H2 s8:=I8.w_ I.ok;refine aw (wpAny_bindName (jj XB hN hi (.inl hn) (v:=.bi) rfl (fun s9 I9 _=>?_) (.inr hn)));obtain⟨m,VA,VB⟩:=I9.loc;have hiσ:i<(σ2.set i (some V.bi)).length:=by rw[I9.len];exact(cV.mp hi).1
   have hiσ2:i<σ2.length:=by simpa using hiσ
   obtain⟨u,ru,lk⟩:=VB i n .bi hi (by rw[oh hiσ2]) (.inl hn);have XC:m n=some u:=by
    rcases lk with ⟨_,z⟩|⟨hk,_⟩
    .exact z
    .have PC:X.env.scope.names.lookup n=some .cell\/X.env.scope.names.lookup n=some .free:=hk;rw[hn] at PC;rcases PC with z|z <;> cases z
   unfold unbindBehindTheSuite;refine wpAny_onRaise (wpAny_unbindName_local hn VA XC Ii fun h' uu K6 sb=>k _ ?_);obtain⟨oL,_,_,EM,_⟩:=id VA;have bA:ji X.prog X.w H2 h':=fun b ob e=>by
    refine(I9.bA b ob e).ng (fun c w' hc q=>(sb.2 c ?_).trans q) (fun _ q=>q) fun _ _ q=>q;rintro rfl;rcases hc with rfl|hc
    .rw[I9.free] at e;cases e
    .rw[I9.free] at hc;cases hc
   have nL:∀b o,X.s₀.heap.get? b=some o->b≠X.env.locals:=fun b o e=>aZ (cM (aX e) I9.ok.above);refine⟨I9.ok,I9.os,I9.bare,⟨fun b o e n' hb hx=>(sb.2 b (nL b o e)).trans (I9.base.keep b o e n' hb hx),fun b o e n' hb hx=>?_,I9.base.free,fun b o e hx=>?_,I9.base.gU,I9.base.iJ,I9.base.jx⟩,⟨_,K6,fun j y v e1 e2 e3=>?_⟩,fun y c e=>?_,I9.free,I9.fJ,fun q hq=>?_,bA,by simpa using I9.len⟩
   .obtain⟨sl,e1⟩:=I9.base.slot b o e n' hb hx;exact⟨sl,(sb.2 b (nL b o e)).trans e1⟩
   .obtain⟨o',e1⟩:=I9.base.there b o e hx;exact⟨o',(sb.2 b (nL b o e)).trans e1⟩
   .by_cases hj:j=i
    .subst hj;rw[oh hiσ2] at e2;cases e2
    .rw[lA (ci hj)] at e2;obtain⟨u',r',l'⟩:=VB j y v e1 (by rw[lA (ci hj)];exact e2) e3;refine⟨u',r',?_⟩;rcases l' with ⟨k1,z⟩|⟨k1,c,z1,z2⟩
     .have:y≠n:=fun e=>hj (oP hN e1 (e ▸ hi));exact .inl ⟨k1,by simp[this,z]⟩
     .exact .inr ⟨k1,c,z1,z2.sameBut sb (I9.EL y c z1)⟩
   .obtain⟨w',z⟩:=I9.cell y c e;exact⟨w',z.sameBut sb (I9.EL y c e)⟩
   .obtain⟨e,n',ne,nf,d⟩:=I9.pin q hq;exact⟨(sb.2 q.1 ne).trans e,n',ne,nf,d⟩
  cases f with
  |next=>obtain⟨σ2,H2,I8,q8⟩:=q8;exact Ff I8 fun s9 I9=>⟨_,H2,I9,q8⟩
  |brk=>obtain⟨σ2,H2,I8,q8⟩:=q8;exact Ff I8 fun s9 I9=>⟨_,H2,I9,q8⟩
  |cont=>obtain⟨σ2,H2,I8,q8⟩:=q8;exact Ff I8 fun s9 I9=>⟨_,H2,I9,q8⟩
  |ret u=>obtain⟨v,σ2,H2,I8,r8,q8⟩:=q8;exact Ff I8 fun s9 I9=>⟨v,_,H2,I9,r8,q8⟩
 .cases f with
  |next=>obtain⟨σ2,H2,I8,q8⟩:=q;exact oH ⟨σ2,H2,I8.kY I.ok,q8⟩
  |brk=>obtain⟨σ2,H2,I8,q8⟩:=q;exact⟨σ2,H2,I8.kY I.ok,q8⟩
  |cont=>obtain⟨σ2,H2,I8,q8⟩:=q;exact⟨σ2,H2,I8.kY I.ok,q8⟩
  |ret u=>obtain⟨v,σ2,H2,I8,r8,q8⟩:=q;exact⟨v,σ2,H2,I8.kY I.ok,r8,q8⟩
def sw(A:Around)(H:Hp):Prop:=A.handled=none\/∃p C,A.handled=some (.ref p)/\H p=some (sq p C)
theorem sw.same{A:Around}{H H':Hp}(h:sw A H)(s:∀b o,H b=some o->H' b=some o):sw A H':=h.imp id fun ⟨p,C,a,b⟩=>⟨p,C,a,s _ _ b⟩
theorem sw.EO{A:Around}{H:Hp}{lo:Int}{n:Nat}(h:sw A H):(By lo n).EO A H:=h.imp id fun ⟨p,C,a,b⟩=>⟨p,_,a,b,fun _ x=>Ey.nc x⟩
structure qD(P:Program)(w:World)(K:PySem.W.Frag)(mg:Str->Option Value)(base:Heap)(CX:nV)(k:Nat)(f:Addr)(fd:FuncData)(ps:List Str)(sp:Sp):Prop where
 len:∀vs H Q E,sp vs H Q E->vs.length=ps.length
 run:∀ (A:Around) (outer:List Env) (s:Shared) (H:Hp) (args:Args) (us:List Value) (vs:List V) (Q:VK) (E:XK),jF k A->sw A H->se P w K mg base A outer s H->BindsTo s fd args (ps.zip us)->aR vs us->sp vs H Q E->
  codeAny (model P w) A (.call (.ref f) args) (CR CX outer P w H s Q E) s
theorem IT{CX:nV}{P:Program}{w:World}{K:PySem.W.Frag}{mg:Str->Option Value}{base:Heap}{k:Nat}{f:Addr}{name qual:Str}{params:Arguments}{body:List Stmt}{scope:Scope}{dV kV jo pm ce ct oc:Value}{an od:Option Addr}{qx:Array (Option Value)}{N ps:List Str}{sp:Sp}(lk:K.lookup f=some ⟨oc,od,.func (PySem.W.fnOf name qual params body scope dV kV jo pm an ce ct),qx⟩)(mQ:PySem.W.codeIn K ce qual=true)(S:aA N ps scope)(len:∀vs H Q E,sp vs H Q E->vs.length=ps.length)(iP:∀ (A:Around) (outer:List Env) (s:Shared) (H:Hp) (vs:List V) (Q:VK) (E:XK),jF k (A.deeper (envOfC qual scope s.heap.objs.size f ce))->sw (A.deeper (envOfC qual scope s.heap.objs.size f ce)) H->sp vs H Q E->
   ∃t,pL (qC CX P w K mg base N qual scope f ce A outer s H E) body t/\t { nx:=fun _ H'=>Q .bi H',rt:=Q } (start N vs) H):
  qD P w K mg base CX (k+1) f (PySem.W.fnOf name qual params body scope dV kV jo pm an ce ct) ps sp:=by
 refine⟨len,fun A outer s H args us vs Q E hr hd e0 hb r ue=>?_⟩;have hl:=len _ _ _ _ ue;have KX:K.In s.heap:=e0.mod.Eo.keeps fun b o e=>(e0.bs b o e).1;have QJ:s.heap.NoLimit:=e0.mod.nolimit.keeps fun b o e=>(e0.bs b o e).1;have BZ:∀y∈ps.zip us,scope.names.lookup y.1=some .local\/(scope.names.lookup y.1=some .cell/\((cellsFrom (s.heap.objs.size+1) scope.names []).lookup y.1).isSome=true):=fun ⟨n,v⟩ hy=>by
  rcases S.par n (lH hy).1 with q|q
  .exact .inl q
  .exact .inr ⟨q,vF _ _ _ (.inl q)⟩
 refine codeAny_call_function hr.depth (KX _ _ lk) rfl S.co S.gen rfl (PySem.W.codeRec_of KX mQ) (hb _ _ _ _ ?_);refine wpAny_newFunctionEnv_cells S.kind BZ fun env he s1 x=>?_;subst he;refine⟨QJ.keeps x.toInCall.keep,codeAny_func ?_⟩;obtain⟨t,ht,hq⟩:=iP A outer s H vs Q E (hr.deeper _) hd ue;have I:aF (qC CX P w K mg base N qual scope f ce A outer s H E) [] (start N vs) H s1:=w9 S e0 hl r x;refine f_ (ht [] s1 (start N vs) H _ I hq) (fun fl s' hs=>?_) fun e s' hs=>hs;have dt:∀ {σ':St} {H':Hp} {v:V} {u:Value},aF (qC CX P w K mg base N qual scope f ce A outer s H E) [] σ' H' s'->bj v u->Q v H'->CE outer P w H s Q u s':=
  fun {σ' H' v u} J rv q=>⟨v,H',J.os,J.bare,J.base,J.bA,rv,q⟩
 cases fl with
 |ret u=>
  obtain⟨v,σ',H',J,rv,q⟩:=hs;exact dt J rv q
 |next=>
  obtain⟨σ',H',J,q⟩:=hs;exact dt (v:=V.bi) (u:=Value.none) J rfl q
 |brk=>
  obtain⟨_,_,_,q⟩:=hs;exact False.elim q
 |cont=>
  obtain⟨_,_,_,q⟩:=hs;exact False.elim q
def xb(A:Around)(sp:Sp)(ik:List V)(E:XK)(t:TA):TE:=fun σ H Q=>t σ H fun vs H1=>sw A H1/\sp (vs++ik) H1 Q E
section
variable {X:Cx} {CX:nV} {k:Nat} {f:Addr} {fd:FuncData} {ps:List Str} {sp:Sp} {ik:List V} {ds:List Value} {E:XK} {x:Str} {p pos:Pos} {e:Expr} {es:List Expr} {t:TA}
theorem Co(F:qD X.prog X.w X.K X.mg X.base CX k f fd ps sp)(hr:jF k X.A)(hg:Gl X x)(hm:X.mg x=some (.ref f))(hk:PySem.W.keepIn X.K (.ref f)=true)(hb:eO X.K fd ps ds)(hd:aR ik ds)(hx:eY CX X E)(ha:PA X (e::es) t)(nk:(x==("__debug__":Str))=false:=by decide)(he:starEach (e::es) X.env=(false,eval e X.env)::starEach es X.env:=by rfl)(mL:(backTo pos (starEach es X.env)).any (·.1)=false:=by rfl):
  PE X (.Call (.Name x p) (e::es) [] pos) (xb X.A sp ik E t):=by
 intro ae s σ H Q I h;refine jS (jk I hg hm ?_ nk);refine oA (h₀:=X.base) I.ok.mod.Eo hk (cn (ha pos ae s σ H _ I h) fun us s1 ⟨vs,H1,I1,r,Mv,q⟩=>⟨I1.j5,?_⟩) he mL;have r2:aR (vs++ik) (us++ds):=r.append hd;have hl:(us++ds).length=ps.length:=by rw[<-r2.length];exact F.len _ _ _ _ q
 refine lP (iF (F.run X.A X.stack s1 H1 ⟨us,[]⟩ (us++ds) (vs++ik) Q E hr Mv I1.EY (hb s1 us I1.j5 hl) r2 q) fun r s' hq=>?_);cases r with
 |error e=>exact hx ae σ H1 s1 e s' I1 hq
 |ok fl=>
  cases fl with
  |ret u=>exact I1.after hq
  |next=>exact False.elim hq
  |brk=>exact False.elim hq
  |cont=>exact False.elim hq
end
section
variable {P:Program} {w:World} {K:PySem.W.Frag} {mg:Str->Option Value} {base:Heap}
theorem dH.XD{x qual:Str}{st:Stmt}{f:Addr}{fd:FuncData}{N ps:List Str}{k:Nat}{sp:Sp}(F:dH K x qual st f fd)(S:aA N ps (ak st))(len:∀vs H Q E,sp vs H Q E->vs.length=ps.length)(iP:∀ (ce:Value) (A:Around) (outer:List Env) (s:Shared) (H:Hp) (vs:List V) (Q:VK) (E:XK),jF k (A.deeper (envOfC qual (ak st) s.heap.objs.size f ce))->sw (A.deeper (envOfC qual (ak st) s.heap.objs.size f ce)) H->sp vs H Q E->
   ∃t,pL (qC (d0 P w) P w K mg base N qual (ak st) f ce A outer s H E).Es (bt st) t/\t { nx:=fun _ H'=>Q .bi H',rt:=Q } (start N vs) H):qD P w K mg base (d0 P w) (k+1) f fd ps sp:=by
 obtain⟨oc,od,kV,jo,pm,an,ce,ct,qx,rfl,lk,mQ⟩:=F.ex;refine IT lk mQ S len fun A outer s H vs Q E hr hd ue=>?_;obtain⟨t,h,q⟩:=iP ce A outer s H vs Q E hr hd ue;exact⟨t,h.Es,q⟩
end
structure Fg(P:Program)(w:World)(K:PySem.W.Frag)(mg:Str->Option Value)(base:Heap)(k:Nat)(x:Str)(ps:List Str)(sp:Sp):Prop where
 ex:∃f fd,mg x=some (.ref f)/\PySem.W.keepIn K (.ref f)=true/\eO K fd ps []/\qD P w K mg base (d0 P w) k f fd ps sp
theorem Fh{X:Cx}{k:Nat}{x:Str}{ps:List Str}{sp:Sp}{E:XK}{e:Expr}{es:List Expr}{t:TA}{p pos:Pos}(C:Fg X.prog X.w X.K X.mg X.base k x ps sp)(hr:jF k X.A)(hx:eY (d0 X.prog X.w) X E)(ha:PA X (e::es) t)(hg:Gl X x:=by rfl)(nk:(x==("__debug__":Str))=false:=by decide)(he:starEach (e::es) X.env=(false,eval e X.env)::starEach es X.env:=by rfl)(mL:(backTo pos (starEach es X.env)).any (·.1)=false:=by rfl):
  PE X (.Call (.Name x p) (e::es) [] pos) (xb X.A sp [] E t):=by
 obtain⟨f,fd,a,b,c,d⟩:=C.ex;exact Co d hr hg a b c .nil hx ha nk he mL
theorem Fj{h:Heap}{a:Addr}{m m':Str->Option Value}(x:h.Ns a m)(y:h.Ns a m'):m=m':=by
 obtain⟨o,es,ep,e,d,_,q⟩:=x;obtain⟨o',vg,Ps,e',d',_,q'⟩:=y;rw[e] at e';cases e';rw[d] at d';cases d';funext z;rw[<-q z,q' z]
theorem aF.Mw{X:Cx}{ae:List (Addr×Obj)}{σ:St}{H:Hp}{s:Shared}{h':Heap}{m:Str->Option Value}{D:Addr}{o:HO}{t':Nat}(I:aF X ae σ H s)(F:Fr X.base X.env.locals s.heap m)(F':Fr X.base X.env.locals h' m)(N':News X.base X.env.locals h' (gW X.base s.heap X.env.locals))(hD:s.heap.get? D=none)(new:bK X.prog X.w (upd H D o) h' D o):aF X ae σ (upd H D o) { s with heap:=h',toks:=t' }:=by
 have hn:=I.bA.o2 hD;have ne:∀b u,s.heap.get? b=some u->b≠D:=fun b u e z=>by rw[z,hD] at e;cases e
 have keep:∀b u,b≠X.env.locals->s.heap.get? b=some u->h'.get? b=some u:=fun b u hb e=>by
  cases q:X.base.get? b with
  |some v=>
   have:=I.bk b v q;rw[e] at this;cases this;exact F'.keep b _ q
  |none=>exact(N' (b,u) (iK hb q e)).1
 refine I.step (g':=s.gens) (d':=s.drawn) (ch:=[]) (fun _ z=>absurd z (by simp)) (fun b u hb _ _ e _=>keep b u hb e) (fun b u hb _ _ e _=>⟨u.slots,keep b u hb e⟩) (fun b u _ e n=>by rw[al (ne b u e)];exact n) (fun b u _ e=>?_)
  (fun b xs e=>by rw[al (aq e hn)];exact e) (fun b u v e=>by rw[al (aq e hn)];exact e) (fun b ps e=>⟨#[],by rw[al (aq e hn),e];simp⟩) (fun m1 hm=>by rw[Fj hm F.ns];exact F'.ns) (fun b u e=>?_) I.bare
 .by_cases hb:b=X.env.locals
  .obtain⟨o',_,_,q,_⟩:=F'.ns;exact⟨o',by rw[hb];exact q⟩
  .exact⟨u,keep b u hb e⟩
 .by_cases hb:b=D
  .subst hb;rw[ag] at e;cases e;exact new
  .rw[al hb] at e;refine(I.bA b u e).ng (fun c v hc q=>keep c v ?_ q) (fun c q=>by rw[al (aq q hn)];exact q) fun c xs q=>by rw[al (aq q hn)];exact q
   rintro rfl;rcases hc with z|hc
   .have f:=I.free;rw[z,e] at f;cases f
   .rw[I.free] at hc;cases hc
theorem pY(I:aF X ae σ H s)(N:News X.base X.env.locals h' ((D,o)::gW X.base s.heap X.env.locals))(eW:∀q∈gW X.base s.heap X.env.locals,q.1<D):s.heap.get? D=none:=by
 cases e:s.heap.get? D with
 |none=>rfl
 |some u=>
  obtain⟨_,n1,n2⟩:=N (D,o) cg;exact absurd (eW (D,u) (iK n1 n2 e)) (gn _)
def Cp(K:PySem.W.Frag)(H:Hp)(a:Addr)(y:Int×Int):Prop:=bD K H a [.int y.1,.int y.2]
section
variable {X:Cx}
theorem xc(I:aF X ae σ H s)(h:Cp X.K H a y):∃o n t u,s.heap.get? a=some o/\o.cls=.type "tuple"/\o.data=.seq #[.int y.1 t,.int y.2 u] n:=by
 obtain⟨its,r,p,_⟩:=I.tuple h;obtain⟨u1,u2,rfl,r1,r2⟩:=r.two;obtain⟨t,rfl⟩:=r1;obtain⟨t',rfl⟩:=r2;obtain⟨o,e,c,n,d⟩:=p;exact⟨o,n,t,t',e,c,d⟩
end
def IU(hs:Array Int)(i:Nat):Int:=(hs[i]?).getD 0
def eJ(hs:Array Int)(t:SetTable)(h:Int):Option (Array Int×SetTable):=
 if t.gaveWay then none else
 match t.probe (IU hs) h (t.probeStart h) with
 |some (.empty j none)=>
  let q:=t.put j
  let He:=SetTable.insertAt hs q.2 h
  if q.1.fits He.size&&decide (He.size<=4096) then
   if q.1.tooFull then
    (match q.1.relaid He (SetTable.grown (hs.size+1)) with
    |some (t2,il)=>
     let vh:=il.filterMap (He[·]?)
     if vh.size==He.size&&t2.fits vh.size&&decide (SetTable.sizeAbove (SetTable.grown (hs.size+1))<=4096) then some (vh,t2) else none
    |none=>none)
   else some (He,q.1)
  else none
 |_=>none
def sA(led:Bool):List Int->Option (Array Int×SetTable):=fun l=>l.foldlM (fun q h=>eJ q.1 q.2 h) (#[],SetTable.fresh 0 0 led)
def iT(h:Heap)(S:Addr)(hs:Array Int)(t:SetTable):Prop:=∃o es ep,h.get? S=some o/\o.cls=.type "set"/\(o.dict=none/\o.slots=#[])/\o.data=.set es ep t/\es.map (·.1)=hs/\t.fits es.size=true
section
variable {prog:Program} {w:World} {A:Around} {E:Value->Shared->Prop} {s:Shared} {S:Addr}
theorem IW(es:Array (Int×Value)):(fun i=>(es[i]?.map (·.1)).getD 0)=IU (es.map (·.1)):=by
 funext i;unfold IU;rw[Array.getElem?_map]
theorem kZ(es:Array (Int×Value))(p:Nat)(x:Int×Value):(SetTable.insertAt es p x).map (·.1)=SetTable.insertAt (es.map (·.1)) p x.1:=by
 unfold SetTable.insertAt;simp
theorem mf(es:Array (Int×Value))(il:Array Nat):(il.filterMap (es[·]?)).map (·.1)=il.filterMap ((es.map (·.1))[·]?):=by
 apply Array.ext';rw[rE,rq,rq,List.map_filterMap];congr 1;funext i;rw[Array.getElem?_map]
theorem xf(hS:iT s.heap S hs t)(hg:t.gaveWay=false)(hp:t.probe (IU hs) h (t.probeStart h)=some (.empty j none))(q:Q (.free j false) s):
  wpAny (model prog w) A (setSearch S x h true) Q E s:=by
 obtain⟨o,es,ep,ho,hc,VC,hd,hm,hf⟩:=hS;unfold setSearch setSearchFrom;refine aw (rF ho hd hf ?_);dsimp only;rw[hg,ao bJ];have Lb:t.probe (fun i=>(es[i]?.map (·.1)).getD 0) h (t.probeStart h)=some (.empty j none):=by rw[IW,hm];exact hp
 refine aw (wpAny_pure ?_);erw[Lb];exact wpAny_pure q
theorem zM(ho:s.heap.get? a=some o)(hc:o.cls=.type "tuple")(hd:o.data=.seq #[.int x t,.int y u] n)(q:Q true s):
  wpAny (model prog w) A (hashByValue 8 (.ref a)) Q E s:=by
 have hT:s.TypeIs (.ref a) "tuple":=⟨_,ho,hc⟩
 unfold hashByValue;refine aw (wpAny_specialOf hT PySem.F.slot_tuple_hash.lookup ?_);refine aw (wpAny_seqItems ho hd ?_);refine aw ?_;show wpAny _ _ (forIn #[Value.int x t,Value.int y u] _ _) _ _ s;rw[<-Array.forIn_toList];refine wpAny_forIn_list _ (fun ni r s'=>r.1=none/\s'=s/\∀v∈ni,∃z k,v=Value.int z k) _ ?_ ?_ _ _ ⟨rfl,rfl,fun v hv=>?_⟩
 .rintro v ni r s' ⟨hr,rfl,pX⟩;obtain⟨z,k,rfl⟩:=pX v cg;refine aw (wpAny_pure ?_);exact wpAny_pure ⟨rfl,rfl,fun u' yo=>pX u' (b_ _ yo)⟩
 .rintro⟨r1,r2⟩ s' ⟨hr,rfl,_⟩;have AM:r1=none:=hr;subst AM;exact wpAny_pure q
 .rcases bu.mp hv with z|z
  .exact⟨_,_,z⟩
  .rcases bu.mp z with z|z
   .exact⟨_,_,z⟩
   .cases z
theorem yq(hS:iT s.heap S hs t)(hf:t'.fits vg.size=true)(hz:vg.size<=4096)(q:∀h',Heap.SameBut S s.heap h'->iT h' S (vg.map (·.1)) t'->Q () { s with heap:=h' }):wpAny (model prog w) A (storeSet S vg t') Q E s:=by
 obtain⟨o,es,ep,ho,hc,VC,hd,hm,_⟩:=hS;refine wpAny_storeSet_of ho hd (q _ (Heap.SameBut.update s.heap S (Obj.putSet vg t')) ?_) (bq hz (by decide));have g:=oz (Obj.putSet vg t') ho (by rw[putSet_of vg t' hd];rfl);rw[putSet_of vg t' hd] at g;exact⟨_,vg,ep+1,g,hc,VC,rfl,rfl,hf⟩
theorem Fk(hu:A.units<cLine)(hS:iT s.heap S hs t)(ho:s.heap.get? a=some o)(hc:o.cls=.type "tuple")(hd:o.data=.seq #[.int x tx,.int y ty] n)(ka:a≠S)(eV:eJ hs t (tupleKeyHash (intKind prog w) [x,y])=some (hs',t'))(q:∀h' tk,Heap.SameBut S s.heap h'->iT h' S hs' t'->Q true { s with heap:=h',toks:=tk }):wpAny (model prog w) A (setAdd S (.ref a)) Q E s:=by
 have hk:IsTupleKey (intKind prog w) s.heap [x,y] a:=⟨o,_,n,ho,hc,hd,.cons (intKind_is _ _ _ _) (.cons (intKind_is _ _ _ _) .nil)⟩
 unfold setAdd;refine iB (aw (wpAny_pyHash_tuple hu hk ?_));generalize QH:s.toks+([x,y].length+1)=tk;generalize hh:tupleKeyHash (intKind prog w) [x,y]=h at eV |-;have VD:=hS;obtain⟨ob,es,ep,hb,Q6,Z5,En,hm,hf⟩:=hS;unfold setAddHashed setAddHashedIn;refine iB (aw (rF (s:={ s with toks:=tk }) hb En hf ?_));dsimp only;have Lc:byScan (.ref a) es=false:=by unfold byScan;rfl
 rw[Lc,ao bJ];unfold eJ at eV;cases hg:t.gaveWay with
 |true=>rw[hg,am rfl] at eV;cases eV
 |false=>
  rw[hg,ao bJ] at eV;split at eV
  .rename_i j hp;dsimp only at eV;split at eV
   .rename_i PD;rw[gj,lE] at PD;refine aw (xf (s:={ s with toks:=tk }) VD hg hp ?_);dsimp only;refine aw (rF (s:={ s with toks:=tk }) hb En hf ?_);dsimp only;have XE:∀ {kk:Bool->Sem Bool},wpAny (model prog w) A (kk true) Q E { s with toks:=tk }->wpAny (model prog w) A (if (t.put j).1.plain=true then hashByValue 8 (.ref a) >>= kk else pure true >>= kk) Q E { s with toks:=tk }:=fun {kk} hP=>by
     split
     .exact aw (zM (s:={ s with toks:=tk }) ho hc hd hP)
     .exact aw (wpAny_pure hP)
    refine XE ?_;simp only[if_true];have kP:(SetTable.insertAt es (t.put j).2 (h,Value.ref a)).size=(SetTable.insertAt hs (t.put j).2 h).size:=by
     rw[<-hm,<-kZ es (t.put j).2 (h,Value.ref a),gO]
    refine aw (yq (s:={ s with toks:=tk }) VD (by rw[kP];exact PD.1) (by rw[kP];exact PD.2) fun h1 Hf S1=>?_);rw[kZ,hm] at S1;split at eV
    .rename_i Q7;rw[show (!false&&(t.put j).1.tooFull)=true by rw[Q7];rfl,am rfl];split at eV
     .rename_i t2 il hr;split at eV
      .rename_i hq;rw[gj,gj,lE,fG] at hq;obtain⟨⟨Hg,PF⟩,VE⟩:=hq;cases eV;have Q8:es.size=hs.size:=by rw[<-hm,gO]
       refine aw ?_;unfold setRelay;obtain⟨o1,Fl,Z6,g1,g2,g3,g4,g5,g6⟩:=id S1;refine aw (rF (s:={ s with heap:=h1,toks:=tk }) g1 g4 g6 ?_);dsimp only;rw[Q8];rw[ao (by (have h4:(4096:Nat)<=sizeLine:=by decide);lia)];refine aw ?_;rw[g5,hr];have xg:(il.filterMap (Fl[·]?)).size=Fl.size:=by
        have e1:=congrArg Array.size (mf Fl il);rw[gO,g5] at e1;rw[e1,Hg,<-g5,gO]
       refine wpAny_of_eq (show _=(pure (il.filterMap (Fl[·]?),t'):Sem (Array (Int×Value)×SetTable)) from ?_) ?_
       .show (do
         let vg:=il.filterMap (Fl[·]?)
         if vg.size != Fl.size then unsupported "internal:set-table-lost-an-element"
         pure (vg,t'):Sem (Array (Int×Value)×SetTable))=_
        simp[xg]
       dsimp only;have Q9:Fl.size<=4096:=by
        have e1:=congrArg Array.size g5;rw[gO] at e1;rw[e1];exact PD.2
       have XF:(il.filterMap (Fl[·]?)).size=(il.filterMap ((SetTable.insertAt hs (t.put j).2 h)[·]?)).size:=by
        have e1:=congrArg Array.size (mf Fl il);rw[gO,g5] at e1;exact e1
       refine yq (s:={ s with heap:=h1,toks:=tk }) S1 (by rw[XF];exact PF) (by rw[xg];exact Q9) fun h2 Ld S2=>?_;rw[mf,g5] at S2;exact wpAny_pure (q h2 tk (Hf.trans Ld) S2)
      .cases eV
     .cases eV
    .rename_i Q7;cases eV;have Q_:(t.put j).1.tooFull=false:=by simpa using Q7
     rw[show (!false&&(t.put j).1.tooFull)=false by rw[Q_];rfl,ao bJ];exact wpAny_pure (q h1 tk Hf S1)
   .cases eV
  .cases eV
end
section
variable {prog:Program} {w:World} {A:Around} {E:Value->Shared->Prop} {s:Shared} {S Ia l:Addr} {R:Result->Shared->Prop}
def g9(h:Heap)(vs:List Value)(ys:List (Int×Int)):Prop:=vs.length=ys.length/\∀i v,vs[i]?=some v->∃a o n t u,v=.ref a/\h.get? a=some o/\o.cls=.type "tuple"/\o.data=.seq #[.int (ys.getD i (0,0)).1 t,.int (ys.getD i (0,0)).2 u] n
theorem g9.keeps(p:g9 h vs ys)(k:∀b o,(∃xs n,o.data=.seq xs n)->h.get? b=some o->h'.get? b=some o):g9 h' vs ys:=
 ⟨p.1,fun i v e=>let ⟨a,o,n,t,u,e1,e2,c,d⟩:=p.2 i v e;⟨a,o,n,t,u,e1,k a o ⟨_,_,d⟩ e2,c,d⟩⟩
def dS(prog:Program)(w:World)(y:Int×Int):Int:=tupleKeyHash (intKind prog w) [y.1,y.2]
theorem Cq(hh:A.handled=none)(hu:A.units+1<cLine)(XG:l≠S)(XH:l≠Ia)(Ra:S≠Ia):
  ∀ (k i:Nat) (s:Shared) (hs:Array Int) (t:SetTable),vs.length-i=k->i<=vs.length->s.heap.IsListIter Ia l i->s.heap.IsList l vs.toArray->g9 s.heap vs ys->iT s.heap S hs t->
   ((ys.drop i).map (dS prog w)).foldlM (fun q h=>eJ q.1 q.2 h) (hs,t)=some (hsN,tN)->
   (∀h' tk,(∀b o,b≠S->b≠Ia->s.heap.get? b=some o->h'.get? b=some o)->iT h' S hsN tN->R (.ok (.ret .none)) { s with heap:=h',toks:=tk })->
   codeAny (model prog w) A (.builtin "set.update.loop" ⟨[.ref S,.ref Ia],[]⟩) R s:=by
 intro k;induction k with
 |zero=>
  intro i s hs t hk hi qm hl hp hS hf hR;have e:i=vs.length:=by lia
  refine oI AU ?_;rw[wd vp _];show wpAny _ A.in1 (pyNext (.ref Ia) >>= _) _ _ s;refine aw (wpAny_pyNext_list_end (show A.in1.handled=none from hh) qm hl (by simp;lia) fun h' eb=>?_);show wpAny _ A.in1 (ret Value.none) _ _ _;have hd:ys.drop i=[]:=by rw[List.drop_eq_nil_iff];have:=hp.1;lia
  rw[hd] at hf;cases hf;obtain⟨o,es,ep,q1,q2⟩:=hS;exact wpAny_pure (hR h' s.toks (fun b o hb PJ e=>eb b o PJ e) ⟨o,es,ep,eb S o Ra q1,q2⟩)
 |succ k ih=>
  intro i s hs t hk hi qm hl hp hS hf hR;have eW:i<vs.length:=by lia
  refine oI AU ?_;rw[wd vp _];show wpAny _ A.in1 (pyNext (.ref Ia) >>= _) _ _ s;have hv:vs[i]?=some vs[i]:=bZ eW;refine aw (wpAny_pyNext_list_item qm hl (x:=vs[i]) (by simpa using hv) fun h1 Rb Hf=>?_);obtain⟨a,o,n,tx,ty,ea,eo,ec,ed⟩:=hp.2 i _ hv;rw[ea];have VF:∀b ob,(∃xs n,ob.data=.seq xs n)->s.heap.get? b=some ob->b≠Ia:=fun b ob ⟨xs,m,z⟩ e z'=>by
   obtain⟨oi,e1,_,d1⟩:=qm;rw[z',e1] at e;cases e;rw[d1] at z;cases z
  have Rc:g9 h1 vs ys:=hp.keeps fun b ob hb e=>(Hf.2 b (VF b ob hb e)).trans e;have VG:iT h1 S hs t:=by
   obtain⟨oS,es,ep,q1,q2⟩:=hS;exact⟨oS,es,ep,(Hf.2 S Ra).trans q1,q2⟩
  have Le:h1.IsList l vs.toArray:=by
   obtain⟨ol,q1,q2⟩:=hl;exact⟨ol,(Hf.2 l XH).trans q1,q2⟩
  have VH:h1.get? a=some o:=(Hf.2 a (VF a o ⟨_,_,ed⟩ eo)).trans eo;have VI:∀b ob,(∃xs n,ob.data=.seq xs n)->h1.get? b=some ob->b≠S:=fun b ob ⟨xs,m,z⟩ e z'=>by
   obtain⟨oS,es,ep,q1,_,_,q4,_⟩:=VG;rw[z',q1] at e;cases e;rw[q4] at z;cases z
  have AN:i<ys.length:=by have:=hp.1;lia
  have XI:ys.drop i=ys[i]::ys.drop (i+1):=vx AN;have XJ:ys.getD i (0,0)=ys[i]:=by rw[cf,bZ AN];rfl
  rw[XI,gq,List.foldlM_cons] at hf;cases eV:eJ hs t (dS prog w ys[i]) with
  |none=>rw[eV] at hf;cases hf
  |some q=>
   obtain⟨vh,t2⟩:=q;rw[eV] at hf;have VJ:((ys.drop (i+1)).map (dS prog w)).foldlM (fun q h=>eJ q.1 q.2 h) (vh,t2)=some (hsN,tN):=hf;show wpAny _ A.in1 (holding [Value.ref a] (setAdd S (.ref a)) >>= _) _ _ _;refine aw (iB (Fk (s:={ s with heap:=h1 }) (by show A.units+1<cLine;exact hu) VG VH ec ed (VI a o ⟨_,_,ed⟩ VH) (hs':=vh) (t':=t2) (by rw[XJ];exact eV) fun h2 tk Ld S2=>?_));refine wpAny_pure ⟨plainId_quiet vp _,?_⟩;refine ih (i+1) { s with heap:=h2,toks:=tk } vh t2 (by lia) eW ?_ ?_ (Rc.keeps fun b ob hb e=>(Ld.2 b (VI b ob hb e)).trans e) S2 VJ fun h3 XM k3 S3=>?_
   .obtain⟨oi,q1,q2⟩:=Rb;exact⟨oi,(Ld.2 Ia (ci Ra)).trans q1,q2⟩
   .obtain⟨ol,q1,q2⟩:=Le;exact⟨ol,(Ld.2 l XG).trans q1,q2⟩
   .exact hR h3 XM (fun b ob hb PJ e=>k3 b ob hb PJ ((Ld.2 b hb).trans ((Hf.2 b PJ).trans e))) S3
theorem Cr{vs:List Value}{ys:List (Int×Int)}{hsN:Bool->Array Int}{tN:Bool->SetTable}{Q:Value->Shared->Prop}(hh:A.handled=none)(hu:A.units+8<cLine)(hl:s.heap.IsList l vs.toArray)(hp:g9 s.heap vs ys)(zN:∀led,sA led (ys.map (dS prog w))=some (hsN led,tN led))(h:∀ (led:Bool) (h':Heap) (tk:Nat),iT h' s.heap.objs.size (hsN led) (tN led)->(∀b o,b<s.heap.objs.size->s.heap.get? b=some o->h'.get? b=some o)->Q (.ref s.heap.objs.size) { s with heap:=h',toks:=tk }):
  wpAny (model prog w) A (call (.type "set") [.ref l]) Q E s:=by
 obtain⟨c,tl,XN⟩:=mH.mro;have c1:=mH.made;have c2:=mH.sub;refine lP (codeAny_of_tree ?_);show wpAny _ _ (callAny (.type "set") _) _ _ _;refine wpAny_pure ⟨Code.quiet_builtin _ (by decide +kernel),oI PySem.F.entry_type_call ?_⟩;rw[Around.under_plain (weight_type_call_type "set" [.ref l] []) rfl];have c3:=mH.notType;have c4:=mH.canCreate;have c5:=PySem.F.typeCall_set_1 (.ref l);repeat (any_goals (first|assumption|wp_step))
 refine iF (code_set_new_1 (.ref l) (E:=E) (Q₁:=fun obj s₁=>∃led:Bool,obj=.ref s.heap.objs.size/\s₁={ s with heap:=s.heap.push { cls:=.type "set",dict:=none,data:=.set #[] 0 (.fresh 0 0 led) } }) fun led=>⟨led,rfl,rfl⟩) fun r s₁ hr=>?_;cases r with
 |error e=>exact hr
 |ok fl=>
  cases fl with
  |next=>exact hr.elim
  |brk=>exact hr.elim
  |cont=>exact hr.elim
  |ret obj=>
   obtain⟨led,rfl,rfl⟩:=hr;generalize Re:s.heap.push { cls:=.type "set",dict:=none,data:=.set #[] 0 (.fresh 0 0 led) }=hS;have kP:hS.objs.size=s.heap.objs.size+1:=by rw[<-Re,iE]
   have gS:hS.get? s.heap.objs.size=some { cls:=.type "set",dict:=none,data:=.set #[] 0 (.fresh 0 0 led) }:=by rw[<-Re];exact cW _ rfl
   have up:∀b o,s.heap.get? b=some o->hS.get? b=some o:=fun b o e=>by rw[<-Re];exact cE _ e
   have hT:Shared.TypeIs { s with heap:=hS } (.ref s.heap.objs.size) "set":=⟨_,gS,rfl⟩
   have c6:=mH.init.lookup;have c7:=mH.init.bind (.ref s.heap.objs.size);repeat (any_goals (first|assumption|wp_step))
   refine iF (v6 (R:=wants (fun r s₂=>r=.none/\∃h' tk,s₂={ s with heap:=h',toks:=tk }/\iT h' s.heap.objs.size (hsN led) (tN led)/\
     (∀b o,b<s.heap.objs.size->s.heap.get? b=some o->h'.get? b=some o)) E) mH.init.plain PySem.F.entry_set_init (check_set_init_1 hT ?_)) fun r₂ s₂ Mx=>?_
   .obtain⟨ol,Hh,Ew,nl,IX⟩:=hl;obtain⟨XO,VL,VM,Rg⟩:=ol;simp only at Ew IX;subst Ew;subst IX;have Rh:=up _ _ Hh;have c8:=PySem.F.sub_list_set;have c9:=PySem.F.sub_list_frozenset;have Ri:(Value.type "list"==Value.type "dict")=false:=by decide
    have Le:hS.IsList l vs.toArray:=⟨_,Rh,rfl,nl,rfl⟩
    unfold Builtin.«set.__init__» noKeywords Builtin.Frozenset.updateFrom;generalize XQ:pyIter=PI
    wp_walk
    subst XQ;refine wv Le ?_;refine aw (wpAny_runValue ?_);have eW:l<s.heap.objs.size:=aX Hh;refine Cq (l:=l) (vs:=vs) (ys:=ys) (hsN:=hsN led) (tN:=tN led) (by simp[hh]) (by simp;lia) (aZ eW) (by rw[kP];exact aZ (dM eW)) (by rw[kP];exact aZ (jU _))
     (vs.length-0) 0 _ #[] (.fresh 0 0 led) rfl (cR _) ⟨_,cW _ rfl,rfl,rfl⟩ (Le.push _) (hp.keeps fun b o _ e=>cE _ (up b o e)) ⟨_,#[],0,cE _ gS,rfl,⟨rfl,rfl⟩,rfl,by simp,rfl⟩ (zN led) fun h' tk k S'=>?_
    show wpAny _ _ _ _ _ _;refine wpAny_pure ?_;show wpAny _ _ (ret Value.none) _ _ _;refine wpAny_pure ⟨rfl,h',tk,rfl,S',fun b o hb e=>?_⟩;exact k b o (aZ hb) (by rw[kP];exact aZ (dM hb)) (cE _ (up b o e))
   .cases r₂ with
    |error e=>exact Mx
    |ok XR=>
     cases XR with
     |next=>exact Mx.elim
     |brk=>exact Mx.elim
     |cont=>exact Mx.elim
     |ret r=>
      obtain⟨rfl,h',tk,rfl,S',k⟩:=Mx;repeat (any_goals (first|assumption|wp_step))
      exact h led h' tk S' k
end
open PySem
def Cu(l:List Nat):Nat:=l.foldl (fun a x=>a ||| (1 <<< x)) 0
theorem zO(l:List Nat)(a j:Nat):(l.foldl (fun a x=>a ||| (1 <<< x)) a).testBit j=(a.testBit j||l.contains j):=by
 induction l generalizing a with
 |nil=>simp
 |cons x xs ih=>
  rw[rG,ih,Nat.testBit_or,List.contains_cons];have:(1 <<< x).testBit j=(j==x):=by
   rw[Nat.one_shiftLeft,Nat.testBit_two_pow];by_cases h:x=j
   .simp[h]
   .have h':¬ j=x:=fun e=>h e.symm;simp[h,h']
  rw[this,Bool.or_assoc]
theorem mW(h:Cu l=2 ^ n-1)(hj:j<n):j∈l:=by
 have e:=zO l 0 j;have h':l.foldl (fun a x=>a ||| (1 <<< x)) 0=2 ^ n-1:=h;rw[h',Nat.testBit_two_pow_sub_one] at e;simp[hj] at e;exact e
def Cv(M:Nat):Nat->Nat->Nat
 |0,i=>i
 |n+1,i=>Cv M n ((i*5+1) % M)
theorem nX(M a:Nat):∀b i,Cv M (b+a) i=Cv M a (Cv M b i)
 |0,i=>by rw[Nat.zero_add];rfl
 |b+1,i=>by
  rw[show b+1+a=(b+a)+1 by lia];show Cv M (b+a) _=Cv M a (Cv M b _);exact nX M a b _
def IY(M:Nat):Nat->Nat->List Nat
 |0,_=>[]
 |n+1,i=>i::IY M n ((i*5+1) % M)
theorem o3:∀ {n i},j∈IY M n i->∃k,k<n/\Cv M k i=j
 |0,_,h=>by cases h
 |n+1,i,h=>by
  rcases bu.mp h with z|z
  .exact⟨0,by lia,z.symm⟩
  .obtain⟨k,a,b⟩:=o3 z;exact⟨k+1,by lia,b⟩
structure zP(M:Nat):Prop where
 all:Cu (IY M M 0)=2 ^ M-1
 back:Cv M M 0=0
theorem Rj:zP 8:=⟨by decide +kernel,by decide +kernel⟩
theorem Hi:zP 32:=⟨by decide +kernel,by decide +kernel⟩
theorem Cw:zP 128:=⟨by decide +kernel,by decide +kernel⟩
theorem Cy:zP 512:=⟨by decide +kernel,by decide +kernel⟩
theorem zP.cover(R:zP M)(hi:i<M)(hj:j<M):∃n,n<M/\Cv M n i=j:=by
 obtain⟨a,ha,ea⟩:=o3 (mW R.all hi);obtain⟨b,hb,eb⟩:=o3 (mW R.all hj);by_cases h:a<=b
 .refine⟨b-a,by lia,?_⟩;rw[<-ea,<-nX,show a+(b-a)=b by lia,eb]
 .refine⟨M+b-a,by lia,?_⟩;rw[<-ea,<-nX,show a+(M+b-a)=M+b by lia,nX,R.back,eb]
def fj(mask:Nat):Nat->Nat×Nat->Nat×Nat
 |0,q=>q
 |n+1,q=>fj mask n (SetTable.leap mask q.1 q.2)
theorem qE(m a:Nat):∀b q,fj m (b+a) q=fj m a (fj m b q)
 |0,q=>by rw[Nat.zero_add];rfl
 |b+1,q=>by
  rw[show b+1+a=(b+a)+1 by lia];exact qE m a b _
theorem uo:∀ {n:Nat} {q:Nat×Nat},q.1<m+1->(fj m n q).1<m+1
 |0,_,h=>h
 |n+1,q,h=>uo (n:=n) (iH _ (rM _))
theorem yr:∀ {n:Nat} {q:Nat×Nat},(fj m n q).2=q.2 / 32 ^ n
 |0,_=>by simp[fj]
 |n+1,q=>by
  show (fj m n _).2=_;rw[yr];show q.2 / 32 / 32 ^ n=_;rw[og,Nat.pow_succ,Nat.mul_comm]
theorem qF:∀ {n i:Nat},fj m n (i,0)=(Cv (m+1) n i,0)
 |0,_=>rfl
 |n+1,i=>by
  show fj m n (SetTable.leap m i 0)=_;unfold SetTable.leap;simp only[Nat.zero_div,Nat.add_zero];exact qF
theorem mX(R:zP (m+1))(hi:i<m+1)(hp:p<2 ^ 64)(hj:j<m+1):∃n,n<m+14/\(fj m n (i,p)).1=j:=by
 have h1:=uo (m:=m) (n:=13) (q:=(i,p)) hi;have h2:(fj m 13 (i,p)).2=0:=by
  rw[yr];exact wf (cM hp (by decide))
 obtain⟨n,hn,e⟩:=R.cover h1 hj;refine⟨13+n,by lia,?_⟩;rw[qE];have:fj m 13 (i,p)=((fj m 13 (i,p)).1,0):=gT rfl h2;rw[this,qF];exact e
theorem yt(h:Int):SetTable.bits h<2 ^ 64:=by
 unfold SetTable.bits;have a:=lI h (show (2 ^ 64:Int)≠0 by decide);have b:=lC h (show (0:Int)<2 ^ 64 by decide);lia
theorem My{M:Nat}{l:List Nat}(h:l.length<M):∃j,j<M/\j∉l:=by
 have key:∀ (a b:List Nat),a.Nodup->(∀x∈a,x∈b)->a.length<=b.length:=by
  intro a;induction a with
  |nil=>intro b _ _;exact cR _
  |cons x xs ih=>
   intro b hn hs;obtain⟨h1,h2⟩:=d8.mp hn;have hx:x∈b:=hs x cg;have:=ih (b.erase x) h2 fun y hy=>(List.mem_erase_of_ne (fun (e:y=x)=>h1 (e ▸ hy))).mpr (hs y (b_ _ hy));rw[Bb hx] at this;have:0<b.length:=List.length_pos_of_mem hx;rw[cZ];lia
 apply rh;intro B6;have:=key (List.range M) l wg fun x hx=>rh fun rW=>B6 ⟨x,cX.mp hx,rW⟩;rw[kH] at this;lia
def xh(mask i p:Nat):SetTable.Probe:={ j:=i,more:=SetTable.runEnd mask i-i,i:=i,perturb:=p,dummy:=none }
theorem IZ(mask i:Nat):SetTable.runEnd mask i-i<=9:=by unfold SetTable.runEnd;split <;> lia
theorem sB{t:SetTable}(hd:t.dummies=#[])(j:Nat):t.slot j=.empty\/∃i,t.slot j=.live i/\t.place[i]?=some j:=by
 unfold SetTable.slot;dsimp only;split
 .rename_i h;exact .inr ⟨_,rfl,by simpa using h⟩
 .left;rw[hd];rfl
theorem xi{t:SetTable}(hd:t.dummies=#[]){j:Nat}(h:j∉t.place.toList):t.slot j=.empty:=by
 rcases sB hd j with e|⟨i,_,e2⟩
 .exact e
 .exact absurd (by rw[<-ou] at e2;exact cY e2) h
section
variable {t:SetTable} {hashAt:Nat->Int} {h:Int}
theorem Cz(hd:t.dummies=#[])(hh:∀i,i<t.place.size->hashAt i≠h)(i p:Nat):∀ (r:Nat) (j eR:Nat),
  (∃j',SetTable.probe.go t hashAt h (eR+r+1) { j:=j,more:=r,i:=i,perturb:=p,dummy:=none }=some (.empty j' none))\/
  SetTable.probe.go t hashAt h (eR+r+1) { j:=j,more:=r,i:=i,perturb:=p,dummy:=none }=SetTable.probe.go t hashAt h eR (xh t.mask (SetTable.leap t.mask i p).1 (SetTable.leap t.mask i p).2)
 |0,j,eR=>by
  rcases sB hd j with e|⟨k,e,e2⟩
  .exact .inl ⟨j,by unfold SetTable.probe.go;rw[e]⟩
  .right;have hk:k<t.place.size:=(oq.mp e2).1;conv=>lhs;unfold SetTable.probe.go
   rw[e];simp only[fG,hh k hk,gR];rfl
 |r+1,j,eR=>by
  rcases sB hd j with e|⟨k,e,e2⟩
  .exact .inl ⟨j,by rw[show eR+(r+1)+1=(eR+r+1)+1 by lia];unfold SetTable.probe.go;rw[e]⟩
  .have hk:k<t.place.size:=(oq.mp e2).1;have st:SetTable.probe.go t hashAt h (eR+(r+1)+1) { j:=j,more:=r+1,i:=i,perturb:=p,dummy:=none }=SetTable.probe.go t hashAt h (eR+r+1) { j:=j+1,more:=r,i:=i,perturb:=p,dummy:=none }:=by
    rw[show eR+(r+1)+1=(eR+r+1)+1 by lia];conv=>lhs;unfold SetTable.probe.go
    rw[e];simp only[fG,hh k hk,gR];rfl
   rw[st];exact Cz hd hh i p r (j+1) eR
theorem yu(hd:t.dummies=#[])(hh:∀i,i<t.place.size->hashAt i≠h):∀ (m:Nat) (i p eR:Nat),10*(m+1)<=eR->t.slot (fj t.mask m (i,p)).1=.empty->
  ∃j',SetTable.probe.go t hashAt h eR (xh t.mask i p)=some (.empty j' none)
 |0,i,p,eR,hf,e=>by
  obtain⟨f,rfl⟩:∃f,eR=f+1:=⟨eR-1,by lia⟩
  refine⟨i,?_⟩;have e':t.slot i=.empty:=e;unfold SetTable.probe.go xh;dsimp only;rw[e']
 |m+1,i,p,eR,hf,e=>by
  have hr:=IZ t.mask i;obtain⟨f,Fm⟩:∃f,eR=f+(SetTable.runEnd t.mask i-i)+1:=⟨eR-(SetTable.runEnd t.mask i-i)-1,by lia⟩
  rcases Cz (hashAt:=hashAt) (h:=h) hd hh i p (SetTable.runEnd t.mask i-i) i f with z|z
  .rw[Fm];exact z
  .rw[Fm];show ∃j',SetTable.probe.go t hashAt h _ { j:=i,more:=_,i:=i,perturb:=p,dummy:=none }=_;rw[z];exact yu hd hh m _ _ f (by lia) e
theorem xj(R:zP (t.mask+1))(hd:t.dummies=#[])(hs:t.place.size<=t.mask)(hh:∀i,i<t.place.size->hashAt i≠h):∃j,t.probe hashAt h (t.probeStart h)=some (.empty j none):=by
 obtain⟨j,hj,hn⟩:=My (M:=t.mask+1) (l:=t.place.toList) (by simpa using Nat.lt_succ_of_le hs);obtain⟨m,hm,e⟩:=mX R (iH (SetTable.bits h) (rM t.mask)) (yt h) hj;refine yu hd hh m _ _ _ ?_ (by rw[e];exact xi hd hn);unfold SetTable.turns;lia
end
theorem CA{α β:Type}{f:α->Option β}:∀ {l:List α},(∀q∈l,(f q).isSome=true)->(l.filterMap f).length=l.length
 |[],_=>rfl
 |q::l,h=>by
  have hq:=h q cg;cases e:f q with
  |none=>rw[e] at hq;cases hq
  |some b=>rw[Bc e,cZ,cZ,CA fun x hx=>h x (b_ _ hx)]
theorem qG:∀ (m eR i p:Nat),m<eR->owner.getD (fj mask m (i,p)).1 (some 0)=none->∃j,SetTable.layClean.free mask owner eR i p=some j/\owner.getD j (some 0)=none
 |m,0,_,_,h,_=>by lia
 |m,eR+1,i,p,h,e=>by
  unfold SetTable.layClean.free;cases hf:(List.range (SetTable.runEnd mask i+1-i)).find? fun k=>(owner.getD (i+k) (some 0)).isNone with
  |some k=>
   refine⟨i+k,rfl,?_⟩;have:=List.find?_some hf;simpa using this
  |none=>
   cases m with
   |zero=>
    have h0:(0:Nat)∈List.range (SetTable.runEnd mask i+1-i):=cX.mpr (by unfold SetTable.runEnd;split <;> lia);have:=vY.mp hf 0 h0;have e':owner.getD i (some 0)=none:=e;rw[Nat.add_zero,e'] at this;exact absurd rfl this
   |succ m=>
    exact qG m eR _ _ (by lia) e
structure uq(M:Nat)(owner:Array (Option Nat))(k:Nat):Prop where
 size:owner.size=M
 cnt:owner.toList.countP Option.isSome=k
 lt:∀x,some x∈owner.toList->x<k
theorem xk{l:List (Option Nat)}{j:Nat}{x:Nat}(hj:l[j]?=some none):(l.set j (some x)).countP Option.isSome=l.countP Option.isSome+1:=by
 induction l generalizing j with
 |nil=>cases hj
 |cons a l ih=>
  cases j with
  |zero=>
   obtain rfl:a=none:=by simpa using hj
   simp
  |succ j=>
   rw[List.set_cons_succ,wm,wm,ih (by simpa using hj)];lia
theorem uq.one{mask:Nat}{owner:Array (Option Nat)}{k:Nat}(L:uq (mask+1) owner k)(R:zP (mask+1))(hk:k<mask+1)(h:Int):
  ∃j,SetTable.layClean.free mask owner (SetTable.turns mask) (SetTable.bits h % (mask+1)) (SetTable.bits h)=some j/\uq (mask+1) (owner.setIfInBounds j (some k)) (k+1):=by
 have B6:∃j,j<mask+1/\owner.toList[j]?=some none:=by
  apply rh;intro B6;have pX:∀x∈owner.toList,x.isSome=true:=by
   intro x hx;obtain⟨j,hj,e⟩:=rB.mp hx;cases x with
   |some _=>rfl
   |none=>
    refine absurd ⟨j,?_,?_⟩ B6
    .rw[<-L.size];simpa using hj
    .rw[bZ hj,e]
  have:=List.countP_eq_length.mpr pX;rw[L.cnt,jP,L.size] at this;lia
 obtain⟨j0,XS,e0⟩:=B6;obtain⟨m,hm,em⟩:=mX R (iH (SetTable.bits h) (rM mask)) (yt h) XS;obtain⟨j,ej,en⟩:=qG (mask:=mask) (owner:=owner) m (SetTable.turns mask) (SetTable.bits h % (mask+1)) (SetTable.bits h) (by unfold SetTable.turns;lia)
  (by rw[em,re,<-ou,e0];rfl)
 refine⟨j,ej,?_⟩;have XT:owner.toList[j]?=some none:=by
  rw[re,<-ou] at en;cases hq:owner.toList[j]? with
  |none=>rw[hq] at en;cases en
  |some v=>rw[hq] at en;rw[show v=none from en]
 have Mz:(owner.setIfInBounds j (some k)).toList=owner.toList.set j (some k):=by simp
 refine⟨by simp[L.size],by rw[Mz,xk XT,L.cnt],fun x hx=>?_⟩;rw[Mz] at hx;rcases List.mem_or_eq_of_mem_set hx with z|z
 .exact dM (L.lt x z)
 .cases z;exact jU _
theorem yv(R:zP (mask+1)):∀ (l:List Int) (owner:Array (Option Nat)) (k:Nat),uq (mask+1) owner k->k+l.length<=mask->
  ∃CC,l.foldl (fun dg h=>do
   let (owner,k) <- dg
   let j <- SetTable.layClean.free mask owner (SetTable.turns mask) (SetTable.bits h % (mask+1)) (SetTable.bits h)
   pure (owner.setIfInBounds j (some k),k+1)) (some (owner,k))=some (CC,k+l.length)/\uq (mask+1) CC (k+l.length)
 |[],owner,k,L,_=>⟨owner,rfl,L⟩
 |h::l,owner,k,L,hl=>by
  rw[cZ] at hl;obtain⟨j,ej,L'⟩:=L.one R (by lia) h;obtain⟨o',e,L2⟩:=yv R l _ _ L' (by lia);refine⟨o',?_,by rw[cZ,show k+(l.length+1)=k+1+l.length by lia];exact L2⟩;rw[rG];have:(do
   let (owner,k) <- some (owner,k)
   let j <- SetTable.layClean.free mask owner (SetTable.turns mask) (SetTable.bits h % (mask+1)) (SetTable.bits h)
   pure (owner.setIfInBounds j (some k),k+1):Option (Array (Option Nat)×Nat))=some (owner.setIfInBounds j (some k),k+1):=by
   show (SetTable.layClean.free mask owner (SetTable.turns mask) (SetTable.bits h % (mask+1)) (SetTable.bits h)).bind _=_;rw[ej];rfl
  rw[this,e,cZ,show k+(l.length+1)=k+1+l.length by lia]
theorem ur(R:zP (mask+1))(hs:Array Int)(h:hs.size<=mask):∃owner,SetTable.layClean mask hs=some owner/\uq (mask+1) owner hs.size:=by
 have L0:uq (mask+1) (Array.replicate (mask+1) none) 0:=⟨by simp,by simp[List.countP_replicate],fun x hx=>by simp at hx⟩
 obtain⟨o,e,L⟩:=yv R hs.toList _ 0 L0 (by simpa using h);refine⟨o,?_,by simpa using L⟩;unfold SetTable.layClean;rw[<-Array.foldl_toList];have e':=congrArg (Option.map (·.1)) e;exact e'
theorem xm(L:uq M owner n):
  ((List.range M).filterMap fun j=>(owner.getD j none).map (j,·)).length=n/\∀q∈(List.range M).filterMap (fun j=>(owner.getD j none).map (j,·)),q.2<n:=by
 constructor
 .rw[<-L.cnt];have e:owner.toList=(List.range M).map fun j=>owner.getD j none:=by
   apply List.ext_getElem
   .simp[L.size]
   .intro i h1 h2;simp only[List.getElem_map,List.getElem_range,Array.getElem_toList];rw[re,vy (by simpa using h1)];rfl
  conv=>rhs;rw[e]
  rw[List.countP_map];generalize List.range M=l;induction l with
  |nil=>rfl
  |cons a l ih=>
   rw[wm,<-ih];cases hq:owner.getD a none with
   |none=>rw[List.filterMap_cons_none (by rw[hq];rfl),show (Option.isSome ∘ fun j=>owner.getD j none) a=false by show (owner.getD a none).isSome=false;rw[hq];rfl];simp
   |some x=>rw[Bc (b:=(a,x)) (by rw[hq];rfl),show (Option.isSome ∘ fun j=>owner.getD j none) a=true by show (owner.getD a none).isSome=true;rw[hq];rfl];simp
 .intro q hq;obtain⟨j,_,e⟩:=jR.mp hq;cases hx:owner.getD j none with
  |none=>rw[hx] at e;cases e
  |some x=>
   rw[hx] at e;cases e;refine L.lt x ?_;rw[re,<-ou] at hx;cases hy:owner.toList[j]? with
   |none=>rw[hy] at hx;cases hx
   |some v=>rw[hy] at hx;obtain rfl:v=some x:=hx;exact cY hy
structure ut(hs:Array Int)(t:SetTable):Prop where
 dm:t.dummies=#[]
 sz:t.place.size=hs.size
 ms:(t.mask=7/\hs.size<=4)\/(t.mask=31/\hs.size<=18)\/(t.mask=127/\hs.size<=76)\/(t.mask=511/\hs.size<=306)
theorem ut.XU(T:ut hs t):zP (t.mask+1):=by
 rcases T.ms with ⟨e,_⟩|⟨e,_⟩|⟨e,_⟩|⟨e,_⟩ <;> rw[e]
 .exact Rj
 .exact Hi
 .exact Cw
 .exact Cy
theorem jG(xs:Array α)(p:Nat)(x:α):(SetTable.insertAt xs p x).size=xs.size+1:=by
 unfold SetTable.insertAt;simp;lia
theorem k_(h:y∈(SetTable.insertAt xs p x).toList):y=x\/y∈xs.toList:=by
 unfold SetTable.insertAt at h;rw[dC,lF,vR,vR] at h;rcases cP.mp h with z|z
 .rcases cP.mp z with z|z
  .right;rw[List.extract_eq_drop_take] at z;exact oy (on z)
  .left;simpa using z
 .right;rw[List.extract_eq_drop_take] at z;exact oy (on z)
theorem xn{hs:Array Int}{t:SetTable}{h:Int}(T:ut hs t)(hn:h∉hs.toList)(hl:hs.size<300):∃hs' t',eJ hs t h=some (hs',t')/\ut hs' t'/\hs'.size=hs.size+1/\∀x∈hs'.toList,x=h\/x∈hs.toList:=by
 have Q9:t.place.size<=t.mask:=by rw[T.sz];rcases T.ms with ⟨e,z⟩|⟨e,z⟩|⟨e,z⟩|⟨e,z⟩ <;> lia
 have hh:∀i,i<t.place.size->IU hs i≠h:=by
  intro i hi e;rw[T.sz] at hi;unfold IU at e;rw[vy hi] at e;exact hn (by rw[<-e];simp)
 obtain⟨j,hp⟩:=xj (hashAt:=IU hs) (h:=h) T.XU T.dm Q9 hh;have hg:t.gaveWay=false:=by
  unfold SetTable.gaveWay;rcases T.ms with ⟨e,_⟩|⟨e,_⟩|⟨e,_⟩|⟨e,_⟩ <;> rw[e] <;> rfl
 have q1:(t.put j).1.place=SetTable.insertAt t.place (SetTable.below t.place j) j:=rfl;have q2:(t.put j).1.dummies=#[]:=by
  show (if SetTable.has t.dummies j=true then _ else t.dummies)=_;rw[T.dm];rfl
 have q3:(t.put j).1.mask=t.mask:=rfl;have s1:(SetTable.insertAt hs (t.put j).2 h).size=hs.size+1:=jG _ _ _;have s2:(t.put j).1.place.size=hs.size+1:=by rw[q1,jG,T.sz]
 have fl:(t.put j).1.fill=hs.size+1:=by unfold SetTable.fill;rw[s2,q2];rfl
 have XV:(t.put j).1.fits (SetTable.insertAt hs (t.put j).2 h).size=true:=by
  unfold SetTable.fits;rw[s1,s2,fl,q3];simp;rcases T.ms with ⟨e,z⟩|⟨e,z⟩|⟨e,z⟩|⟨e,z⟩ <;> lia
 unfold eJ;rw[hg,ao bJ,hp];dsimp only;rw[am (by rw[XV,s1];simp;lia)];by_cases hf:(t.put j).1.tooFull=true
 .rw[am hf];have Fm:=hf;unfold SetTable.tooFull at Fm;rw[fl,q3] at Fm;have VJ:(hs.size+1)*5>=t.mask*3:=by simpa using Fm
  have gr:SetTable.grown (hs.size+1)=(hs.size+1)*4:=by unfold SetTable.grown;rw[ao (by lia)]
  obtain⟨m2,VN,I0,R2⟩:∃m2,SetTable.sizeAbove (SetTable.grown (hs.size+1))=m2+1/\((m2=31/\hs.size+1<=18)\/(m2=127/\hs.size+1<=76)\/(m2=511/\hs.size+1<=306))/\zP (m2+1):=by
   rw[gr];rcases T.ms with ⟨e,z⟩|⟨e,z⟩|⟨e,z⟩|⟨e,z⟩
   .have:hs.size=4:=by lia
    exact⟨31,by rw[this];rfl,.inl ⟨rfl,by lia⟩,Hi⟩
   .have:hs.size=18:=by lia
    exact⟨127,by rw[this];rfl,.inr (.inl ⟨rfl,by lia⟩),Cw⟩
   .have:hs.size=76:=by lia
    exact⟨511,by rw[this];rfl,.inr (.inr ⟨rfl,by lia⟩),Cy⟩
   .lia
  have I_:(SetTable.insertAt hs (t.put j).2 h).size<=m2:=by rw[s1];rcases I0 with ⟨e,z⟩|⟨e,z⟩|⟨e,z⟩ <;> lia
  obtain⟨owner,eo,L⟩:=ur R2 (SetTable.insertAt hs (t.put j).2 h) I_;obtain⟨ME,Rk⟩:=xm L;rw[s1] at ME Rk;generalize MF:(List.range (m2+1)).filterMap (fun j=>(owner.getD j none).map (j,·))=live at ME Rk;have er:(t.put j).1.relaid (SetTable.insertAt hs (t.put j).2 h) (SetTable.grown (hs.size+1))=some ({ mask:=m2,place:=(live.map (·.1)).toArray,dummies:=#[],finger:=(t.put j).1.finger,led:=(t.put j).1.led,moves:=(t.put j).1.movedTo m2,plain:=(t.put j).1.plain },(live.map (·.2)).toArray):=by
   unfold SetTable.relaid SetTable.laid;rw[VN];simp only[Nat.add_sub_cancel];rw[eo];show some _=some _;rw[<-MF]
  rw[er];dsimp only;have xg:((live.map (·.2)).toArray.filterMap ((SetTable.insertAt hs (t.put j).2 h)[·]?)).size=hs.size+1:=by
   rw[<-jP,rq];show ((live.map (·.2)).filterMap _).length=_;rw[<-ME,List.filterMap_map];refine CA fun q hq=>?_;show ((SetTable.insertAt hs (t.put j).2 h)[q.2]?).isSome=true;rw[vy (by rw[s1];exact Rk q hq)];rfl
  have XW:∀x,({ mask:=m2,place:=(live.map (·.1)).toArray,dummies:=#[],finger:=(t.put j).1.finger,led:=(t.put j).1.led,moves:=(t.put j).1.movedTo m2,plain:=(t.put j).1.plain }:SetTable).fits x=(decide (hs.size+1=x)&&decide (hs.size+1<=m2)):=by
   intro x;unfold SetTable.fits SetTable.fill;simp[ME];rw[gK];simp
  rw[am (by
   rw[xg,s1,XW,VN];have:hs.size+1<=m2:=by rw[<-s1];exact I_
   simp[this];rcases I0 with ⟨e,z⟩|⟨e,z⟩|⟨e,z⟩ <;> lia)]
  refine⟨_,_,rfl,⟨rfl,?_,?_⟩,xg,fun x hx=>?_⟩
  .rw[xg];simp[ME]
  .rw[xg];exact .inr I0
  .rw[rq] at hx;obtain⟨k,_,ek⟩:=jR.mp hx;refine k_ (p:=(t.put j).2) ?_;rw[<-ou] at ek;exact cY ek
 .rw[ao hf];refine⟨_,_,rfl,⟨q2,by rw[s2,s1],?_⟩,s1,fun x hx=>k_ hx⟩;have Fm:¬ (hs.size+1)*5>=t.mask*3:=by
   intro z;refine hf ?_;unfold SetTable.tooFull;rw[fl,q3];simpa using z
  rw[s1,q3];rcases T.ms with ⟨e,z⟩|⟨e,z⟩|⟨e,z⟩|⟨e,z⟩ <;> lia
theorem mZ:∀ (l:List Int) (hs:Array Int) (t:SetTable),ut hs t->(∀x∈l,x∉hs.toList)->l.Nodup->hs.size+l.length<=300->∃hs' t',l.foldlM (fun q h=>eJ q.1 q.2 h) (hs,t)=some (hs',t')/\hs'.size=hs.size+l.length
 |[],hs,t,_,_,_,_=>⟨hs,t,rfl,rfl⟩
 |h::l,hs,t,T,hn,nd,hl=>by
  rw[cZ] at hl;obtain⟨n1,n2⟩:=d8.mp nd;obtain⟨He,t1,e1,T1,z1,m1⟩:=xn T (hn h cg) (by lia);obtain⟨vh,t2,e2,z2⟩:=mZ l He t1 T1 (fun x hx hy=>by
   rcases m1 x hy with e|e
   .exact n1 (e ▸ hx)
   .exact hn x (b_ _ hx) e) n2 (by lia)
  refine⟨vh,t2,?_,by rw[z2,z1,cZ];lia⟩;rw[List.foldlM_cons];show (eJ hs t h).bind _=_;rw[e1];exact e2
theorem zQ(led:Bool)(nd:l.Nodup)(hl:l.length<=300):∃hs t,sA led l=some (hs,t)/\hs.size=l.length:=by
 obtain⟨hs,t,e,z⟩:=mZ l #[] (SetTable.fresh 0 0 led) ⟨rfl,rfl,.inl ⟨rfl,by decide⟩⟩ (fun x _ h=>by simp at h) nd (by simpa using hl);exact⟨hs,t,e,by simpa using z⟩
def yw:List Nat->Nat->Bool
 |[],_=>true
 |x::xs,dg=>bif Nat.testBit dg x then false else yw xs (dg ||| (1 <<< x))
theorem uv:∀ (l:List Nat) (dg:Nat),yw l dg=true->l.Nodup/\∀x∈l,dg.testBit x=false
 |[],_,_=>⟨gN,fun x h=>(nomatch h)⟩
 |x::xs,dg,h=>by
  unfold yw at h;cases hb:dg.testBit x with
  |true=>rw[hb] at h;cases h
  |false=>
   rw[hb] at h;obtain⟨nd,hx⟩:=uv xs _ h;have VO:∀y∈xs,dg.testBit y=false/\y≠x:=by
    intro y hy;have:=hx y hy;rw[Nat.testBit_or,Nat.one_shiftLeft,Nat.testBit_two_pow] at this;rw[Bool.or_eq_false_iff] at this;exact⟨this.1,fun e=>by have:=this.2;simp[e] at this⟩
   refine⟨d8.mpr ⟨fun hm=>(VO x hm).2 rfl,nd⟩,fun y hy=>?_⟩;rcases bu.mp hy with z|z
   .rw[z];exact hb
   .exact(VO y z).1
def o4:List (Int×Int):=(List.range 32).flatMap fun a=>(List.range 32).map fun b=>(Int.ofNat a,Int.ofNat b)
def Hj(h:Int):Nat:=(h % 6554).toNat
theorem zR(P:Program)(w:World):yw (o4.map fun y=>Hj (dS P w y)) 0=true:=by kernel_rfl
theorem yx(h1:0<=y.1/\y.1<32)(h2:0<=y.2/\y.2<32):y∈o4:=by
 unfold o4;refine wj.mpr ⟨y.1.toNat,cX.mpr (by lia),a_.mpr ⟨y.2.toNat,cX.mpr (by lia),gT ?_ ?_⟩⟩
 .show ((y.1.toNat:Nat):Int)=y.1;lia
 .show ((y.2.toNat:Nat):Int)=y.2;lia
theorem jH:∀ {l:List α},(l.map f).Nodup->∀x∈l,∀y∈l,f x=f y->x=y
 |[],_,_,h,_,_,_=>by cases h
 |a::l,h,x,hx,y,hy,e=>by
  rw[gq] at h;obtain⟨h1,h2⟩:=d8.mp h;rcases bu.mp hx with z|z <;> rcases bu.mp hy with z'|z'
  .rw[z,z']
  .exact absurd (a_.mpr ⟨y,z',by rw[<-e,z]⟩) h1
  .exact absurd (a_.mpr ⟨x,z,by rw[e,z']⟩) h1
  .exact jH h2 x z y z' e
theorem sC(hx:(0<=x.1/\x.1<32)/\(0<=x.2/\x.2<32))(hy:(0<=y.1/\y.1<32)/\(0<=y.2/\y.2<32))(e:dS P w x=dS P w y):x=y:=
 jH (uv _ _ (zR P w)).1 x (yx hx.1 hx.2) y (yx hy.1 hy.2) (congrArg Hj e)
theorem mh:∀ {l:List α},l.Nodup->(∀x∈l,∀y∈l,f x=f y->x=y)->(l.map f).Nodup
 |[],_,_=>gN
 |a::l,h,hf=>by
  obtain⟨h1,h2⟩:=d8.mp h;rw[gq];refine d8.mpr ⟨fun z=>?_,mh h2 fun x hx y hy=>hf x (b_ _ hx) y (b_ _ hy)⟩;obtain⟨y,hy,e⟩:=a_.mp z;have:=hf y (b_ _ hy) a cg e;exact h1 (this ▸ hy)
theorem uw{P:Program}{w:World}(led:Bool){ys:List (Int×Int)}(nd:ys.Nodup)(hr:∀y∈ys,(0<=y.1/\y.1<32)/\(0<=y.2/\y.2<32))(hl:ys.length<=300):
  ∃hs t,sA led (ys.map (dS P w))=some (hs,t)/\hs.size=ys.length:=by
 obtain⟨hs,t,e,z⟩:=zQ led (mh nd fun x hx y hy e=>sC (P:=P) (w:=w) (hr x hx) (hr y hy) e) (by rw[bp];exact hl);exact⟨hs,t,e,by rw[z,bp]⟩
theorem yy:∀ {as:List Addr} {its:List Value},aR (as.map V.ref) its->its=as.map Value.ref
 |[],_,r=>by cases r;rfl
 |a::as,_,r=>by
  cases r with
  |cons r rr=>
   obtain rfl:=(show _=Value.ref a from r)
   rw[yy rr];rfl
def Fn(D:Addr)(n:Nat):HO:=.ext fun h=>∃hs t,iT h D hs t/\hs.size=n
section
variable {X:Cx}
def MG(K:PySem.W.Frag):List V->Hp->VK->Prop:=fun xs H Q=>∃ (l:Addr) (as:List Addr) (ys:List (Int×Int)),xs=[.ref l]/\bz K H l (as.map V.ref)/\as.length=ys.length/\
 (∀i,i<ys.length->Cp K H (as.getD i 0) (ys.getD i (0,0)))/\ys.Nodup/\(∀y∈ys,(0<=y.1/\y.1<32)/\(0<=y.2/\y.2<32))/\ys.length<=300/\∀D,H D=none->Q (.ref D) (upd H D (Fn D ys.length))
theorem zS(hc:X.calm=true)(hu:X.A.units+8<cLine):eM X (.type "set") (MG X.K):=by
 intro ae s σ H xs us Q I r h;obtain⟨l,as,ys,rfl,hl,dL,hp,nd,rg,h3,q⟩:=h;obtain⟨u1,rfl,r1⟩:=r.one;obtain rfl:u1=Value.ref l:=r1;obtain⟨its,rv,pl,hz⟩:=I.list hl;have e:=yy rv;subst e;have XX:g9 s.heap (as.map Value.ref) ys:=⟨by rw[bp,dL],fun i v hv=>by
  rw[bX] at hv;cases ea:as[i]? with
  |none=>rw[ea] at hv;cases hv
  |some a=>
   rw[ea] at hv;obtain rfl:Value.ref a=v:=bS hv;have hi:i<as.length:=(cV.mp ea).1;obtain⟨o,n,t,u,e1,c,d⟩:=xc I (hp i (by lia));have eg:as.getD i 0=a:=by rw[cf,ea];rfl
   rw[eg] at e1;exact⟨a,o,n,t,u,rfl,e1,c,d⟩⟩
 have zN:∀led,∃q:Array Int×SetTable,sA led (ys.map (dS X.prog X.w))=some q/\q.1.size=ys.length:=fun led=>
  let ⟨hs,t,e,z⟩:=uw (P:=X.prog) (w:=X.w) led nd rg h3;⟨(hs,t),e,z⟩
 refine Cr (I.ok.hd hc) hu pl.isList XX (hsN:=fun led=>(zN led).choose.1) (tN:=fun led=>(zN led).choose.2) (fun led=>(zN led).choose_spec.1) fun led h' tk S' k=>?_;refine⟨.ref s.heap.objs.size,_,I.Cj (t':=tk) (o:=Fn s.heap.objs.size ys.length) (fun b u e=>k b u (aX e) e) (rD (aO _)) ⟨⟨_,_,S',(zN led).choose_spec.2⟩,?_,fun h1 h2 ⟨hs,t,⟨o,es,ep,q1,q2⟩,z⟩ kk=>⟨hs,t,⟨o,es,ep,kk o q1,q2⟩,z⟩⟩,rfl,q _ I.fresh⟩;obtain⟨o,_,_,q1,_⟩:=S';exact⟨o,q1⟩
theorem ux:eM X (.builtin "len") (fun xs H Q=>∃D n,xs=[.ref D]/\H D=some (Fn D n)/\n<=4096/\Q (.int n) H):=by
 intro ae s σ H xs us Q I r h;obtain⟨D,n,rfl,e,hn,q⟩:=h;obtain⟨u1,rfl,r1⟩:=r.one;obtain rfl:u1=Value.ref D:=r1;obtain⟨⟨hs,t,⟨o,es,ep,q1,q2,q3,q4,q5,q6⟩,z⟩,_⟩:=(show bK X.prog X.w H s.heap D (Fn D n) from I.bA D _ e)
 have kP:es.size=n:=by rw[<-z,<-q5,gO]
 exact call_len_set q1 ⟨q2,q3.1,q3.2⟩ q4 q6 (by rw[kP];lia) ⟨.int n,H,I.tok _,⟨_,by rw[kP]⟩,q⟩
theorem uy:eM X (.type "range") (fun xs H Q=>∃n,xs=[.int n]/\∀p,H p=none->Q (.ref p) (upd H p (.Em 0 n))):=by
 intro ae s σ H xs us Q I r h;obtain⟨n,rfl,q⟩:=h;obtain⟨u1,rfl,t,rfl⟩:=r.one;refine call_range_1 ⟨.ref s.heap.objs.size,_,I.laid (o:=.Em 0 n) (fun b u e=>cE _ e) (aO _) ⟨_,_,_,cW _ rfl⟩,rfl,q _ I.fresh⟩
theorem xo(hc:X.calm=true):eM X (.type "list") (fun xs H Q=>∃ (p:Addr) (n:Nat),xs=[.ref p]/\H p=some (.Em 0 n)/\n<=1000/\∀l,H l=none->Q (.ref l) (upd H l (.lst ((List.range n).map fun (i:Nat)=>V.int i)))):=by
 intro ae s σ H xs us Q I r h;obtain⟨p,n,rfl,e,hn,q⟩:=h;obtain⟨u1,rfl,r1⟩:=r.one;obtain rfl:u1=Value.ref p:=r1;obtain⟨t,u,v,hp⟩:=(show bK X.prog X.w H s.heap p (.Em 0 n) from I.bA p _ e)
 refine call_list_range (n:=n) (I.ok.hd hc) (show IsRange s.heap p 0 n 1 t u v from hp) (small_one (by lia) (by lia) (by lia) (by lia)) (by rw[rangeSize_one];split <;> lia) (by lia) fun h' tk dg c k g it=>?_;obtain⟨i1,i2⟩:=it;refine⟨.ref s.heap.objs.size,_,I.Cj (t':=tk) (o:=.lst ((List.range n).map fun (i:Nat)=>V.int i)) (fun b u e=>k b u e) (rD (aO _)) ⟨?_,dg.toList,c,?_,by simpa using g⟩,rfl,q _ I.fresh⟩
 .rw[bp,kH];exact bq hn (by decide)
 .have go:∀ (m:Nat) (l:List Value),l.length=m->(∀ (j:Nat) v,l[j]?=some v->∃t,v=Value.int (0+(j:Int)*1) t)->aR ((List.range m).map fun (i:Nat)=>V.int i) l:=by
   intro m;induction m with
   |zero=>intro l hl _;cases l with
    |nil=>exact .nil
    |cons _ _=>cases hl
   |succ m ih=>
    intro l hl hv;have ka:l≠[]:=by intro z;rw[z] at hl;cases hl
    have el:l=l.dropLast++[l.getLast ka]:=(List.dropLast_concat_getLast ka).symm;rw[kJ,dF,el];have IX:l.dropLast.length=m:=by rw[List.length_dropLast,hl];rfl
    refine aR.append (ih _ IX fun j v hj=>hv j v ?_) (.cons ?_ .nil)
    .rw[el];have Hk:j<l.dropLast.length:=(cV.mp hj).1;rw[mB Hk];exact hj
    .obtain⟨t,ht⟩:=hv m (l.getLast ka) (by
      rw[List.getLast_eq_getElem,bZ (by lia:m<l.length)];simp[hl])
     exact⟨t,by rw[ht];simp⟩
  exact go n dg.toList (by simpa using i1) fun j v hj=>i2 j v (by simpa using hj)
end
def fV(e:V->V->Bool):List V->List V->Bool
 |[],[]=>true
 |x::xs,y::ys=>e x y&&fV e xs ys
 |_,_=>false
theorem fW:∀ {xs ys:List V},xs.length=ys.length->fV e xs ys=(List.range xs.length).all fun i=>e (xs.getD i .bi) (ys.getD i .bi)
 |[],[],_=>rfl
 |x::xs,y::ys,h=>by
  have h':xs.length=ys.length:=by simpa using h
  rw[fV,fW h',cZ,rp,rK,List.all_map];rfl
 |[],_::_,h=>by simp at h
 |_::_,[],h=>by simp at h
theorem mi:∀ {xs ys:List V},xs.length≠ys.length->fV e xs ys=false
 |[],[],h=>absurd rfl h
 |x::xs,y::ys,h=>by
  have h':xs.length≠ys.length:=fun z=>h (by simp[z]);rw[fV,mi h',Bool.and_false]
 |[],_::_,_=>rfl
 |_::_,[],_=>rfl
section
variable {X:Cx}
def MH(X:Cx)(H:Hp)(e:V->V->Bool)(x y:V):Prop:=∀ (ae:List (Addr×Obj)) (s:Shared) (σ:St) (A:Around) (u v:Value),aF X ae σ H s->A.units+1<cLine->bj x u->bj y v->SeqAt.EqAt A s u v (e x y)
def MI(X:Cx)(neg:Bool)(e:V->V->Bool):R2:=fun x y H Q=>∃p q xs ys,x=.ref p/\y=.ref q/\bz X.K H p xs/\bz X.K H q ys/\(∀i,i<xs.length->i<ys.length->MH X H e (xs.getD i .bi) (ys.getD i .bi))/\Q (.bl (if neg then !fV e xs ys else fV e xs ys)) H
theorem uz(I:aF X ae σ H s)(hu:A.units+1<cLine)(rx:aR xs us)(ry:aR ys vs)(he:∀i,i<xs.length->i<ys.length->MH X H e (xs.getD i .bi) (ys.getD i .bi)):∀j (h1:j<us.toArray.size) (h2:j<vs.toArray.size),SeqAt.EqAt A s us.toArray[j] vs.toArray[j] (e (xs.getD j .bi) (ys.getD j .bi)):=by
 intro j h1 h2;have j1:j<xs.length:=by rw[rx.length];simpa using h1
 have j2:j<ys.length:=by rw[ry.length];simpa using h2
 have e1:xs[j]?=some (xs.getD j .bi):=by rw[cf,bZ j1];rfl
 have e2:ys[j]?=some (ys.getD j .bi):=by rw[cf,bZ j2];rfl
 obtain⟨u,MJ,ru⟩:=rx.get e1;obtain⟨v,ML,rv⟩:=ry.get e2;have eu:us.toArray[j]=u:=by
  have:us[j]?=some us.toArray[j]:=by simp at h1 |-
  rw[MJ] at this;exact(bS this).symm
 have ev:vs.toArray[j]=v:=by
  have:vs[j]?=some vs.toArray[j]:=by simp at h2 |-
  rw[ML] at this;exact(bS this).symm
 rw[eu,ev];exact he j j1 j2 ae s σ A u v I hu ru rv
theorem CD{e:V->V->Bool}(hu:X.A.units+2<cLine):jm X (compareOp .NotEq) (MI X true e):=by
 intro ae s σ H x y v u Q I rx ry h;obtain⟨p,q,xs,ys,rfl,rfl,hp,hq,he,k⟩:=h;obtain rfl:v=Value.ref p:=rx;obtain rfl:u=Value.ref q:=ry;obtain⟨us,r1,p1,_⟩:=I.list hp;obtain⟨vs,r2,p2,_⟩:=I.list hq;by_cases hl:xs.length=ys.length
 .refine SeqAt.RcNeAt.lists (e:=fun i=>e (xs.getD i .bi) (ys.getD i .bi)) p1.isList p2.isList (by simp only[bU];rw[<-r1.length,<-r2.length];exact hl) (by lia) (uz I (by show X.A.units+1+1<cLine;lia) r1 r2 he) _ _ _ _ ⟨.bl _,H,I,rfl,?_⟩;rw[show us.toArray.size=xs.length by rw[bU,r1.length],<-fW hl];exact k
 .refine SeqAt.RcNeAt.lists_lengths p1.isList p2.isList (by simp only[bU];rw[<-r1.length,<-r2.length];simpa using hl) (by lia) _ _ _ _ ⟨.bl _,H,I,rfl,?_⟩;have k':=k;rw[mi hl] at k';exact k'
theorem Ja(hu:X.A.units+2<cLine):jm X (compareOp .Eq) (MI X false e):=by
 intro ae s σ H x y v u Q I rx ry h;obtain⟨p,q,xs,ys,rfl,rfl,hp,hq,he,k⟩:=h;obtain rfl:v=Value.ref p:=rx;obtain rfl:u=Value.ref q:=ry;obtain⟨us,r1,p1,_⟩:=I.list hp;obtain⟨vs,r2,p2,_⟩:=I.list hq;by_cases hl:xs.length=ys.length
 .refine SeqAt.eq_listAt (e:=fun i=>e (xs.getD i .bi) (ys.getD i .bi)) p1.isList p2.isList (by simp only[bU];rw[<-r1.length,<-r2.length];exact hl) (by lia) (uz I (by show X.A.units+1+1<cLine;lia) r1 r2 he) ⟨.bl _,H,I,rfl,?_⟩;rw[show us.toArray.size=xs.length by rw[bU,r1.length],<-fW hl];exact k
 .refine SeqAt.eq_list_lengthsAt p1.isList p2.isList (by simp only[bU];rw[<-r1.length,<-r2.length];simpa using hl) (by lia) ⟨.bl _,H,I,rfl,?_⟩;have k':=k;rw[mi hl] at k';exact k'
theorem zT(hc:X.calm=true):eM X (.builtin "any") (fun xs H Q=>∃ (p:Addr) (bs:List Bool),xs=[.ref p]/\bz X.K H p (bs.map V.bl)/\Q (.bl (bs.any id)) H):=by
 intro ae s σ H xs us Q I r h;obtain⟨p,bs,rfl,hp,q⟩:=h;obtain⟨u1,rfl,r1⟩:=r.one;obtain rfl:u1=Value.ref p:=r1;obtain⟨its,rv,pl,hz⟩:=I.list hp;have Jb:its=bs.map Value.bool:=by
  have go:∀ (bs:List Bool) (its:List Value),aR (bs.map V.bl) its->its=bs.map Value.bool:=by
   intro bs;induction bs with
   |nil=>intro its r;cases r;rfl
   |cons b bs ih=>
    intro its r;cases r with
    |cons r rr=>
     obtain rfl:=(show _=Value.bool b from r)
     rw[ih _ rr];rfl
  exact go bs its rv
 subst Jb;obtain⟨ob,XY,_⟩:=id pl.isList;have eW:p<s.heap.objs.size:=aX XY;refine call_any_walk (wv pl.isList ⟨s.heap.objs.size,_,_,_,_,_,fun i=>bs.getD i false,rfl,Walks.list (show X.A.in1.handled=none from I.ok.hd hc) _ p (aZ eW) _,⟨⟨_,cW _ rfl,rfl,rfl⟩,pl.isList.push _⟩,fun i v s1 Q' E' hv hq=>?_,fun h' tk k=>?_⟩)
 .have Iy:(bs.map Value.bool)[i]?=some v:=by simpa using hv
  rw[bX] at Iy;cases eb:bs[i]? with
  |none=>rw[eb] at Iy;cases Iy
  |some b=>
   rw[eb] at Iy;obtain rfl:Value.bool b=v:=bS Iy;have:bs.getD i false=b:=by rw[cf,eb];rfl
   have Iz:Q' b s1:=by rw[<-this];exact hq
   exact wpAny_pure Iz
 .have keep:∀b o,s.heap.get? b=some o->h'.get? b=some o:=fun b o e=>k b o (by simpa using aZ (aX e)) (cE _ e);refine⟨.bl (bs.any id),H,I.kept (t':=tk) keep,?_,q⟩;show Value.bool _=Value.bool _;congr 1;have go:∀ (bs:List Bool),((List.range bs.length).any fun i=>bs.getD i false)=bs.any id:=by
   intro bs;induction bs with
   |nil=>rfl
   |cons b bs ih=>
    rw[cZ,rp,jX,List.any_map,jX,<-ih];rfl
  rw[<-go bs];simp
end
def qH(c:Addr)(qual:Str):HO:=.ext fun h=>h.CodeRec (.ref c) qual
theorem CF(x:h.CodeRec (.ref c) qual):bK P w H h c (qH c qual):=by
 refine⟨x,?_,?_⟩
 .obtain⟨c',o,vs,t,e,ho,_⟩:=x;cases e;exact⟨o,ho⟩
 .rintro h1 h2 ⟨c',o,vs,t,e,ho,r⟩ k;cases e;exact⟨c,o,vs,t,rfl,k o ho,r⟩
def Hl(f:Addr)(qual:Str)(params:Arguments)(body:Expr)(scope:Scope)(cells:List (Str×Addr))(c:Addr)(h:Heap):Prop:=
 ∃ (iU:List (Str×Addr)) (pm yz:Value),(∀x a,iU.lookup x=some a->cells.lookup x=some a)/\(∀x,(x,NameKind.free)∈scope.names->∃a,iU.lookup x=some a)/\
  h.get? f=some (PySem.W.kla_obj "<lambda>" qual params body scope iU pm c yz)
def xp(f:Addr)(qual:Str)(params:Arguments)(body:Expr)(scope:Scope)(cells:List (Str×Addr))(c:Addr):HO:=.ext (Hl f qual params body scope cells c)
theorem yA(x:Hl f qual params body scope cells c h):
  bK P w H h f (xp f qual params body scope cells c):=by
 refine⟨x,?_,?_⟩
 .obtain⟨_,_,_,_,_,e⟩:=x;exact⟨_,e⟩
 .rintro h1 h2 ⟨iU,pm,yz,a,b,e⟩ k;exact⟨iU,pm,yz,a,b,k _ e⟩
def lf(lp:Pos)(qual:Str)(P:Addr)(H:Hp):Prop:=H P=some (.oM #[])\/∃c,H P=some (.oM #[rawInt lp.line,rawInt lp.col,.ref c])/\H c=some (qH c qual)
structure Fo(X:Cx)(c P:Addr):Prop where
 code:X.env.code=.ref c
 hd:PySem.W.CodeHd X.base c P
 bm:∃bm o,X.mg "__builtins__"=some (.ref bm)/\bm≠builtinsNs/\bm≠mainGlobals/\X.base.get? bm=some o/\o.cls=.type "module"/\o.dict=some builtinsNs/\o.data=.plain
def Rl(lp:Pos)(qual:Str)(P:Addr)(params:Arguments)(body:Expr)(scope:Scope)(cells:List (Str×Addr)):TE:=fun _ H Q=>lf lp qual P H/\
 ∀ (f c:Addr) (H2:Hp),lf lp qual P H2->(∀b o,H b=some o->b≠P->H2 b=some o)->H2 c=some (qH c qual)->H2 f=some (xp f qual params body scope cells c)->Q (.ref f) H2
theorem uA{lp:Pos}{c:Addr}:TriplesOk (#[rawInt lp.line,rawInt lp.col,.ref c]:Array Value).toList:=trivial
theorem zU:codeAmong lp (#[rawInt lp.line,rawInt lp.col,.ref c]:Array Value).toList=some (.ref c):=by
 show (if ((lp.line:Int)==(lp.line:Int)&&(lp.col:Int)==(lp.col:Int))=true then some (Value.ref c) else _)=_;simp
section
variable {X:Cx} {c P:Addr} {params:Arguments} {body:Expr} {scope:Scope} {lp:Pos} {NB:List Str} {src:List (Option Nat)}
theorem Fo.at(C:Fo X c P)(I:aF X ae σ H s)(hP:H P=some (.oM ps)):s.heap.BuiltinsAt X.mg P:=by
 obtain⟨bm,o,b1,b2,b3,b4,b5,b6,b7⟩:=C.bm;refine⟨bm,o,b1,b2,b3,fun z=>?_,I.bk _ _ b4,b5,b6,b7⟩;have:=(I.bs _ _ b4).2;rw[z,hP] at this;cases this
theorem aF.Hm(I:aF X ae σ H s):s.heap.Ns mainGlobals X.mg:=I.mod.glob.keeps I.bk
theorem Jc(C:Fo X c P)(S:eQ NB src scope X)(Rm:defaultsOf params X.env=([],[]):=by rfl):PE X (.Lambda params body scope lp) (Rl lp (X.env.qual++"<lambda>") P params body scope X.env.cells):=by
 intro ae s σ H Q I h;obtain⟨XZ,h⟩:=h;obtain⟨iU,VP,c1,c2⟩:=g8 I.ok S;refine PySem.W.kla_eval Rm ?_;have kP:∀b o,s.heap.get? b=some o->b<s.heap.objs.size:=fun b o e=>aX e;rcases XZ with hP|⟨c',hP,Ij⟩
 .-- X0 first time
  have MN:s.heap.get? P=some (PySem.W.tabObj #[]):=I.bA P _ hP;have X1:X.env.locals≠P:=fun z=>by have f:=I.free;rw[z,hP] at f;cases f
  have X2:mainGlobals≠P:=fun z=>by
   obtain⟨o,es,ep,e,d,_⟩:=I.mod.glob;have:=(I.bs _ _ e).2;rw[z,hP] at this;cases this
  refine PySem.W.kla_makeFunction (mg:=X.mg) VP I.ok.glob I.Hm C.code (C.hd.keeps I.bk) MN (by trivial) rfl X2 (C.at I hP) fun c' yz h' tk hx Fp eW Rn VQ=>?_;have Fq:∀b o,b≠P->s.heap.get? b=some o->(h'.push (PySem.W.kla_obj "<lambda>" (X.env.qual++"<lambda>") params body scope iU ((X.mg "__name__").getD .none) c' yz)).get? b=some o:=fun b o hb e=>cE _ (hx b o hb e);have X3:c'≠P:=jY (cM (kP _ _ MN) Fp);have X4:h'.objs.size≠P:=jY (cM (kP _ _ MN) (bq Fp (gP eW)));have X5:h'.objs.size≠c':=jY eW;have nf:H h'.objs.size=none:=I.bA.fresh (by lia);have nc:H c'=none:=I.bA.fresh Fp
  let H2:Hp:=upd (upd (upd H P (.oM #[rawInt lp.line,rawInt lp.col,.ref c'])) c' (qH c' (X.env.qual++"<lambda>"))) h'.objs.size (xp h'.objs.size (X.env.qual++"<lambda>") params body scope X.env.cells c')
  have eP:H2 P=some (.oM #[rawInt lp.line,rawInt lp.col,.ref c']):=by
   show upd _ _ _ _=_;rw[al X4.symm,al X3.symm,ag]
  have ec:H2 c'=some (qH c' (X.env.qual++"<lambda>")):=by
   show upd _ _ _ _=_;rw[al X5.symm,ag]
  have ef:H2 h'.objs.size=some (xp h'.objs.size (X.env.qual++"<lambda>") params body scope X.env.cells c'):=ag;have eo:∀b,b≠P->b≠c'->b≠h'.objs.size->H2 b=H b:=fun b h1 h2 h3=>by
   show upd _ _ _ _=_;rw[al h3,al h2,al h1]
  have kK:∀b o,H b=some o->b≠P->H2 b=some o:=fun b o e hb=>by
   rw[eo b hb (aq e nc) (aq e nf)];exact e
  have I2:aF X ae σ H2 { s with heap:=h'.push (PySem.W.kla_obj "<lambda>" (X.env.qual++"<lambda>") params body scope iU ((X.mg "__name__").getD .none) c' yz),toks:=tk }:=by
   refine I.step (g':=s.gens) (d':=s.drawn) (ch:=[]) (fun _ z=>absurd z (by simp)) (fun b o _ _ _ e n=>Fq b o (fun z=>by rw[z,hP] at n;cases n) e) (fun b o _ _ _ e n=>⟨o.slots,Fq b o (fun z=>by rw[z,hP] at n;cases n) e⟩)
    (fun b o _ e n=>?_) (fun b o _ e=>?_) (fun b xs e=>kK b _ e fun z=>by rw[z,hP] at e;cases e) (fun b o u e=>kK b _ e fun z=>by rw[z,hP] at e;cases e) (fun b ps e=>?_) (fun m hm=>?_) (fun b o e=>?_) I.bare
   .rw[eo b (fun z=>by rw[z,hP] at n;cases n) (aZ (cM (kP b o e) Fp)) (aZ (cM (kP b o e) (bq Fp (gP eW))))];exact n
   .by_cases hb:b=P
    .exact⟨_,by rw[hb];exact cE _ VQ⟩
    .exact⟨o,Fq b o hb e⟩
   .by_cases hb:b=P
    .rw[hb] at e |-;rw[hP] at e;cases e;exact⟨#[rawInt lp.line,rawInt lp.col,.ref c'],by rw[eP];simp⟩
    .exact⟨#[],by rw[kK b _ e hb];simp⟩
   .exact(hm.extBut hx X1).push _
   .by_cases VR:b=h'.objs.size
    .subst VR;rw[ef] at e;cases e;exact yA ⟨iU,_,yz,c1,c2,cW _ rfl⟩
    .by_cases Q6:b=c'
     .subst Q6;rw[ec] at e;cases e;refine CF ?_;obtain⟨c₂,oc,vs,t,e2,K7,r⟩:=Rn;exact⟨c₂,oc,vs,t,e2,cE _ K7,r⟩
     .by_cases Ro:b=P
      .subst Ro;rw[eP] at e;cases e;exact cE _ VQ
      .rw[eo b Ro Q6 VR] at e;refine(I.bA b o e).ng (fun d u hd q=>Fq d u ?_ q) (fun d q=>kK d _ q fun z=>by rw[z,hP] at q;cases q) fun d xs q=>kK d _ q fun z=>by rw[z,hP] at q;cases q
       rintro rfl;rcases hd with z|z
       .exact Ro z.symm
       .rw[hP] at z;cases z
  exact⟨.ref h'.objs.size,H2,I2,rfl,h _ c' H2 (.inr ⟨c',eP,ec⟩) kK ec ef⟩
 .-- again
  have MN:s.heap.get? P=some (PySem.W.tabObj #[rawInt lp.line,rawInt lp.col,.ref c']):=I.bA P _ hP;refine PySem.W.kla_makeFunctionHit (mg:=X.mg) VP I.ok.glob I.Hm C.code (C.hd.keeps I.bk) MN uA zU (C.at I hP) fun yz h' tk hk Fp=>?_;have nf:H h'.objs.size=none:=I.bA.fresh Fp
  let H2:Hp:=upd H h'.objs.size (xp h'.objs.size (X.env.qual++"<lambda>") params body scope X.env.cells c')
  have ef:H2 h'.objs.size=some (xp h'.objs.size (X.env.qual++"<lambda>") params body scope X.env.cells c'):=ag;have kK:∀b o,H b=some o->H2 b=some o:=fun b o e=>by
   show upd _ _ _ _=_;rw[al (aq e nf)];exact e
  have Fq:∀b o,s.heap.get? b=some o->(h'.push (PySem.W.kla_obj "<lambda>" (X.env.qual++"<lambda>") params body scope iU ((X.mg "__name__").getD .none) c' yz)).get? b=some o:=fun b o e=>cE _ (hk b o e);have I2:aF X ae σ H2 { s with heap:=h'.push (PySem.W.kla_obj "<lambda>" (X.env.qual++"<lambda>") params body scope iU ((X.mg "__name__").getD .none) c' yz),toks:=tk }:=by
   refine I.step (g':=s.gens) (d':=s.drawn) (ch:=[]) (fun _ z=>absurd z (by simp)) (fun b o _ _ _ e n=>Fq b o e) (fun b o _ _ _ e n=>⟨o.slots,Fq b o e⟩)
    (fun b o _ e n=>?_) (fun b o _ e=>⟨o,Fq b o e⟩) (fun b xs e=>kK b _ e) (fun b o u e=>kK b _ e) (fun b ps e=>⟨#[],by rw[kK b _ e];simp⟩) (fun m hm=>(hm.keeps hk).push _) (I.bA.laid Fq Fp (yA ⟨iU,_,yz,c1,c2,cW _ rfl⟩)) I.bare
   .show upd _ _ _ _=_;rw[al (aZ (cM (kP b o e) Fp))];exact n
  exact⟨.ref h'.objs.size,H2,I2,rfl,h _ c' H2 (.inr ⟨c',kK _ _ hP,kK _ _ Ij⟩) (fun b o e _=>kK b o e) (kK _ _ Ij) ef⟩
end
def CG(X:Cx)(id:String)(ks:List Str)(r:St->List V->List V->Hp->VK->Prop):Prop:=
 ∀ (ae:List (Addr×Obj)) (s:Shared) (σ:St) (H:Hp) (vs zs:List V) (us ws:List Value) (Q:VK),aF X ae σ H s->aR vs us->aR zs ws->r σ vs zs H Q->
  wpAny (model X.prog X.w) X.A (call (.builtin id) us (ks.zip ws)) (EP X ae σ Q) X.xe s
def Rp(r:St->List V->List V->Hp->VK->Prop)(t tk:TA):TE:=fun σ H Q=>t σ H fun vs H1=>tk σ H1 fun zs H2=>r σ vs zs H2 Q
section
variable {X:Cx} {x:Str} {p pos:Pos} {e:Expr} {es:List Expr} {BV:List Keyword} {t tk:TA} {id:String} {ks:List Str} {r:St->List V->List V->Hp->VK->Prop}
theorem zV(hc:CG X id ks r)(hg:Gl X x)(hm:X.mg x=none)(hv:bootBuiltins x=some (.builtin id))(ha:PA X (e::es) t)(X6:PK X BV tk)(hn:x≠"__name__":=by decide)(nk:(x==("__debug__":Str))=false:=by decide)(X7:(backToKw pos (keywordEach BV X.env)).filterMap (·.1)=ks:=by rfl)(he:backTo pos (starEach (e::es) X.env)=(false,eval e X.env)::backTo pos (starEach es X.env):=by rfl)(wZ:(backTo pos (starEach (e::es) X.env)).any (·.1)=false:=by rfl)(pX:(backToKw pos (keywordEach BV X.env)).all (·.1.isSome)=true:=by rfl)(B6:(backToKw pos (keywordEach BV X.env)).any (·.1.isNone)=false:=by rfl):PE X (.Call (.Name x p) (e::es) BV pos) (Rp r t tk):=by
 intro ae s σ H Q I h;refine jS (lS I hg hm hv ?_ hn nk);refine PyProof.Rows.callWith_kw (cn (ha pos ae s σ H _ I h) fun us s1 ⟨vs,H1,I1,r1,q1⟩=>?_) he wZ pX B6;refine cn (X6 pos ae s1 σ H1 _ I1 q1) fun ws s2 ⟨zs,H2,I2,rz,q2⟩=>?_;rw[X7];exact hc ae s2 σ H2 vs zs us ws Q I2 r1 rz q2
end
def Jd(za zb:Int)(ns out:List Int):Prop:=∃ps:List (Int×Int),ps.Perm (ns.map fun z=>((z-za) % zb,z))/\out=ps.map (·.2)/\ps.Pairwise fun p q=>p.1<=q.1
def Je(X:Cx)(qual:Str)(params:Arguments)(body:Expr)(scope:Scope)(ia ib:Nat):St->List V->List V->Hp->VK->Prop:=fun σ vs zs H Q=>
 ∃ (l f c:Addr) (ns:List Int) (za zb:Int),vs=[.ref l]/\zs=[.ref f]/\bz X.K H l (ns.map V.int)/\ns.length<64/\H f=some (xp f qual params body scope X.env.cells c)/\H c=some (qH c qual)/\
  σ[ia]?=some (some (.int za))/\σ[ib]?=some (some (.int zb))/\0<zb/\∀ (r:Addr) (out:List Int),H r=none->Jd za zb ns out->Q (.ref r) (upd H r (.lst (out.map V.int)))
theorem qI:∀ {ns:List Int} {vs:List Value},aR (ns.map V.int) vs->IntsAre vs ns
 |[],_,.nil=>.nil
 |_::_,_,.cons ⟨t,e⟩ r=>by subst e;exact .cons _ t (qI r)
structure MQ(X:Cx)(qual:Str)(params:Arguments)(body:Expr)(scope:Scope)(y a b:Str)(ia ib:Nat):Prop where
 bd:∃p1 p2 p3 p4 p5,body=.BinOp (.BinOp (.Name y p1) .Sub (.Name a p2) p3) .Mod (.Name b p4) p5
 bind:∀iU pm c yz v,bindArgs (PySem.W.kla_fn "<lambda>" qual params body scope iU pm (.ref c) yz) ⟨[v],[]⟩=pure [(y,v)]
 na:X.N[ia]?=some a
 nb:X.N[ib]?=some b
 ca:X.env.scope.names.lookup a=some .cell
 cb:X.env.scope.names.lookup b=some .cell
 ly:scope.names.lookup y=some .local
 fa:scope.names.lookup a=some .free
 fb:scope.names.lookup b=some .free
 ma:(a,NameKind.free)∈scope.names
 mb:(b,NameKind.free)∈scope.names
 Jf:∀z∈scope.names,z.2≠.cell
 kind:scope.kind=.function
 co:scope.isCoroutine=false
 gen:scope.isGenerator=false
 dy:(y==("__debug__":Str))=false
 da:(a==("__debug__":Str))=false/\(a==("__classdict__":Str))=false
 db:(b==("__debug__":Str))=false/\(b==("__classdict__":Str))=false
theorem xq(S:MQ X qual params body scope y a b ia ib)(hr:bv k X.A):
  CG X "sorted" ["key"] (Je X qual params body scope ia ib):=by
 intro ae s σ H vs zs us ws Q I r rz h;obtain⟨l,f,c,ns,za,zb,rfl,rfl,hl,VS,hf,hc,sa,sb,Z7,q⟩:=h;obtain⟨u1,rfl,r1⟩:=r.one;obtain rfl:u1=Value.ref l:=r1;obtain⟨w1,rfl,X8⟩:=rz.one;obtain rfl:w1=Value.ref f:=X8;obtain⟨its,rv,pl,hz⟩:=I.list hl;have hI:=qI rv;obtain⟨m,F⟩:=I.fr;obtain⟨p1,p2,p3,p4,p5,rfl⟩:=S.bd;obtain⟨iU,pm,yz,c1,c2,Mf⟩:=(I.bA f _ hf).1;have X9:s.heap.CodeRec (.ref c) qual:=(I.bA c _ hc).1;obtain⟨m',K6,VT⟩:=I.loc;have MR:∃ca ta,iU.lookup a=some ca/\s.heap.IsCell ca (some (.int za ta)):=by
  obtain⟨u,⟨ta,rfl⟩,lk⟩:=VT ia a (.int za) S.na sa (.inr (.inl S.ca));obtain⟨ca,e1⟩:=c2 a S.ma;rcases lk with ⟨z,_⟩|⟨_,Z8,e2,e3⟩
  .have z':X.env.scope.names.lookup a=some .local:=z;rw[S.ca] at z';cases z'
  .have e4:=c1 a ca e1;rw[e2] at e4;cases e4;exact⟨ca,ta,e1,e3⟩
 have MS:∃cb tb,iU.lookup b=some cb/\s.heap.IsCell cb (some (.int zb tb)):=by
  obtain⟨u,⟨tb,rfl⟩,lk⟩:=VT ib b (.int zb) S.nb sb (.inr (.inl S.cb));obtain⟨cb,e1⟩:=c2 b S.mb;rcases lk with ⟨z,_⟩|⟨_,Z9,e2,e3⟩
  .have z':X.env.scope.names.lookup b=some .local:=z;rw[S.cb] at z';cases z'
  .have e4:=c1 b cb e1;rw[e2] at e4;cases e4;exact⟨cb,tb,e1,e3⟩
 obtain⟨ca,ta,ea,ha⟩:=MR;obtain⟨cb,tb,eb,hb⟩:=MS;have PM:∀b' (o:Obj),s.heap.get? b'=some o->(∀es ep,o.data≠.dict es ep)->b'≠X.env.locals:=fun b' o e d z=>by
  obtain⟨o',es,ep,e',d',_⟩:=F.ns;rw[z,e'] at e;cases e;exact d _ _ d'
 have len:(ns.map fun z=>(z-za) % zb).length=its.length:=by rw[bp,hI.length]
 refine ksk_sorted (b:=false) (f:=.ref f) (kz:=ns.map fun z=>(z-za) % zb) F Bi pl.isList len (by rw[hI.length];exact VS) (ksk_s1 _ _) (fun x=>ksk_l1 _ _) (fun x=>ksk_t1 _ _) ?_ ?_
 .-- one key
  intro i v k hv hk h tk own F' N';have at_:∀b' u,b'≠X.env.locals->s.heap.get? b'=some u->h.get? b'=some u:=fun b' u ka e=>by
   cases z:X.base.get? b' with
   |some o=>
    have:=I.bk b' o z;rw[e] at this;cases this;exact F'.keep b' _ z
   |none=>exact(N' (b',u) (ix _ (iK ka z e))).1
  have Rq:=at_ f _ (PM f _ Mf (by intro es ep z;cases z)) Mf;have Rr:h.CodeRec (.ref c) qual:=by
   obtain⟨c0,o,VU,t0,e0,ho,hd,X_⟩:=X9;refine⟨c0,o,VU,t0,e0,at_ _ _ (PM _ _ ho (by rw[hd];intro es ep z;cases z)) ho,hd,X_⟩
  have Me:h.IsCell ca (some (.int za ta)):=by
   obtain⟨o,ho,hd⟩:=ha;exact⟨o,at_ _ _ (PM _ _ ho (by rw[hd];intro es ep z;cases z)) ho,hd⟩
  have ym:h.IsCell cb (some (.int zb tb)):=by
   obtain⟨o,ho,hd⟩:=hb;exact⟨o,at_ _ _ (PM _ _ ho (by rw[hd];intro es ep z;cases z)) ho,hd⟩
  obtain⟨z,tz,rfl,rfl⟩:∃z tz,v=.int z tz/\k=(z-za) % zb:=by
   obtain⟨n,t,e⟩:=hI.all v (cY hv);refine⟨n,t,e,?_⟩;rw[bX] at hk;have hn:=hI.nums;have e1:(its.map numOf)[i]?=some n:=by rw[bX,hv,e];rfl
   rw[hn] at e1;rw[e1] at hk;exact(bS hk).symm
  have MU:X.A.in1.in1.depth<recursionLimit:=by
   have:=hr.dp;show X.A.depth<_;lia
  refine lP (PySem.W.kla_callFunE MU Rq rfl S.co S.gen rfl Rr ?_);rw[S.bind];refine wpAny_pure (wpAny_newFunctionEnv S.Jf (fun x hx=>by rw[dD.mp hx];exact S.ly) (fun h₁ xr VW=>⟨((I.ok.mod.nolimit).keeps F'.keep).fresh _ VW,?_⟩) S.kind);have MV:∀b o,h.get? b=some o->h₁.get? b=some o:=fun b o e=>VW.extBut b o (aZ (aX e)) (cE _ e);have Ya:=Me.keeps MV;have Yb:=ym.keeps MV;refine PySem.W.kla_codeExpr ?_;refine wpAny_BinOp (wpAny_BinOp ?_);refine lQ (vZ S.kind S.ly xr (v:=.int z tz) (by simp) ?_) S.dy;refine lQ (we S.kind S.fa ea Ya ?_ S.da.2) S.da.1;refine sub_int ?_;refine lQ (we S.kind S.fb eb Yb ?_ S.db.2) S.db.1;refine mod_int' (by lia) ?_;rw[vw _ (by lia)];refine KskEnd.intro (news':=gW X.base s.heap X.env.locals++own) ⟨F'.ns.keeps MV,fun b o e=>MV b o (F'.keep b o e),F'.above⟩ (fun p hp=>⟨MV _ _ (N' p hp).1,(N' p hp).2⟩) fun p hp=>hp
 .-- X0 list
  intro D h' tk out cc F' N' eW Rt;have hD:=pY I N' eW;obtain⟨ps,hp,ho,hs⟩:=Rt;have Fb:∀p∈ps,∃n t,p.2=.int n t:=fun p Lb=>by
   have:=hp.mem_iff.mp Lb;exact hI.all _ (lH this).2
  have Yc:((ns.map fun z=>(z-za) % zb).zip its).map (fun p=>(p.1,numOf p.2))=ns.map fun z=>((z-za) % zb,z):=by
   have hn:=hI.nums;rw[<-hn];have go:∀ (l:List Value),((((l.map numOf).map fun z=>(z-za) % zb).zip l).map fun p=>(p.1,numOf p.2))=(l.map numOf).map fun z=>((z-za) % zb,z):=by
    intro l;induction l with
    |nil=>rfl
    |cons x l ih=>simp only[gq,List.zip_cons_cons,ih]
   exact go its
  have Ce:aR ((ps.map fun p=>(p.1,numOf p.2)).map (fun p=>V.int p.2)) (ps.map Prod.snd):=by
   have go:∀ (l:List (Int×Value)),(∀p∈l,∃n t,p.2=.int n t)->aR ((l.map fun p=>(p.1,numOf p.2)).map (fun p=>V.int p.2)) (l.map Prod.snd):=by
    intro l;induction l with
    |nil=>intro _;exact .nil
    |cons x l ih=>
     intro hx;refine .cons ?_ (ih fun p hp=>hx p (b_ _ hp));obtain⟨n,t,e⟩:=hx x cg;show ∃t,x.2=Value.int (numOf x.2) t;rw[e];exact⟨t,rfl⟩
   exact go ps Fb
  have zW:Jd za zb ns ((ps.map fun p=>(p.1,numOf p.2)).map (·.2)):=by
   refine⟨ps.map fun p=>(p.1,numOf p.2),?_,rfl,?_⟩
   .rw[<-Yc];exact hp.map _
   .refine mI.mpr (hs.imp fun {p q} z=>?_);simpa using z
  have Yd:h'.get? D=some (seqObj "list" out cc):=(N' _ cg).1;have I2:aF X ae σ (upd H D (.lst (((ps.map fun p=>(p.1,numOf p.2)).map (·.2)).map V.int))) { s with heap:=h',toks:=tk }:=by
   refine I.Mw F F' (fun p hp=>N' p (b_ _ hp)) hD ⟨?_,ps.map Prod.snd,cc,?_,?_⟩
   .have h1:=hp.length_eq;rw[List.length_zip,len,Nat.min_self] at h1;simp only[bp];rw[h1,hI.length];exact bq (gP VS) (by decide)
   .have ev:=Ce;simp only[ij] at ev |-;exact ev
   .rw[Yd,<-ho]
  exact⟨.ref D,_,I2,rfl,q D _ (I.bA.o2 hD) zW⟩
def sF(mg:Str->Option Value)(base:Heap):Prop:=∃bm o,mg "__builtins__"=some (.ref bm)/\bm≠builtinsNs/\bm≠mainGlobals/\base.get? bm=some o/\o.cls=.type "module"/\o.dict=some builtinsNs/\o.data=.plain
def yB(ts:List Addr)(H:Hp):Prop:=(∀P∈ts,H P=some (.oM #[]))/\∀b,H b=none\/(b∈ts/\H b=some (.oM #[]))\/∃o xs,H b=some (.qp o (.lst xs))
theorem zX{P:Program}{w:World}{K:PySem.W.Frag}{mg mb:Str->Option Value}{CX:nV}{k:Nat}{fa a:Addr}{fd:FuncData}{x:Str}{sp:Sp}{s₁:Shared}{vs:List Value}{ns:List Int}{ts:List Addr}(KX:K.In s₁.heap)(xr:s₁.heap.Ns mainGlobals mg)(hb:s₁.heap.Ns builtinsNs mb)(Ye:∀x:Str,x≠"__name__"->mb x=bootBuiltins x)(Ru:s₁.heap.NoLimit)(hg:s₁.gens=#[])(Yf:sF mg s₁.heap)(MW:∀P∈ts,s₁.heap.get? P=some (PySem.W.tabObj #[]))(mQ:∀P∈ts,∃c,PySem.W.codeHdIn K c P=true)(Rv:∀P∈ts,K.lookup P=none)(ha:s₁.heap.get? a=some { cls:=.type "list",data:=.seq vs.toArray })(hi:IntsAre vs ns)(hl:ns.length<=sizeLine)(hr:bv k callerA)(F:∀base:Heap,K.In base->base.Ns mainGlobals mg->sF mg base->a7 P w K mg base CX k fa fd [x] sp)(MX:∀ (s:Shared) (u:Value),BindsTo s fd ⟨[u],[]⟩ [(x,u)])(ue:∀H:Hp,yB ts H->bz K H a (ns.map V.int)->sp [.ref a] H (fun v _=>v=.bl true) fun _ _ _=>False)(Rx:∀H e s',CX [] H s₁ (fun _ _ _=>False) e s'->False):
  codeAny (model P w) callerA (.call (.ref fa) ⟨[.ref a],[]⟩) (fun r s'=>r=.ok (.ret (.bool true))/\OldK s₁.heap s'.heap/\s'.os=s₁.os/\AllBare s'.gens) s₁:=by
 have rv:=qA hi;have Ry:=hi.length;have PP:a∉ts:=fun z=>by
  have:=MW a z;rw[ha] at this;cases this
 have MZ:∀H:Hp,yB ts H->bz K H a (ns.map V.int)->ji P w H s₁.heap->(∀b,H b≠none->b=a\/b∈ts)->(H a≠none->K.lookup a=none)->
   codeAny (model P w) callerA (.call (.ref fa) ⟨[.ref a],[]⟩) (fun r s'=>r=.ok (.ret (.bool true))/\OldK s₁.heap s'.heap/\s'.os=s₁.os/\AllBare s'.gens) s₁:=by
  intro H hO hS bA hA hK;have sG:∀ {b:Addr} {o:Obj},s₁.heap.get? b=some o->H b=none->(pS s₁.heap H).get? b=some o:=fun e n=>Bh e n;have Et:∀ {b:Addr} {o:Obj},s₁.heap.get? b=some o->(∀v n,o.data≠.seq v n)->(∀v,o.data≠.fields v)->H b=none:=fun {b o} e d1 d2=>by
   cases q:H b with
   |none=>rfl
   |some u=>
    rcases hA b (by rw[q];simp) with e'|e'
    .subst e';rw[ha] at e;cases e;exact absurd rfl (d1 _ _)
    .rw[MW b e'] at e;cases e;exact absurd rfl (d2 _)
  have PQ:∀ {b:Addr} {m:Str->Option Value},s₁.heap.Ns b m->(pS s₁.heap H).Ns b m:=fun {b m} ⟨o,es,ep,e,d,r⟩=>⟨o,es,ep,sG e (Et e (by rw[d];intro v n z;cases z) (by rw[d];intro v z;cases z)),d,r⟩
  have VX:K.In (pS s₁.heap H):=fun b o e=>sG (KX b o e) (by
   cases q:H b with
   |none=>rfl
   |some u=>
    rcases hA b (by rw[q];simp) with e'|e'
    .subst e';rw[hK (by rw[q];simp)] at e;cases e
    .rw[Rv b e'] at e;cases e)
  have hB:sF mg (pS s₁.heap H):=by
   obtain⟨bm,o,b1,b2,b3,b4,b5,b6,b7⟩:=Yf;exact⟨bm,o,b1,b2,b3,sG b4 (Et b4 (by rw[b7];intro v n z;cases z) (by rw[b7];intro v z;cases z)),b5,b6,b7⟩
  have hM:Mod K mg (pS s₁.heap H):=⟨VX,PQ xr,⟨mb,PQ hb,Ye⟩,let ⟨mc,h1,h2⟩:=Ru;⟨mc,PQ h1,h2⟩⟩
  have e0:se P w K mg (pS s₁.heap H) callerA [] s₁ H:=⟨rfl,hM,fun b o e=>EK e,rO (zo _ _),trivial,fun b hb=>absurd (show b∈([]:List Addr) from hb) (by simp),bA,.of_eq hg⟩
  refine iF ((F _ VX (PQ xr) hB).run callerA [] s₁ H ⟨[.ref a],[]⟩ [.ref a] [.ref a] _ _ hr e0 (MX s₁ (.ref a)) (.cons rfl .nil) (ue H hO hS)) fun r s' h=>?_;cases r with
  |error e=>exact(Rx H e s' h).elim
  |ok fl=>
   cases fl with
   |next=>exact False.elim h
   |brk=>exact False.elim h
   |cont=>exact False.elim h
   |ret u=>
    obtain⟨v,H',os,bare,un,M0,r',q⟩:=h;have q':v=.bl true:=q;subst q';obtain rfl:u=Value.bool true:=r';refine⟨rfl,⟨fun b o e=>?_,fun b o e=>un.there b o e (by simp)⟩,os,bare⟩;cases q:H b with
    |none=>exact .inl (un.keep b o e q (by intro z;exact absurd (show b∈([]:List Addr) from z) (by simp)) (by simp))
    |some u=>
     rcases hO.2 b with z|⟨zt,z⟩|⟨ob,xs,z⟩
     .rw[q] at z;cases z
     .obtain⟨more,z2⟩:=un.jx b _ z;have e1:=MW b zt;rw[e] at e1;cases e1;have e2:s'.heap.get? b=some { cls:=.none,data:=.fields (#[]++more) }:=M0 b _ z2;obtain⟨c,hc⟩:=mQ b zt;obtain⟨oc,Yg,_,_,_,_,_,_,_,g1,g2,g3,g4,_⟩:=PySem.W.codeHd_of_K KX hc;exact .inr (.inl ⟨⟨c,oc,Yg,g1,g2,g3,g4⟩,rfl,#[],more,rfl,e2⟩)
     .have z2:=un.iJ b ob _ z;obtain⟨e1,_⟩:=bA b _ z;obtain⟨e2,_⟩:=M0 b _ z2;rw[e] at e1;cases e1;exact .inl e2
 have VY:∀ (H:Hp),(∀P∈ts,H P=some (.oM #[]))->True:=fun _ _=>trivial
 classical
 cases hk:K.lookup a with
 |some o=>
  have e:=KX a o hk;rw[ha] at e;cases e;refine MZ (fun b=>if b∈ts then some (.oM #[]) else none) ⟨fun P hP=>am hP,fun b=>?_⟩ (.inr ⟨_,vs.toArray,_,hk,rfl,rfl,rfl,by rw[bU,Ry];exact hl,by simpa using rv⟩) (fun b u z=>?_) (fun b z=>?_) fun z=>absurd (ao PP) z
  .by_cases hb:b∈ts
   .exact .inr (.inl ⟨hb,am hb⟩)
   .exact .inl (ao hb)
  .by_cases hb:b∈ts
   .have z':=(am hb).symm.trans z;cases z';exact MW b hb
   .have z':=(ao hb).symm.trans z;cases z'
  .by_cases hb:b∈ts
   .exact .inr hb
   .exact absurd (ao hb) z
 |none=>
  refine MZ (fun b=>if b=a then some (.qp { cls:=.type "list",data:=.seq vs.toArray } (.lst (ns.map V.int))) else if b∈ts then some (.oM #[]) else none) ⟨fun P hP=>?_,fun b=>?_⟩ (.inl (.inr ⟨{ cls:=.type "list",data:=.seq vs.toArray },am rfl⟩)) (fun b u z=>?_) (fun b z=>?_) fun _=>hk
  .have:P≠a:=fun z=>PP (z ▸ hP);show (if P=a then _ else if P∈ts then _ else _)=_;rw[ao this,am hP]
  .by_cases hb:b=a
   .exact .inr (.inr ⟨_,_,am hb⟩)
   .by_cases ht:b∈ts
    .exact .inr (.inl ⟨ht,by show (if b=a then _ else if b∈ts then _ else _)=_;rw[ao hb,am ht]⟩)
    .exact .inl (by show (if b=a then _ else if b∈ts then _ else _)=_;rw[ao hb,ao ht])
  .by_cases hb:b=a
   .have z':=(am hb).symm.trans z;cases z';subst hb;exact⟨ha,by rw[bp];exact hl,vs,_,rv,ha⟩
   .have z1:(if b∈ts then some (HO.oM #[]) else none)=some u:=(ao hb).symm.trans z;by_cases ht:b∈ts
    .rw[am ht] at z1;cases z1;exact MW b ht
    .rw[ao ht] at z1;cases z1
  .by_cases hb:b=a
   .exact .inl hb
   .by_cases ht:b∈ts
    .exact .inr ht
    .exact absurd (by show (if b=a then _ else if b∈ts then _ else _)=_;rw[ao hb,ao ht]) z
theorem CH{l:PySem.W.OpenLaw}{n k:Nat}{q:Program}{qz:List Str}{XP:(Str->Option Value)->Heap->Prop}{YP:World->Heap->Prop}{d:DefRec}{K:Params->PySem.W.Frag}{CX:World->nV}{sp:World->Sp}{x:Str}{ts:List Addr}(hn:l.most=some n)(K_:n<=sizeLine)(Mc:d.params.defaults=[])(hr:bv k callerA)(hY:∀ (w:World) (h:Heap),YP w h->(K w.params).In h)(hT:∀ (w:World) (h:Heap),YP w h->∀P∈ts,h.get? P=some (PySem.W.tabObj #[]))(mQ:∀ (w:World),∀P∈ts,∃c,PySem.W.codeHdIn (K w.params) c P=true)(Rv:∀ (w:World),∀P∈ts,(K w.params).lookup P=none)(F:∀ (w:World) (mg:Str->Option Value) (fa:Addr) (h:Heap),(K w.params).In h->h.Ns mainGlobals mg->mg d.name=some (.ref fa)->
   ∃fd:FuncData,(∀ (s:Shared) (u:Value),BindsTo s fd ⟨[u],[]⟩ [(x,u)])/\
    ∀base:Heap,(K w.params).In base->base.Ns mainGlobals mg->sF mg base->a7 l.prog w (K w.params) mg base (CX w) k fa fd [x] (sp w))(ue:∀ (w:World) (H:Hp) (a:Addr) (ns:List Int),ns.length<=n->yB ts H->bz (K w.params) H a (ns.map V.int)->sp w [.ref a] H (fun v _=>v=.bl true) fun _ _ _=>False)(Rx:∀ (w:World) (H:Hp) (s:Shared) (e:Value) (s':Shared),CX w [] H s (fun _ _ _=>False) e s'->False):
  PySem.W.WalkO q qz XP YP l.row.toRowW d [] (fun f vs=>PySem.call f vs):=by
 refine Vs.uf hn Mc fun w s₀ s₁ mg mb fa o pm cd jo a vs ns G Y ho hd Yh Md II Cf dL hg=>?_;have KX:=hY w _ Y;obtain⟨fd,hb,hF⟩:=F w mg fa _ KX G.T.g Md;have hB:sF mg s₁.heap:=by
  obtain⟨bm,ob,b1,b2,b3,b4,b5,b6⟩:=G.T.bmain;refine⟨bm,ob,b1,b2,fun z=>?_,b3,b4,b5,b6⟩;obtain⟨o',es,ep,e,LB,_⟩:=G.T.g;rw[z,e] at b3;cases b3;rw[LB] at b6;cases b6
 exact zX KX G.T.g G.T.b G.T.builtins G.T.nolimit hg hB (hT w _ Y) (mQ w) (Rv w) II Cf (bq dL K_) hr hF hb (fun H hO hS=>ue w H a ns dL hO hS) fun H e s'=>Rx w H s₁ e s'
structure xt(K:PySem.W.Frag)(x qual:Str)(st:Stmt)(f:Addr)(fd:FuncData)(c:Addr):Prop where
 ex:∃ (oc:Value) (od:Option Addr) (kV jo pm:Value) (an:Option Addr) (ct:Value) (qx:Array (Option Value)),
  fd=PySem.W.fnOf x qual (cD st) (bt st) (ak st) .none kV jo pm an (.ref c) ct/\K.lookup f=some ⟨oc,od,.func fd,qx⟩/\PySem.W.codeIn K (.ref c) qual=true
 kp:PySem.W.keepIn K (.ref f)=true
theorem xt.fun{K:PySem.W.Frag}{x qual:Str}{st:Stmt}{f:Addr}{fd:FuncData}{c:Addr}(F:xt K x qual st f fd c):dH K x qual st f fd:=by
 obtain⟨oc,od,kV,jo,pm,an,ct,qx,e,lk,mQ⟩:=F.ex;exact⟨⟨oc,od,kV,jo,pm,an,_,ct,qx,e,lk,mQ⟩,F.kp⟩
section
variable {P:Program} {w:World} {K:PySem.W.Frag} {mg:Str->Option Value} {base:Heap}
theorem xt.ok{x qual:Str}{st:Stmt}{f:Addr}{fd:FuncData}{c:Addr}{N ps:List Str}{k:Nat}{sp:Sp}(F:xt K x qual st f fd c)(S:aA N ps (ak st))(len:∀vs H Q E,sp vs H Q E->vs.length=ps.length)(iP:∀ (A:Around) (outer:List Env) (s:Shared) (H:Hp) (vs:List V) (Q:VK) (E:XK),bv k (A.deeper (envOfC qual (ak st) s.heap.objs.size f (.ref c)))->sp vs H Q E->
   ∃t,pL (gu a9 P w K mg base N qual (ak st) f (.ref c) A outer s H E).Es (bt st) t/\t { nx:=fun _ H'=>Q .bi H',rt:=Q } (start N vs) H):a7 P w K mg base a9 (k+1) f fd ps sp:=by
 obtain⟨oc,od,kV,jo,pm,an,ct,qx,rfl,lk,mQ⟩:=F.ex;refine BY lk mQ S len fun A outer s H vs Q E hr ue=>?_;obtain⟨t,h,q⟩:=iP A outer s H vs Q E hr ue;exact⟨t,h.Es,q⟩
theorem Fs{x qual:Str}{st:Stmt}{f c:Addr}{oc:Value}{od an:Option Addr}{qx:Array (Option Value)}{kV jo pm ct:Value}(l:K.lookup f=some ⟨oc,od,.func (PySem.W.fnOf x qual (cD st) (bt st) (ak st) .none kV jo pm an (.ref c) ct),qx⟩)(mQ:PySem.W.codeIn K (.ref c) qual=true)(kp:PySem.W.keepIn K (.ref f)=true):xt K x qual st f (PySem.W.fnOf x qual (cD st) (bt st) (ak st) .none kV jo pm an (.ref c) ct) c:=⟨⟨oc,od,kV,jo,pm,an,ct,qx,rfl,l,mQ⟩,kp⟩
theorem Ft(kb:K.In base)(hb:sF mg base)(hc:PySem.W.codeHdIn K c P'=true):
  Fo (gu CX P w K mg base N qual scope f (.ref c) A outer s H E).Es c P':=⟨rfl,PySem.W.codeHd_of_K kb hc,hb⟩
end
def nY(sc Rz:Scope)(y:Str×NameKind):Bool:=match y.2 with
 |.cell=>(match sc.names.lookup y.1 with|some .cell=>true|_=>false)
 |.local=>(match sc.names.lookup y.1 with|some .local=>true|_=>false)
 |.free=>(match Rz.names.lookup y.1 with|some .cell=>true|some .free=>true|_=>false)
 |_=>true
def CI(NB:List Str)(src:List (Option Nat))(sc:Scope)(N:List Str)(i:Nat):Bool:=match NB[i]?,src[i]? with
 |some x,some (some j)=>(N[j]?==some x)&&(match sc.names.lookup x with|some .free=>true|_=>false)
 |_,_=>true
def yC(sc:Scope):Bool:=match sc.kind with|.function=>true|_=>false
def CJ(NB:List Str)(src:List (Option Nat))(sc Rz:Scope)(N:List Str):Bool:=
 yC sc&&decide NB.Nodup&&(src.length==NB.length)&&(sc.names.all (nY sc Rz))&&(List.range NB.length).all (CI NB src sc N)
theorem dq(h:CJ NB src sc X.env.scope X.N=true):eQ NB src sc X:=by
 unfold CJ at h;simp only[gj,lE,fG,ii] at h;obtain⟨⟨⟨⟨h1,h2⟩,h3⟩,h4⟩,h5⟩:=h;refine⟨?_,h2,h3,fun y hy z=>?_,fun y hy z=>?_,fun y hy z=>?_,fun i x j e1 e2=>?_⟩
 .unfold yC at h1;split at h1
  .assumption
  .cases h1
 .have:=h4 y hy;obtain⟨n,k⟩:=y;obtain rfl:k=.cell:=z;dsimp only[nY] at this |-;split at this
  .assumption
  .cases this
 .have:=h4 y hy;obtain⟨n,k⟩:=y;obtain rfl:k=.local:=z;dsimp only[nY] at this |-;split at this
  .assumption
  .cases this
 .have:=h4 y hy;obtain⟨n,k⟩:=y;obtain rfl:k=.free:=z;dsimp only[nY] at this |-;split at this
  .exact .inl (by assumption)
  .exact .inr (by assumption)
  .cases this
 .have hi:i<NB.length:=(cV.mp e1).1;have:=h5 i (cX.mpr hi);unfold CI at this;rw[e1,e2] at this;simp only[gj,fG] at this;refine⟨this.1,?_⟩;have t2:=this.2;split at t2
  .assumption
  .cases t2
theorem gz{K:PySem.W.Frag}{a D:Addr}{xs:List V}{g:TG}{tt:TT}{te:TE}{dt:Hp->Prop}{σB:St}{H0:Hp}(Pv:Nat->List V->St->Hp->Prop)(h0:Pv 0 [] σB H0)(hl:∀i ys σ H,i<=xs.length->Pv i ys σ H->bz K H a xs)(hs:∀i x ys σ H (Kt:V->St->Hp->Prop) (Kf:St->Hp->Prop),xs[i]?=some x->Pv i ys σ H->
   (∀v σ2 H4,H4 D=some (.lst ys)->ys.length<sizeLine->Pv (i+1) (ys++[v]) σ2 (upd H4 D (.lst (ys++[v])))->Kt v σ2 H4)->(∀σ2 H3,Pv (i+1) ys σ2 H3->Kf σ2 H3)->
   g x σ H fun σ2 H2=>tt σ2 H2 fun b H3=>if b=true then te σ2 H3 fun v H4=>Kt v σ2 H4 else Kf σ2 H3)(hd:∀ys σ H,Pv xs.length ys σ H->dt H):jE (EQ K a) g tt te D dt σB H0:=by
 refine⟨fun i m σ H=>m=xs.length-i/\i<=xs.length/\∃ys,Pv i ys σ H,⟨xs.length,by simp,cR _,[],h0⟩,?_⟩;rintro i m σ H ⟨rfl,hi,ys,p⟩;have q:=hl i ys σ H hi p;by_cases eW:i<xs.length
 .refine .inr ⟨⟨xs,xs[i],q,by simp[eW]⟩,?_⟩;rintro x H' ⟨rfl,y⟩;exact hs i x ys σ _ (fun v σ2 H4=>∃ys,H4 D=some (.lst ys)/\ys.length<sizeLine/\∃m',m'<xs.length-i/\m'=xs.length-(i+1)/\i+1<=xs.length/\∃uB,Pv (i+1) uB σ2 (upd H4 D (.lst (ys++[v]))))
   (fun σ2 H3=>∃m',m'<xs.length-i/\m'=xs.length-(i+1)/\i+1<=xs.length/\∃uB,Pv (i+1) uB σ2 H3) (y xs q) p
   (fun v σ2 H4 z1 z2 z3=>⟨ys,z1,z2,_,by lia,rfl,eW,_,z3⟩) (fun σ2 H3 z=>⟨_,by lia,rfl,eW,_,z⟩)
 .have e:i=xs.length:=by lia
  subst e;exact .inl ⟨⟨xs,q,aO _⟩,hd ys σ H p⟩
theorem et{lo:Int}{n:Nat}{D:Addr}{g:TG}{tt:TT}{te:TE}{dt:Hp->Prop}{σB:St}{H0:Hp}(Pv:Nat->List V->St->Hp->Prop)(h0:Pv 0 [] σB H0)(hs:∀i ys σ H (Kt:V->St->Hp->Prop) (Kf:St->Hp->Prop),i<n->Pv i ys σ H->
   (∀v σ2 H4,H4 D=some (.lst ys)->ys.length<sizeLine->Pv (i+1) (ys++[v]) σ2 (upd H4 D (.lst (ys++[v])))->Kt v σ2 H4)->(∀σ2 H3,Pv (i+1) ys σ2 H3->Kf σ2 H3)->
   g (.int (lo+i)) σ H fun σ2 H2=>tt σ2 H2 fun b H3=>if b=true then te σ2 H3 fun v H4=>Kt v σ2 H4 else Kf σ2 H3)(hd:∀ys σ H,Pv n ys σ H->dt H):jE (By lo n) g tt te D dt σB H0:=by
 refine⟨fun i m σ H=>m=n-i/\i<=n/\∃ys,Pv i ys σ H,⟨n,by simp,cR _,[],h0⟩,?_⟩;rintro i m σ H ⟨rfl,hi,ys,p⟩;by_cases eW:i<n
 .refine .inr ⟨eW,?_⟩;rintro x H' ⟨rfl,rfl⟩;exact hs i ys σ _ (fun v σ2 H4=>∃ys,H4 D=some (.lst ys)/\ys.length<sizeLine/\∃m',m'<n-i/\m'=n-(i+1)/\i+1<=n/\∃uB,Pv (i+1) uB σ2 (upd H4 D (.lst (ys++[v]))))
   (fun σ2 H3=>∃m',m'<n-i/\m'=n-(i+1)/\i+1<=n/\∃uB,Pv (i+1) uB σ2 H3) eW p
   (fun v σ2 H4 z1 z2 z3=>⟨ys,z1,z2,_,by lia,rfl,eW,_,z3⟩) (fun σ2 H3 z=>⟨_,by lia,rfl,eW,_,z⟩)
 .have e:i=n:=by lia
  subst e;exact .inl ⟨aO _,hd ys σ H p⟩
section
variable {κ:Type} [DecidableEq κ]
def uC(cu:List (κ×V))(k:κ)(v:V):List (κ×V):=
 if (cu.any fun kv=>decide (kv.1=k))=true then cu.map (fun kv=>if kv.1=k then (kv.1,v) else kv) else cu++[(k,v)]
theorem uD(cu:List (κ×V))(k:κ)(v:V):(uC cu k v).length<=cu.length+1:=by
 unfold uC;split
 .rw[bp];lia
 .rw[cz,cZ,wu];lia
theorem KV.any{cu:List (κ×V)}{vs:List (κ×Value)}(r:KV cu vs)(k:κ):(cu.any fun kv=>decide (kv.1=k))=vs.any fun kv=>decide (kv.1=k):=by
 unfold KV at r;induction r with
 |nil=>rfl
 |cons h t ih=>rw[jX,jX,ih,h.1]
theorem KV.RA{cu:List (κ×V)}{vs:List (κ×Value)}(r:KV cu vs)(k:κ){y:V}{u:Value}(ry:bj y u):
  KV (cu.map fun kv=>if kv.1=k then (kv.1,y) else kv) (vs.map fun kv=>if kv.1=k then (kv.1,u) else kv):=by
 unfold KV at r |-;induction r with
 |nil=>exact .nil
 |@cons p q ps qs h t ih=>
  rw[gq,gq];refine .cons ?_ ih;obtain⟨h1,h2⟩:=h;by_cases e:p.1=k
  .rw[am e,am (h1.symm.trans e)];exact⟨h1,ry⟩
  .rw[ao e,ao (fun z=>e (h1.trans z))];exact⟨h1,h2⟩
theorem KV.put{cu:List (κ×V)}{vs:List (κ×Value)}(r:KV cu vs)(k:κ){y:V}{u:Value}(ry:bj y u):KV (uC cu k y) (stored vs k u):=by
 unfold uC stored;rw[r.any k];by_cases e:(vs.any fun kv=>decide (kv.1=k))=true
 .rw[am e,am e];exact r.RA k ry
 .rw[ao e,ao e];exact Paired.snoc r ⟨rfl,ry⟩
end
theorem M1(r:bj (kV k) u):(eE P w).is k u=true:=by
 cases k with
 |inl i=>obtain⟨t,e⟩:=(show ∃t,u=Value.int i t from r);subst e;exact tZ P w i t
 |inr x=>obtain⟨t,e⟩:=(show ∃t,u=Value.str x t from r);subst e;exact t_ P w x t
section
variable {P:Program} {w:World} {H:Hp} {h:Heap} {a:Addr}
theorem M2(ok:ji P w H h)(e:Rd H a u):bK P w H h a u:=e.ok ok
theorem M3(ok:ji P w H h)(e:Rd H a (.dK cu)):cu.length<=sizeLine/\(a==sysModules)=false/\∃vs,KV cu vs/\h.DictOf (eE P w) a vs:=
 show bK P w H h a (.dK cu) from M2 ok e
theorem M4{cu:List (jw×V)}(ok:ji P w H h)(e:H a=some (.dK cu)):cu.length<=sizeLine/\(a==sysModules)=false/\∃vs,KV cu vs/\h.DictOf (eE P w) a vs:=M3 ok (.inl e)
end
section
variable {X:Cx} {ae:List (Addr×Obj)} {σ:St} {H:Hp} {s:Shared} {a:Addr} {y v:V} {u r:Value} {o:Option V} {A:Around} {E:Value->Shared->Prop}
theorem aF.big(I:aF X ae σ H s):sysModules<s.heap.objs.size:=by
 have h:mainGlobals<s.heap.objs.size:=(I.mod.glob.keeps I.bk).lt;exact Nat.lt_trans (by decide) h
theorem Fu{h':Heap}{t':Nat}{ob:HO}(I:aF X ae σ H s)(mu:Lw (H a))(hs:Heap.SameBut a s.heap h')(he:∃q,h'.get? a=some q)(new:bK X.prog X.w (upd H a ob) h' a ob):
  aF X ae σ (upd H a ob) { s with heap:=h',toks:=t' }:=
 I.write (x:=a) (e:=a) mu (.inl rfl) (fun b q hb z=>(hs.2 b hb).trans z) he new
theorem Jg{P:Program}{w:World}{H':Hp}{h':Heap}{cu:List (jw×V)}{vs:List (jw×Value)}(z:cu.length<=sizeLine)(hd:(a==sysModules)=false)(M5:KV cu vs)(dd:h'.DictOf (eE P w) a vs):
  bK P w H' h' a (.dK cu):=⟨z,hd,vs,M5,dd⟩
end
section
variable {X:Cx} {ae:List (Addr×Obj)} {σ:St} {H:Hp} {s:Shared} {a:Addr} {cu:List (jw×V)} {k:jw} {u:Value} {A:Around} {E:Value->Shared->Prop}
end
section
variable {X:Cx} {o i e value:Expr} {pos zw L3:Pos} {td ty tv:TE}
end
theorem uE{P:Program}{w:World}{H:Hp}(h:Heap)(hb:sysModules<h.objs.size):bK P w H (h.push { cls:=.type "dict",data:=.dict #[] }) h.objs.size (.dK []):=
 ⟨cR _,jO.mpr (ci (aZ hb)),[],.nil,Heap.DictOf.new h⟩
def xu:TE:=fun _ H Q=>∀p,H p=none->Q (.ref p) (upd H p (.dK []))
section
variable {X:Cx} {pos:Pos}
theorem CL:PE X (.Dict [] [] pos) xu:=fun ae s σ H Q I h=>
 wpAny_Dict_empty ⟨.ref s.heap.objs.size,_,I.laid (a:=s.heap.objs.size) (o:=.dK []) (t':=s.toks) (fun _ _ q=>cE _ q) (aO _) (uE s.heap I.big),rfl,h _ (I.bA.fresh (aO _))⟩
end
def xv:List (TE×TE)->St->Hp->(List (V×V)->Hp->Prop)->Prop
 |[],_,H,Q=>Q [] H
 |(tk,tv)::r,σ,H,Q=>tk σ H fun x H1=>tv σ H1 fun y H2=>xv r σ H2 fun ps H3=>Q ((x,y)::ps) H3
abbrev VV:List (V×V)->List (Value×Value)->Prop:=Paired fun p q=>bj p.1 q.1/\bj p.2 q.2
def PU(X:Cx)(pos:Pos)(uF:List (Option Expr))(o5:List Expr)(Fv:List (TE×TE)):Prop:=
 ∀ (ae:List (Addr×Obj)) (s:Shared) (σ:St) (H:Hp) (Q:List (V×V)->Hp->Prop),aF X ae σ H s->xv Fv σ H Q->
  wpAny (model X.prog X.w) X.A (evalPairs (pairTrees uF o5 X.env pos)) (fun vs s'=>∃ps H',aF X ae σ H' s'/\VV ps vs/\Q ps H') X.xe s
theorem Fw{X:Cx}{pos:Pos}:PU X pos [] [] []:=fun ae s σ H Q I h=>pairTrees_nil_walk ⟨[],H,I,.nil,h⟩
theorem CM{X:Cx}{pos:Pos}{k v:Expr}{ks:List (Option Expr)}{vs:List Expr}{tk tv:TE}{Fv:List (TE×TE)}(hk:PE X k tk)(hv:PE X v tv)(hr:PU X pos ks vs Fv):
  PU X pos (some k::ks) (v::vs) ((tk,tv)::Fv):=fun ae s σ H Q I h=>
 pairTrees_cons_walk (cn (hk ae s σ H _ I h) fun u s1 ⟨x,H1,I1,rx,q1⟩=>cn (hv ae s1 σ H1 _ I1 q1) fun w2 s2 ⟨y,H2,I2,ry,q2⟩=>
  cn (hr ae s2 σ H2 _ I2 q2) fun ws s3 ⟨ps,H3,I3,M5,q3⟩=>⟨(x,y)::ps,H3,I3,.cons ⟨rx,ry⟩ M5,q3⟩)
def iV(cu more:List (jw×V)):List (jw×V):=more.foldl (fun dg kv=>uC dg kv.1 kv.2) cu
theorem KV.merge:∀ {more:List (jw×V)} {rs:List (jw×Value)} {cu:List (jw×V)} {vs:List (jw×Value)},KV more rs->KV cu vs->KV (iV cu more) (merged vs rs):=by
 intro more rs cu vs r;unfold KV at r;induction r generalizing cu vs with
 |nil=>intro q;exact q
 |@cons p q ps qs h t ih=>
  intro r0;have e:KV (uC cu p.1 p.2) (stored vs q.1 q.2):=by
   have:=r0.put p.1 h.2;rw[<-h.1];exact this
  exact ih e
theorem jI:∀ (more cu:List (jw×V)),(iV cu more).length<=cu.length+more.length
 |[],cu=>by show cu.length<=cu.length+0;lia
 |p::r,cu=>by
  have h1:=jI r (uC cu p.1 p.2);have h2:=uD cu p.1 p.2;show (iV (uC cu p.1 p.2) r).length<=_;rw[cZ];lia
theorem o6{P:Program}{w:World}:∀ {cu:List (jw×V)} {ws:List (Value×Value)},VV (cu.map fun kv=>(kV kv.1,kv.2)) ws->∃rs,Carries (eE P w) ws rs/\KV cu rs
 |[],_,r=>by rw[List.map_nil] at r;cases r;exact⟨[],True.intro,.nil⟩
 |p::cu,_,r=>by
  rw[gq] at r;cases r with
  |@cons a b as bs h t=>
   obtain⟨rs,c,q⟩:=o6 (P:=P) (w:=w) t;obtain⟨b1,b2⟩:=b;exact⟨(p.1,b2)::rs,⟨M1 h.1,rfl,c⟩,.cons ⟨rfl,h.2⟩ q⟩
def yD(Fv:List (TE×TE)):TE:=fun σ H Q=>∀p,H p=none->xv Fv σ (upd H p (.dK [])) fun ps H2=>H2 p=some (.dK [])/\∃cu:List (jw×V),ps=cu.map (fun kv=>(kV kv.1,kv.2))/\cu.length<=15/\Q (.ref p) (upd H2 p (.dK (iV [] cu)))
theorem Fx{X:Cx}{pos:Pos}{uF:List (Option Expr)}{o5:List Expr}{Fv:List (TE×TE)}(h:PU X pos uF o5 Fv)(pX:uF.all (·.isSome)=true)(hl:uF.length=o5.length)(h0:uF≠[])(Yi:uF.length<=15):PE X (.Dict uF o5 pos) (yD Fv):=by
 intro ae s σ H Q I q;have hn:=I.bA.fresh (aO s.heap.objs.size);have I1:=I.laid (a:=s.heap.objs.size) (o:=.dK []) (h':=s.heap.push { cls:=.type "dict",data:=.dict #[] }) (t':=s.toks) (fun _ _ q=>cE _ q) (aO _) (uE s.heap I.big);refine wpAny_Dict_walk (knd:=eE X.prog X.w) pX hl h0 Yi (cn (h ae _ σ _ _ I1 (q _ hn)) fun ws s2 ⟨ps,H2,I2,M5,e,cu,ep,lk,q2⟩=>?_);subst ep;obtain⟨rs,c,rk⟩:=o6 (P:=X.prog) (w:=X.w) M5;obtain⟨z,hd,VU,r0,dd⟩:=M4 I2.bA e;cases r0;refine⟨rs,c,dd,fun h' VZ hs=>⟨.ref s.heap.objs.size,_,?_,rfl,q2⟩⟩;have hz:(iV [] cu).length<=sizeLine:=by
  have h1:=jI cu [];rw[wu] at h1;rw[gQ];lia
 have he:∃q,h'.get? s.heap.objs.size=some q:=let ⟨q,_,_,hq,_⟩:=VZ;⟨q,hq⟩;exact Fu I2 (by rw[e];exact True.intro) hs he (Jg hz hd (rk.merge .nil) VZ)
section
variable {X:Cx} {ae:List (Addr×Obj)} {σ:St} {H:Hp} {s:Shared} {a:Addr} {y d:V} {u r:Value} {o:Option V} {A:Around} {E:Value->Shared->Prop}
end
section
variable {X:Cx} {o e f:Expr} {nj nq:Pos} {td ty tx:TE}
end
section
variable {X:Cx} {ae:List (Addr×Obj)} {σ:St} {H:Hp} {s:Shared} {a:Addr} {cu:List (jw×V)} {A:Around} {E:Value->Shared->Prop}
end
section
variable {X:Cx} {ae:List (Addr×Obj)} {σ:St} {H:Hp} {s:Shared} {a:Addr} {y:V} {u:Value} {A:Around} {E:Value->Shared->Prop}
end
section
variable {X:Cx}
end
section
variable {κ:Type} [DecidableEq κ]
end
section
variable {X:Cx}
end
theorem aF.Fy(I:aF X ae σ H s)(fe:jy X ae H e)(fi:jy X ae H it)(k:∀b o,b≠e->b≠it->s.heap.get? b=some o->h'.get? b=some o)(ke:∃o,h'.get? e=some o)(ki:∃o,h'.get? it=some o)(hp:s.heap.objs.size<=p)(hl:xs.length<=sizeLine)(r:aR xs its)(ht:h'.get? p=some { cls:=.type "tuple",data:=.seq its.toArray }):aF X ae σ (upd H p (.tup xs)) { s with heap:=h',toks:=t' }:=by
 have hn:=I.bA.fresh hp;obtain⟨e0,e1,e2,e3,e4,e5⟩:=fe;obtain⟨i0,i1,i2,i3,i4,i5⟩:=fi;have ne:∀b o,s.heap.get? b=some o->b≠p:=fun b o q=>aZ (cM (aX q) hp);have yE:∀b o,H b=some o->b≠e/\b≠it:=fun b o q=>⟨(fun z=>by rw[z,e0] at q;cases q),(fun z=>by rw[z,i0] at q;cases q)⟩
 refine I.step (g':=s.gens) (d':=s.drawn) (ch:=[e,it]) (fun b hb=>?_) (fun b o _ _ hb q _=>?_) (fun b o _ _ hb q _=>⟨o.slots,?_⟩) (fun b o hb q n=>by rw[al (ne b o q)];exact n) (fun b o hb q=>⟨o,?_⟩)
  (fun b ys q=>by rw[al (aq q hn)];exact q) (fun b o u q=>by rw[al (aq q hn)];exact q) (fun b ps q=>⟨#[],by rw[al (aq q hn),q];simp⟩) (fun m hm=>?_) (fun b o q=>?_) I.bare
 .rcases bu.mp hb with rfl|hb
  .exact⟨e3,e1,e4,e5⟩
  .rw[dD.mp hb];exact⟨i3,i1,i4,i5⟩
 .exact k b o (fun z=>hb (z ▸ cg)) (fun z=>hb (z ▸ b_ _ cg)) q
 .exact k b o (fun z=>hb (z ▸ cg)) (fun z=>hb (z ▸ b_ _ cg)) q
 .exact k b o (fun z=>hb (z ▸ cg)) (fun z=>hb (z ▸ b_ _ cg)) q
 .obtain⟨o,es,ep,q,d,r'⟩:=hm;exact⟨o,es,ep,k _ _ e1.symm i1.symm q,d,r'⟩
 .by_cases hb:b=p
  .subst hb;rw[ag] at q;cases q;exact⟨hl,its,r,_,ht,rfl,_,rfl,rfl⟩
  .rw[al hb] at q;refine(I.bA b o q).ng (fun c u hc z=>k c u ?_ ?_ z) (fun c z=>by rw[al (aq z hn)];exact z) fun c ys z=>by rw[al (aq z hn)];exact z
   .rcases hc with rfl|hc
    .exact(yE _ _ q).1
    .exact(yE _ _ hc).1
   .rcases hc with rfl|hc
    .exact(yE _ _ q).2
    .exact(yE _ _ hc).2
section
variable {X:Cx}
end
section
variable {prog:Program} {w:World} {A:Around} {E:Value->Shared->Prop} {s:Shared}
theorem xw(qm:s.heap.IsTupleIter it t i)(ht:s.heap.IsTuple t xs)(hx:xs[i]?=some x)(q:∀h',h'.IsTupleIter it t (i+1)->Heap.SameBut it s.heap h'->Q x { s with heap:=h' }):wpAny (model prog w) A (Builtin.SmallTypes.nextOf (.ref it)) Q E s:=by
 obtain⟨o,h1,h2,h3⟩:=id qm;obtain⟨p,k1,_,n,k3⟩:=ht;unfold Builtin.SmallTypes.nextOf;refine aw (lw (name:=Str.ofString "__next__") qm.typeIs F.slot_tuple_iterator_next (jV F.slot_tuple_iterator_next qm.typeIs F.entry_tuple_iterator_next ?_ (F.args_tuple_iterator_next_1 _)));change wpAny _ _ (field (.ref it) 0 >>= _) _ _ s;refine aw (fg h1 h3 (x:=.ref t) rfl ?_);change wpAny _ _ (if (Value.ref t==Value.none)=true then _ else _) _ _ s;rw[ao (by exact bJ)];change wpAny _ _ (field (.ref it) 1 >>= _) _ _ s;refine aw (fg h1 h3 (x:=.int i 0) rfl ?_);change wpAny _ _ (seqItems? (.ref t) >>= _) _ _ s;refine aw (wpAny_seqItems k1 k3 ?_);simp only[wb,hx];refine aw (oJ h1 h3 (by simp) (wpAny_pure ⟨x,rfl,wpAny_pure (q _ ?_ (Heap.SameBut.update ..))⟩));refine⟨_,oz _ h1 (vW (oC h3 _)),(ww ..).trans h2,?_⟩;rw[oC h3];simp[rawInt]
theorem qJ(hh:A.handled=none)(qm:s.heap.IsTupleIter it t i)(ht:s.heap.IsTuple t xs)(hx:xs[i]?=none)(q:∀h' e,Heap.ExtBut it s.heap h'->(∃o,h'.get? e=some o/\o.cls=.type "StopIteration")->E (.ref e) { s with heap:=h' }):wpAny (model prog w) A (Builtin.SmallTypes.nextOf (.ref it)) Q E s:=by
 obtain⟨o,h1,h2,h3⟩:=id qm;obtain⟨p,k1,_,n,k3⟩:=ht;unfold Builtin.SmallTypes.nextOf;refine aw (lw (name:=Str.ofString "__next__") qm.typeIs F.slot_tuple_iterator_next (jV F.slot_tuple_iterator_next qm.typeIs F.entry_tuple_iterator_next ?_ (F.args_tuple_iterator_next_1 _)));change wpAny _ _ (field (.ref it) 0 >>= _) _ _ s;refine aw (fg h1 h3 (x:=.ref t) rfl ?_);change wpAny _ _ (if (Value.ref t==Value.none)=true then _ else _) _ _ s;rw[ao (by exact bJ)];change wpAny _ _ (field (.ref it) 1 >>= _) _ _ s;refine aw (fg h1 h3 (x:=.int i 0) rfl ?_);change wpAny _ _ (seqItems? (.ref t) >>= _) _ _ s;refine aw (wpAny_seqItems k1 k3 ?_);simp only[wb,hx];refine aw (f9 (aw (oJ h1 h3 (by simp) ?stop)));case stop=>
  change wpAny _ _ (newExc (.type "StopIteration") [] >>= _) _ _ _;refine aw ?_;simp only[newExc,newTuple];refine aw (iz (aw (m:=firstArgMember _ _) (wpAny_of_eq (a:=Value.none) (by simp only[firstArgMember];rfl) (iz ?_ (by size_fits)))) (by size_fits));simp only[raiseNew];refine aw (wpAny_handled ?_);rw[show A.in1.handled=none from hh];exact aw (wpAny_pure (wpAny_throw (q _ _ (fun b u hb z=>cE _ (cE _ ((ow _ _ (ci hb)).trans z))) ⟨_,cW _ rfl,rfl⟩)))
theorem uG(hh:A.handled=none)(it t:Addr)(ka:t≠it)(xs:Array Value):Draws prog w A it [it,t] xs.size (fun i v=>xs[i]?=some v) (fun i h=>h.IsTupleIter it t i/\h.IsTuple t xs) where
 live:=fun _ _ st=>let ⟨o,ho,_⟩:=st.1;⟨o,ho⟩
 frame:=fun _ _ _ st hk=>⟨st.1.at fun o e=>hk it (by simp) o e,let ⟨o,e,r⟩:=st.2;⟨o,hk t (by simp) o e,r⟩⟩
 item:=fun i s Q E hi st q=>by
  refine xw st.1 st.2 (x:=xs[i]) (by simp[hi]) fun h' a b=>?_;obtain⟨o,e,r⟩:=st.2;exact q _ h' s.toks (by simp[hi]) ⟨a,o,(b.2 t ka).trans e,r⟩ b
 done:=fun s Q E st q=>qJ hh st.1 st.2 (by simp) q
end
theorem zY(t:Addr)(xs:Array Value):
  Meets (Builtin.«enumerate.__new__» ⟨[.type "enumerate",.ref t],[]⟩) (fun _ R s=>s.heap.IsTuple t xs/\
   R (.ok (.ret (.ref (s.heap.push { cls:=.type "tuple_iterator",data:=.fields #[.ref t,.int 0 0] }).objs.size)))
    { s with heap:=(s.heap.push { cls:=.type "tuple_iterator",data:=.fields #[.ref t,.int 0 0] }).push { cls:=.type "enumerate",data:=.fields #[.none,.bool false,.ref s.heap.objs.size,rawInt 0,.none,.none] } }):=
 .of_wp fun prog w A R s h=>by
  obtain⟨hp,g,d,tk,os⟩:=s;obtain⟨hT,h⟩:=h;have hs:=sub_enumerate
  wp_walk
  refine wpAny_stack_any fun st=>wpAny_pure ?_;split
  .rename_i c _ _ _ _ _;cases (c==Value.type "enumerate") <;> (wp_walk using wq hT;exact⟨_,rfl,h⟩)
  .wp_walk using wq hT
   exact⟨_,rfl,h⟩
theorem xx(ht:s.heap.IsTuple t xs)(h:∀h',IsEnum h' (s.heap.objs.size+1) s.heap.objs.size 0 .none->h'.IsTupleIter s.heap.objs.size t 0->(∀b o,s.heap.get? b=some o->h'.get? b=some o)->Q (.ref (s.heap.objs.size+1)) { s with heap:=h' }):
  wpAny (model prog w) A (call (.type "enumerate") [.ref t]) Q E s:=by
 refine callType_new F.called_enumerate (by decide) (F.typeCall_enumerate_1 _) (F.newCall_enumerate_1 _) (fun obj=>F.args_object_init_2 obj _) F.entry_enumerate_new (zY t xs) ⟨ht,?_⟩;have hz:(s.heap.push { cls:=.type "tuple_iterator",data:=.fields #[.ref t,.int 0 0] }).objs.size=s.heap.objs.size+1:=iE ..;have he:IsEnum ((s.heap.push { cls:=.type "tuple_iterator",data:=.fields #[.ref t,.int 0 0] }).push
   { cls:=.type "enumerate",data:=.fields #[.none,.bool false,.ref s.heap.objs.size,rawInt 0,.none,.none] }) (s.heap.objs.size+1) s.heap.objs.size 0 .none:=by
  have q:=cW (s.heap.push { cls:=.type "tuple_iterator",data:=.fields #[.ref t,.int 0 0] }) (o:={ cls:=.type "enumerate",data:=.fields #[.none,.bool false,.ref s.heap.objs.size,rawInt 0,.none,.none] }) rfl;rw[hz] at q;exact q
 show _/\_;rw[hz];exact⟨⟨_,he,rfl⟩,h _ he ⟨_,cE _ (cW _ rfl),rfl,rfl⟩ fun b o x=>cE _ (cE _ x)⟩
def CO(K:PySem.W.Frag)(a:Addr):It:=
 ⟨fun i H=>∃xs x,bD K H a xs/\xs[i]?=some x,fun i H x H'=>∃p v,x=.ref p/\H p=none/\H'=upd H p (.tup [.int i,v])/\∀xs,bD K H a xs->xs[i]?=some v,fun i H=>∃xs,bD K H a xs/\xs.length<=i,fun _ _=>False⟩
theorem xy{P:Program}{w:World}{K:PySem.W.Frag}{es:List Expr}{x1:Nat}{pos:Pos}(a e it:Addr)(ka:e≠it)(Yj:a≠e)(Yk:a≠it):
  wH P w K (.Tuple es x1 pos) (CO K a) [e,it] e (fun i h=>(∃kK,IsEnum h e it (i:Int) kK)/\h.IsTupleIter it a i) where
 mem:=by simp
 obj:=fun i h st b hb=>by
  obtain⟨⟨kK,he⟩,⟨o,q,c,d⟩⟩:=st;rcases bu.mp hb with rfl|hb
  .exact⟨_,he,fun v z=>by
    have z':Data.fields _=Data.cell v:=z;cases z'⟩
  .rw[dD.mp hb];exact⟨o,q,fun v z=>by rw[d] at z;cases z⟩
 keep:=fun i h h' st k=>by
  obtain⟨⟨kK,he⟩,hi⟩:=st;exact⟨⟨kK,k e (by simp) _ he⟩,hi.at fun o q=>k it (by simp) o q⟩
 item:=by
  intro X hP hw hK i ae s σ H E Bz I hf st hg;subst hP hw hK;have hc:X.calm=true:=Bz.elim id fun z=>(show False from z).elim;obtain⟨xs,x,hq,hx⟩:=hg;obtain⟨its,rv,p,hz⟩:=I.tuple hq;obtain⟨u,hu,ru⟩:=rv.get hx;obtain⟨⟨kK,he⟩,hi⟩:=st;have eW:i<its.toArray.size:=by
   have:=(cV.mp hu).1;simpa using this
  have D:=uG (prog:=X.prog) (w:=X.w) (A:=X.A.in1) (I.ok.hd hc) it a Yk its.toArray;refine wpAny_pyNext_enum_itemD D he ⟨hi,p⟩ eW ka (by simp[ka,Yj.symm]) fun u' h' tk yo ho eV ht kP k=>?_;have eu:u'=u:=by
   have h1:its.toArray[i]?=some u:=by simpa using hu
   rw[h1] at yo;exact(bS yo).symm
  subst eu;refine⟨_,rfl,wpAny_letOwnedTupleGo_enum ho fun h2 PV vh=>?_⟩;have V0:s.heap.objs.size≠e:=jY (aX he);have AN:h2.IsTupleIter it a (i+1):=eV.1.at fun o q=>(vh.2 it ka.symm).trans q;have fe:=hf e (by simp);have fi:=hf it (by simp);have I2:aF X ae σ (upd H s.heap.objs.size (.tup [.int i,x])) { s with heap:=h2,toks:=tk+1 }:=by
   refine I.Fy (its:=[.int i tk,u']) fe fi (fun b o h1 h3 q=>(vh.2 b h1).trans (k b o h1 h3 q)) ⟨_,PV⟩ ?_ (aO _) (by show 2<=sizeLine;decide) (.cons ⟨_,rfl⟩ (.cons ru .nil)) ((vh.2 _ V0).trans ht);obtain⟨o,q,_⟩:=AN;exact⟨o,q⟩
  refine⟨.ref s.heap.objs.size,_,I2,rfl,⟨_,x,rfl,I.bA.fresh (aO _),rfl,fun ys hy=>by rw[I.gs hy hq];exact hx⟩,⟨⟨u',PV⟩,AN⟩,fun b hb=>?_⟩;have f0:=(hf b hb).1;rw[al]
  .exact f0
  .rcases bu.mp hb with rfl|hb
   .exact V0.symm
   .rw[dD.mp hb];obtain⟨o,q,_⟩:=hi;exact aZ (aX q)
 done:=by
  intro X hP hw hK i ae s σ H E Bz I hf st hg;subst hP hw hK;have hc:X.calm=true:=Bz.elim id fun z=>(show False from z).elim;obtain⟨xs,hq,hx⟩:=hg;obtain⟨its,rv,p,hz⟩:=I.tuple hq;obtain⟨f0,f1,f2,f3,f4,f5⟩:=hf it (by simp);obtain⟨⟨kK,he⟩,hi⟩:=st;have hl:=rv.length;unfold pyNext;have hT:s.TypeIs (.ref e) "enumerate":=⟨_,he,rfl⟩
  refine aw (wpAny_attempt (lw (name:=Str.ofString "__next__") hT F.slot_enumerate_next (jV F.slot_enumerate_next hT F.entry_enumerate_next ?_ (F.args_enumerate_next_1 _))));change wpAny _ _ (field (.ref e) 2 >>= _) _ _ _;refine aw (fg he rfl (x:=.ref it) rfl (aw (qJ (I.ok.hd hc) hi p (by simp;lia) fun h' x eb rW=>?_)));obtain⟨o,ho,Ew⟩:=rW;exact aw (wpAny_isInstance (T:="StopIteration") (b:=true) ⟨o,ho,Ew⟩ isSubtype_stop (wpAny_pure ⟨rfl,I.turned (t':=s.toks) (fun b o hb e=>eb b o hb e) f0 f1 f3 f4 f5⟩))
 self:=fun _ _ _ _ _ st h=>by
  obtain⟨⟨kK,he⟩,_⟩:=st;exact wpAny_pyIter_enum he h
section
variable {X:Cx}
def Jh(K:PySem.W.Frag)(ta:TA):TI:=fun σ H R=>ta σ H fun vs H1=>∃a xs,vs=[.ref a]/\bD K H1 a xs/\R (CO K a) H1
theorem CP(hg:Gl X "enumerate")(hm:X.mg "enumerate"=none)(ha:PA X [a] ta)(hs:starEach [a] X.env=[(false,eval a X.env)]:=by rfl):
  PI X (.Tuple es x1 L3) (.Call (.Name "enumerate" p) [a] [] pos) (Jh X.K ta):=by
 intro ae s σ H R I h;refine Call_ (lS I hg hm (by decide +kernel:bootBuiltins "enumerate"=some (.type "enumerate")) (vq (cn (ha pos ae s σ H _ I h) fun us s1 ⟨vs,H1,I1,r1,q1⟩=>?_) hs rfl));obtain⟨l,xs,rfl,hl,q⟩:=q1;obtain⟨u1,rfl,Yl⟩:=r1.one;obtain rfl:u1=Value.ref l:=Yl;obtain⟨its,rv,pt,hz⟩:=I1.tuple hl;have eW:l<s1.heap.objs.size:=by obtain⟨o,e,_⟩:=pt;exact aX e
 refine xx (show s1.heap.IsTuple l its.toArray from pt) fun h' he hi k=>?_;have ka:s1.heap.objs.size+1≠s1.heap.objs.size:=Nat.succ_ne_self _;refine wpAny_pyIter_enum he ?_;have I2:aF X ae σ H1 { s1 with heap:=h' }:=I1.kept (t':=s1.toks) k;refine⟨s1.heap.objs.size+1,[s1.heap.objs.size+1,s1.heap.objs.size],_,_,H1,rfl,I2,xy l _ _ ka (aZ (dM eW)) (aZ eW),⟨⟨_,he⟩,hi⟩,fun b hb=>?_,q⟩;have ym:s1.heap.objs.size<=b:=by
  rcases bu.mp hb with rfl|hb
  .exact Nat.le_succ _
  .rw[dD.mp hb];exact aO _
 exact I1.Bv ym (I1.bA.fresh ym)
theorem zZ{K:PySem.W.Frag}{a:Addr}{xs:List V}{g:TG}{tb:TS}{D:ub}{σ:St}{H:Hp}(Pv:Nat->St->Hp->Prop)(h0:Pv 0 σ H)(hl:∀i σ H,i<=xs.length->Pv i σ H->bD K H a xs)(hs:∀i x p σ H,xs[i]?=some x->Pv i σ H->H p=none->g (.ref p) σ (upd H p (.tup [.int i,x])) fun σ2 H2=>tb { D with nx:=Pv (i+1),ct:=Pv (i+1),bk:=D.nx } σ2 H2)(hd:∀σ H,Pv xs.length σ H->D.nx σ H):
  ∃W:Nat->Nat->St->Hp->Prop,(∃m,W 0 m σ H)/\∀i m σ H,W i m σ H->
   ((CO K a).stop i H/\D.nx σ H)\/((CO K a).go i H/\∃N:St->Hp->Prop,(∀σ' H',N σ' H'->∃m',m'<m/\W (i+1) m' σ' H')/\∀x H',(CO K a).G8 i H x H'->g x σ H' fun σ2 H2=>tb { D with nx:=N,ct:=N,bk:=D.nx } σ2 H2):=by
 refine⟨fun i m σ H=>m=xs.length-i/\i<=xs.length/\Pv i σ H,⟨xs.length,by simp,cR _,h0⟩,?_⟩;rintro i m σ H ⟨rfl,hi,p⟩;have q:=hl i σ H hi p;by_cases eW:i<xs.length
 .refine .inr ⟨⟨xs,xs[i],q,by simp[eW]⟩,Pv (i+1),fun σ' H' p'=>⟨xs.length-(i+1),by lia,rfl,eW,p'⟩,fun x H' y=>?_⟩;obtain⟨pp,v,rfl,hn,rfl,hv⟩:=y;exact hs i v pp σ _ (hv xs q) p hn
 .have e:i=xs.length:=by lia
  subst e;exact .inl ⟨⟨xs,q,aO _⟩,hd σ H p⟩
end
section
variable {X:Cx} {tg:Expr}
end
section
variable {prog:Program} {w:World} {A:Around} {E:Value->Shared->Prop} {s:Shared} {R:Result->Shared->Prop} {l d Ia:Addr}
end
section
variable {prog:Program} {w:World} {A:Around} {E:Value->Shared->Prop} {s:Shared} {l:Addr}
end
section
variable {X:Cx}
end
structure bQ(P:Program)(w:World)(K:PySem.W.Frag)(mg:Str->Option Value)(base:Heap)(CX:nV)(k:Nat)(x:Str)(ps:List Str)(sp:Sp):Prop where
 ex:∃f fd,mg x=some (.ref f)/\PySem.W.keepIn K (.ref f)=true/\eO K fd ps []/\a7 P w K mg base CX k f fd ps sp
theorem av(C:bQ X.prog X.w X.K X.mg X.base CX k x ps sp)(hr:bv k X.A)(hx:eY CX X E)(ha:PA X (e::es) t)(hg:Gl X x:=by rfl)(nk:(x==("__debug__":Str))=false:=by decide)(he:starEach (e::es) X.env=(false,eval e X.env)::starEach es X.env:=by rfl)(mL:(backTo pos (starEach es X.env)).any (·.1)=false:=by rfl):
  PE X (.Call (.Name x p) (e::es) [] pos) (mS sp [] E t):=by
 obtain⟨f,fd,a,b,c,d⟩:=C.ex;exact EZ d hr hg a b c .nil hx ha nk he mL
theorem ai(h:H D=none):az H (upd H D o):=fun b u e=>by rw[al (aq e h)];exact e
def bf(p:Addr)(H H':Hp):Prop:=∀b o,H b=some o->b≠p->H' b=some o
theorem bf.refl:bf p H H:=fun _ _ h _=>h
theorem bf.trans(a:bf p H H1)(b:bf p H1 H2):bf p H H2:=fun c o h n=>b c o (a c o h n) n
theorem bf.upd:bf p H (upd H p o):=fun b u h n=>by rw[al n];exact h
theorem bf.of(s:az H H'):bf p H H':=fun b o h _=>s b o h
theorem bf.free(s:bf p H H')(hp:H' p≠none)(h:H' q=none):H q=none:=by
 cases z:H q with
 |none=>rfl
 |some o=>
  by_cases e:q=p
  .subst e;exact absurd h hp
  .rw[s q o z e] at h;cases h
theorem nZ(h:j<n):B_ n (j:Int)=some j:=by
 unfold B_;rw[am (by lia),am (by lia)];simp
theorem z0(h:as.length=n):(as++[t]).getD j 0=if j=n then t else as.getD j 0:=by
 rw[cf,cf];by_cases hj:j=n
 .subst hj;subst h;rw[am rfl,oo (aO _),Nat.sub_self];rfl
 .rw[ao hj];by_cases eW:j<as.length
  .rw[mB eW]
  .rw[oo (by lia),om (by simp;lia),om (by lia)]
def Holds(H:Hp)(as:List Addr)(n:Nat)(o:Nat->HO):Prop:=as.length=n/\∀j,j<n->H (as.getD j 0)=some (o j)
theorem Holds.nil:Holds H [] 0 o:=⟨rfl,fun j hj=>absurd hj (by lia)⟩
theorem Holds.snoc(h:Holds H as n o)(ht:H t=some (o n)):Holds H (as++[t]) (n+1) o:=by
 refine⟨by rw[cz,h.1];rfl,fun j hj=>?_⟩;rw[z0 h.1];by_cases e:j=n
 .rw[am e,e];exact ht
 .rw[ao e];exact h.2 j (by lia)
theorem Holds.mono(h:Holds H as n o)(e:∀j,j<n->H (as.getD j 0)=some (o j)->H' (as.getD j 0)=some (o j)):Holds H' as n o:=⟨h.1,fun j hj=>e j hj (h.2 j hj)⟩
end L2
namespace PyProof.Rows
open PySem
def fX:Bool->Keyed->Array Keyed->Nat->Nat->Nat->StateT SortSt Sem (Option Nat):=sortPriv% PySem.Builtin.gallop
def o7:Array Keyed->Array Keyed->StateT SortSt Sem (Array Keyed):=sortPriv% PySem.Builtin.mergeLo
def o8:Array Keyed->Array Keyed->StateT SortSt Sem (Array Keyed):=sortPriv% PySem.Builtin.mergeHi
def ge:Nat->StateT SortSt Sem Unit:=sortPriv% PySem.Builtin.setMinGallop
def uH(prog:Program)(w:World)(A:Around)(s:Shared)(κ:SortKind)(a₀:Array Keyed):Prop:=
 ∀x y,x∈a₀.toList->y∈a₀.toList->∀ (Q:Bool->Shared->Prop) (E:Value->Shared->Prop),(∀b,Q b s)->wpAny (model prog w) A (keyLt' κ x.1 y.1) Q E s
structure SQ(κ:SortKind)(a₀:Array Keyed)(pd:Array (Nat×Nat×Nat))(st:SortSt):Prop where
 perm:(arrOf st).Perm a₀
 kind:kindOf st=κ
 failed:failedOf st=none
 pend:pendingOf st=pd
section
variable {prog:Program} {w:World} {A:Around} {E:Value->Shared->Prop} {s:Shared} {κ:SortKind} {a₀:Array Keyed} {pd:Array (Nat×Nat×Nat)}
theorem SQ.size{st:SortSt}(h:SQ κ a₀ pd st):(arrOf st).size=a₀.size:=h.perm.size_eq
theorem SQ.setArr{st:SortSt}(h:SQ κ a₀ pd st){xs:Array Keyed}(hp:xs.Perm (arrOf st)):SQ κ a₀ pd (setArr st xs):=⟨hp.trans h.perm,h.kind,h.failed,h.pend⟩
theorem SQ.at{st:SortSt}(h:SQ κ a₀ pd st){i:Nat}(hi:i<a₀.size):∃p,(arrOf st)[i]?=some p/\p∈a₀.toList:=by
 have Ho:i<(arrOf st).size:=by rw[h.size];exact hi
 exact⟨(arrOf st)[i],cQ _ i Ho,(kG.mp h.perm).mem_iff.mp (by simp)⟩
theorem o9{st:SortSt}{x y:Keyed}{Q:Option Bool->SortSt->Prop}(hC:uH prog w A s κ a₀)(hk:kindOf st=κ)(hx:x∈a₀.toList)(hy:y∈a₀.toList)(h:∀b,Q (some b) st):wpS (model prog w) A E s (lt' x y) Q st:=by
 rw[lt'_eq];refine aK (fH ?_);rw[hk];refine aK (j4 (wpAny_attempt (hC x y hx hy _ _ fun b=>⟨rfl,?_⟩)));exact aN (h b)
theorem bg{st:SortSt}{arr:Array Keyed}{i:Nat}{p:Keyed}{Q:Keyed->SortSt->Prop}(hi:arr[i]?=some p)(h:Q p st):wpS (model prog w) A E s (elem' arr i) Q st:=by
 rw[elem'_eq,hi];exact aN h
theorem dU{st:SortSt}{i j:Nat}{Q:Option Bool->SortSt->Prop}(hC:uH prog w A s κ a₀)(hB:SQ κ a₀ pd st)(hi:i<a₀.size)(hj:j<a₀.size)(h:∀b,Q (some b) st):wpS (model prog w) A E s (ltAt' i j) Q st:=by
 obtain⟨p,e1,m1⟩:=hB.at hi;obtain⟨q,e2,m2⟩:=hB.at hj;rw[ltAt'_eq];refine aK (fH ?_);exact aK (bg e1 (aK (bg e2 (o9 hC hB.kind m1 m2 h))))
theorem fw{st:SortSt}{i j:Nat}{Q:Unit->SortSt->Prop}(hB:SQ κ a₀ pd st)(h:∀aW,SQ κ a₀ pd aW->Q () aW):wpS (model prog w) A E s (reverseSlice' i j) Q st:=by
 rw[reverseSlice'_eq];exact eU (h _ (hB.setArr (mirror_perm _ _ _ _)))
theorem CQ{st:SortSt}{i j:Nat}{Q:Unit->SortSt->Prop}(hB:SQ κ a₀ pd st)(h:∀aW,SQ κ a₀ pd aW->Q () aW):wpS (model prog w) A E s (moveDown' i j) Q st:=by
 rw[moveDown'_eq];exact eU (h _ (hB.setArr (bubble_perm _ _ _)))
theorem Fz{st:SortSt}{lo n ok:Nat}{Q:Bool->SortSt->Prop}(hC:uH prog w A s κ a₀)(hn:lo+n<=a₀.size)(hB:SQ κ a₀ pd st)(h:∀aW,SQ κ a₀ pd aW->Q true aW):wpS (model prog w) A E s (binarySort' lo n ok) Q st:=by
 rw[binarySort'_eq];refine aK (cU (d_ (I:=fun _ c aW=>c=(none,())/\SQ κ a₀ pd aW) (Q:=fun c aW=>c=(none,())/\SQ κ a₀ pd aW) ?_ (fun c aW hh=>hh) ⟨rfl,hB⟩) ?_)
 .rintro k c aW Z_ Ym ⟨rfl,RB⟩;dsimp only;refine aK (cU (d_ (I:=fun _ c Ji=>(∃l r,c=(none,l,r)/\r<=k)/\SQ κ a₀ pd Ji) (Q:=fun c Ji=>(∃l r,c=(none,l,r)/\r<=k)/\SQ κ a₀ pd Ji) ?_ (fun c aW hh=>hh) ⟨⟨_,_,rfl,aO _⟩,RB⟩) ?_)
  .rintro x c qr _ _ ⟨⟨l,r,rfl,hr⟩,pZ⟩;dsimp only;by_cases yF:l>=r
   .rw[am yF];exact aN ⟨⟨_,_,rfl,hr⟩,pZ⟩
   .rw[ao yF];refine aK (dU hC pZ (by lia) (by lia) fun b=>?_);cases b
    .exact aN ⟨⟨_,_,rfl,hr⟩,pZ⟩
    .exact aN ⟨⟨_,_,rfl,by lia⟩,pZ⟩
  .rintro c qr ⟨⟨l,r,rfl,hr⟩,pZ⟩;dsimp only;exact aK (CQ pZ fun wL nz=>aN ⟨rfl,nz⟩)
 .rintro c aW ⟨rfl,RB⟩;exact aN (h aW RB)
end
theorem xz(left:Bool)(key:Keyed)(arr:Array Keyed)(base n kj:Nat):fX left key arr base n kj=(do
 let sH (i:Nat):StateT SortSt Sem (Option Bool):=do
  let x <- elem' arr (base+i)
  if left then lt' x key else return (<-lt' key x).map (!·)
 let mut lastofs:=0
 let mut ofs:=1
 let mut lo:=0
 let mut hi:=0
 let some right <- sH kj|return none
 if right then
  let o_:=n-kj
  for _ in [0:n] do
   if ofs>=o_ then break
   let some more <- sH (kj+ofs)|return none
   if !more then break
   lastofs:=ofs
   ofs:=2*ofs+1
  lo:=kj+lastofs+1
  hi:=kj+min ofs o_
 else
  let o_:=kj+1
  for _ in [0:n] do
   if ofs>=o_ then break
   let some found <- sH (kj-ofs)|return none
   if found then break
   lastofs:=ofs
   ofs:=2*ofs+1
  lo:=kj+1-min ofs o_
  hi:=kj-lastofs
 for _ in [0:n] do
  if lo>=hi then break
  let m:=lo+(hi-lo) / 2
  let some more <- sH m|return none
  if more then lo:=m+1 else hi:=m
 return some hi):=rfl
section
variable {prog:Program} {w:World} {A:Around} {E:Value->Shared->Prop} {s:Shared} {κ:SortKind} {a₀:Array Keyed} {pd:Array (Nat×Nat×Nat)}
theorem fL{st:SortSt}{left:Bool}{key:Keyed}{arr:Array Keyed}{j:Nat}{Q:Option Bool->SortSt->Prop}(hC:uH prog w A s κ a₀)(hk:kindOf st=κ)(pU:key∈a₀.toList)(nA:∀x∈arr.toList,x∈a₀.toList)(hj:j<arr.size)(h:∀b,Q (some b) st):
  wpS (model prog w) A E s (do
  let x <- elem' arr j
  if left then lt' x key else return (<-lt' key x).map (!·)) Q st:=by
 have hm:arr[j]∈a₀.toList:=nA _ (by simp);refine aK (bg (cQ arr j hj) ?_);cases left
 .rw[ao (by decide)];exact aK (o9 hC hk pU hm fun b=>aN (h (!b)))
 .rw[am rfl];exact o9 hC hk hm pU h
theorem eA{st:SortSt}{left:Bool}{key:Keyed}{arr:Array Keyed}{base n kj:Nat}{Q:Option Nat->SortSt->Prop}(hC:uH prog w A s κ a₀)(hk:kindOf st=κ)(pU:key∈a₀.toList)(nA:∀x∈arr.toList,x∈a₀.toList)(hn:base+n<=arr.size)(hh:kj<n)(h:∀k,k<=n->Q (some k) st):wpS (model prog w) A E s (fX left key arr base n kj) Q st:=by
 rw[xz];refine aK (fL hC hk pU nA (by lia) fun right=>?_);cases right
 .dsimp only;rw[ao (by decide)];refine aK (cU (d_ (I:=fun _ c aW=>(∃l o,c=(none,l,o))/\st=aW) (Q:=fun c aW=>(∃l o,c=(none,l,o))/\st=aW) ?_ (fun c aW hh=>hh) ⟨⟨_,_,rfl⟩,rfl⟩) ?_)
  .rintro x c aW _ _ ⟨⟨l,o,rfl⟩,rfl⟩;dsimp only;by_cases yF:o>=kj+1
   .rw[am yF];exact aN ⟨⟨_,_,rfl⟩,rfl⟩
   .rw[ao yF];refine aK (fL hC hk pU nA (by lia) fun found=>?_);cases found
    .exact aN ⟨⟨_,_,rfl⟩,rfl⟩
    .exact aN ⟨⟨_,_,rfl⟩,rfl⟩
  .rintro c aW ⟨⟨l,o,rfl⟩,rfl⟩;dsimp only;refine aK (cU (d_ (I:=fun _ c aW=>(∃l u,c=(none,l,u)/\u<=n)/\st=aW) (Q:=fun c aW=>(∃l u,c=(none,l,u)/\u<=n)/\st=aW) ?_ (fun c aW hh=>hh) ⟨⟨_,_,rfl,by lia⟩,rfl⟩) ?_)
   .rintro x c aW _ _ ⟨⟨l,u,rfl,hu⟩,rfl⟩;dsimp only;by_cases yF:l>=u
    .rw[am yF];exact aN ⟨⟨_,_,rfl,hu⟩,rfl⟩
    .rw[ao yF];refine aK (fL hC hk pU nA (by lia) fun more=>?_);cases more
     .exact aN ⟨⟨_,_,rfl,by lia⟩,rfl⟩
     .exact aN ⟨⟨_,_,rfl,hu⟩,rfl⟩
   .rintro c aW ⟨⟨l,u,rfl,hu⟩,rfl⟩;exact aN (h u hu)
 .dsimp only;rw[am rfl];refine aK (cU (d_ (I:=fun _ c aW=>(∃l o,c=(none,l,o))/\st=aW) (Q:=fun c aW=>(∃l o,c=(none,l,o))/\st=aW) ?_ (fun c aW hh=>hh) ⟨⟨_,_,rfl⟩,rfl⟩) ?_)
  .rintro x c aW _ _ ⟨⟨l,o,rfl⟩,rfl⟩;dsimp only;by_cases yF:o>=n-kj
   .rw[am yF];exact aN ⟨⟨_,_,rfl⟩,rfl⟩
   .rw[ao yF];refine aK (fL hC hk pU nA (by lia) fun more=>?_);cases more
    .exact aN ⟨⟨_,_,rfl⟩,rfl⟩
    .exact aN ⟨⟨_,_,rfl⟩,rfl⟩
  .rintro c aW ⟨⟨l,o,rfl⟩,rfl⟩;dsimp only;refine aK (cU (d_ (I:=fun _ c aW=>(∃l u,c=(none,l,u)/\u<=n)/\st=aW) (Q:=fun c aW=>(∃l u,c=(none,l,u)/\u<=n)/\st=aW) ?_ (fun c aW hh=>hh) ⟨⟨_,_,rfl,by lia⟩,rfl⟩) ?_)
   .rintro x c aW _ _ ⟨⟨l,u,rfl,hu⟩,rfl⟩;dsimp only;by_cases yF:l>=u
    .rw[am yF];exact aN ⟨⟨_,_,rfl,hu⟩,rfl⟩
    .rw[ao yF];refine aK (fL hC hk pU nA (by lia) fun more=>?_);cases more
     .exact aN ⟨⟨_,_,rfl,by lia⟩,rfl⟩
     .exact aN ⟨⟨_,_,rfl,hu⟩,rfl⟩
   .rintro c aW ⟨⟨l,u,rfl,hu⟩,rfl⟩;exact aN (h u hu)
end
structure SM(κ:SortKind)(ar:Array Keyed)(pd:Array (Nat×Nat×Nat))(st:SortSt):Prop where
 arr:arrOf st=ar
 kind:kindOf st=κ
 failed:failedOf st=none
 pend:pendingOf st=pd
abbrev nB:=Option (Array Keyed)
abbrev qK:=StateT SortSt Sem
def uI{τ:Type}(c:Bool)(d:Prop)[Decidable d](r:Array Keyed)(t:τ):qK (ForInStep (nB×τ)):=if c then pure (.done (some r,t)) else if d then pure (.done (none,t)) else pure (.yield (none,t))
def V1{α β γ:Type}(N:Nat)(f:Nat->nB×α×β×γ×Nat×Nat->qK (ForInStep (nB×α×β×γ×Nat×Nat)))(g:nB×α×β×γ×Nat×Nat×Nat->qK (ForInStep (nB×α×β×γ×Nat×Nat×Nat)))(s:nB×α×β×γ×Nat):qK (ForInStep (nB×α×β×γ×Nat)):=do
 let t <- forIn [0:N] ((none,s.2.1,s.2.2.1,s.2.2.2.1,0,0):nB×α×β×γ×Nat×Nat) fun _ t=>f s.2.2.2.2 t
 match t.1 with
 |some r=>pure (.done (some r,t.2.1,t.2.2.1,t.2.2.2.1,s.2.2.2.2))
 |none=>do
  liftM (rule "list.sort.gallop")
  let u <- forIn [0:N] ((none,t.2.1,t.2.2.1,t.2.2.2.1,s.2.2.2.2+1,t.2.2.2.2.1,t.2.2.2.2.2):nB×α×β×γ×Nat×Nat×Nat) fun _ u=>g u
  match u.1 with
  |some r=>pure (.done (some r,u.2.1,u.2.2.1,u.2.2.2.1,u.2.2.2.2.1))
  |none=>do
   ge (u.2.2.2.2.1+1)
   pure (.yield (none,u.2.1,u.2.2.1,u.2.2.2.1,u.2.2.2.2.1+1))
def PX{α β γ:Type}(N:Nat)(f:Nat->nB×α×β×γ×Nat×Nat->qK (ForInStep (nB×α×β×γ×Nat×Nat)))(g:nB×α×β×γ×Nat×Nat×Nat->qK (ForInStep (nB×α×β×γ×Nat×Nat×Nat)))(x:α)(y:β)(z:γ):qK (Array Keyed):=do
 let st <- get
 let s <- forIn [0:N] ((none,x,y,z,gallopOf st):nB×α×β×γ×Nat) fun _ s=>V1 N f g s
 match s.1 with
 |some r=>pure r
 |none=>liftM (unsupported "internal:list.sort.merge-bound")
section
variable {prog:Program} {w:World} {A:Around} {E:Value->Shared->Prop} {s:Shared} {κ:SortKind} {a₀:Array Keyed} {pd:Array (Nat×Nat×Nat)} {ar:Array Keyed} {F:Array Keyed->Prop}
def GP{τ:Type}(κ:SortKind)(ar:Array Keyed)(pd:Array (Nat×Nat×Nat))(F:Array Keyed->Prop)(D J:τ->Prop)(r:ForInStep (nB×τ))(st:SortSt):Prop:=SM κ ar pd st/\
 ((∃x t,r=.done (some x,t)/\F x)\/(∃t,r=.done (none,t)/\D t)\/∃t,r=.yield (none,t)/\J t)
theorem dW{τ:Type}{D J:τ->Prop}{st:SortSt}{x:Array Keyed}{t:τ}(m:SM κ ar pd st)(h:F x):wpS (model prog w) A E s (pure (.done (some x,t))) (GP κ ar pd F D J) st:=aN ⟨m,.inl ⟨_,_,rfl,h⟩⟩
theorem gB{τ:Type}{D J:τ->Prop}{c:Bool}{d:Prop}[Decidable d]{r:Array Keyed}{t:τ}{st:SortSt}(m:SM κ ar pd st)(h1:c=true->F r)(h2:c=false->D t/\J t):wpS (model prog w) A E s (uI c d r t) (GP κ ar pd F D J) st:=by
 unfold uI;cases c
 .rw[ao bJ];split
  .exact aN ⟨m,.inr (.inl ⟨_,rfl,(h2 rfl).1⟩)⟩
  .exact aN ⟨m,.inr (.inr ⟨_,rfl,(h2 rfl).2⟩)⟩
 .rw[am rfl];exact dW m (h1 rfl)
theorem mj{τ:Type}{D:τ->Prop}{J:Nat->τ->Prop}{N:Nat}{f:nB×τ->qK (ForInStep (nB×τ))}{t:τ}{st:SortSt}{Q:nB×τ->SortSt->Prop}(m:SM κ ar pd st)(hJ:J 0 t)(up:∀t,J N t->D t)(b:∀t st,SM κ ar pd st->∀i,J i t->wpS (model prog w) A E s (f (none,t)) (GP κ ar pd F D (J (i+1))) st)(h1:∀x t aW,SM κ ar pd aW->F x->Q (some x,t) aW)(h2:∀t aW,SM κ ar pd aW->D t->Q (none,t) aW):wpS (model prog w) A E s (forIn [0:N] ((none,t):nB×τ) fun _ c=>f c) Q st:=by
 refine d_ (I:=fun i c aW=>c.1=none/\SM κ ar pd aW/\J i c.2) ?_ ?_ ⟨rfl,m,hJ⟩
 .rintro i ⟨_,t⟩ aW _ _ ⟨rfl,m',j⟩;refine cU (b t aW m' i j) ?_;rintro r qr ⟨m2,⟨x,t,rfl,h⟩|⟨t,rfl,h⟩|⟨t,rfl,h⟩⟩
  .exact h1 _ _ _ m2 h
  .exact h2 _ _ m2 h
  .exact⟨rfl,m2,h⟩
 .rintro⟨_,t⟩ aW ⟨rfl,m',j⟩;rw[Nat.max_eq_right (cR _)] at j;exact h2 _ _ m' (up _ j)
theorem yG{α β γ:Type}{N:Nat}{f:Nat->nB×α×β×γ×Nat×Nat->qK (ForInStep (nB×α×β×γ×Nat×Nat))}{g:nB×α×β×γ×Nat×Nat×Nat->qK (ForInStep (nB×α×β×γ×Nat×Nat×Nat))}{x:α}{y:β}{z:γ}{J:Nat->α->β->γ->Prop}{st:SortSt}{Q:Array Keyed->SortSt->Prop}(m:SM κ ar pd st)(h0:J 0 x y z)(dn:∀i k x y z,J (i+k) x y z->J i x y z)(no:∀x y z,¬ J N x y z)(N1:1<=N)(hf:∀mg n k x y z p st,SM κ ar pd st->J (n+k) x y z->wpS (model prog w) A E s (f mg (none,x,y,z,p)) (GP κ ar pd F (fun t=>J (n+1) t.1 t.2.1 t.2.2.1) fun t=>J (n+(k+1)) t.1 t.2.1 t.2.2.1) st)(hg:∀n x y z p st,SM κ ar pd st->J n x y z->wpS (model prog w) A E s (g (none,x,y,z,p)) (GP κ ar pd F (fun t=>J n t.1 t.2.1 t.2.2.1) fun t=>J n t.1 t.2.1 t.2.2.1) st)(h:∀x aW,F x->SM κ ar pd aW->Q x aW):wpS (model prog w) A E s (PX N f g x y z) Q st:=by
 unfold PX;refine aK (fH ?_);refine aK (mj (F:=F) (D:=fun _=>False) (J:=fun n (t:α×β×γ×Nat)=>J n t.1 t.2.1 t.2.2.1) m h0 (fun t h=>no _ _ _ h) ?_ (fun x t st m hx=>aN (h _ _ hx m)) fun t st m j=>j.elim);intro t st m i j;unfold V1;refine aK (mj (F:=F) (D:=fun t=>J (i+1) t.1 t.2.1 t.2.2.1) (J:=fun n (t:α×β×γ×Nat×Nat)=>J (i+n) t.1 t.2.1 t.2.2.1) m j (fun t h=>dn _ (N-1) _ _ _ (by rw[show i+1+(N-1)=i+N by lia];exact h)) (fun t st m n j=>hf _ _ _ _ _ _ _ _ m j) (fun x t st m hx=>dW m hx) ?_);intro t st m j;refine aK (j4 (f9 ⟨rfl,?_⟩));refine aK (mj (F:=F) (D:=fun t=>J (i+1) t.1 t.2.1 t.2.2.1) (J:=fun n (t:α×β×γ×Nat×Nat×Nat)=>J (i+1) t.1 t.2.1 t.2.2.1) m j (fun _ h=>h) (fun t st m n j=>hg _ _ _ _ _ _ m j) (fun x t st m hx=>dW m hx) ?_);intro t st m j;refine aK (eU ?_);exact aN ⟨⟨m.arr,m.kind,m.failed,m.pend⟩,.inr (.inr ⟨_,rfl,j⟩)⟩
end
abbrev iW(a b out:Array Keyed)(ia ib:Nat):=out++a.extract ia a.size++b.extract ib b.size
abbrev sI(a b out:Array Keyed)(ia ib:Nat):=out++b.extract ib b.size++a.extract ia a.size
abbrev Hq ρ:=nB×Array Keyed×Nat×Nat×ρ
def V2(a b:Array Keyed)(mg:Nat)(t:Hq (Nat×Nat)):qK (ForInStep (Hq (Nat×Nat))):=do
 let x <- elem' b t.2.2.2.1
 let y <- elem' a t.2.2.1
 let some w <- lt' x y|pure (.done (some (iW a b t.2.1 t.2.2.1 t.2.2.2.1),t.2.1,t.2.2.1,t.2.2.2.1,t.2.2.2.2.1,t.2.2.2.2.2))
 if w then do
  let x <- elem' b t.2.2.2.1
  uI (t.2.2.2.1+1==b.size) (t.2.2.2.2.2+1>=mg) (iW a b (t.2.1.push x) t.2.2.1 (t.2.2.2.1+1)) (t.2.1.push x,t.2.2.1,t.2.2.2.1+1,0,t.2.2.2.2.2+1)
 else do
  let x <- elem' a t.2.2.1
  uI (t.2.2.1+1+1==a.size) (t.2.2.2.2.1+1>=mg) (sI a b (t.2.1.push x) (t.2.2.1+1) t.2.2.2.1) (t.2.1.push x,t.2.2.1+1,t.2.2.2.1,t.2.2.2.2.1+1,0)
def RC(a b out:Array Keyed)(ia ib mg ac bc:Nat):qK (ForInStep (Hq (Nat×Nat×Nat))):=do
 let x <- elem' a ia
 uI (ia+1+1==a.size) ((ac<7&&bc<7)=true) (sI a b (out.push x) (ia+1) ib) (out.push x,ia+1,ib,mg,ac,bc)
def RD(a b out:Array Keyed)(ia ib mg ac bc:Nat):qK (ForInStep (Hq (Nat×Nat×Nat))):=do
 let x <- elem' b ib
 if ib+1==b.size then pure (.done (some (iW a b (out.push x) ia (ib+1)),out.push x,ia,ib+1,mg,ac,bc))
 else do
  let y <- elem' a ia
  let some k <- fX true y b (ib+1) (b.size-(ib+1)) 0|pure (.done (some (iW a b (out.push x) ia (ib+1)),out.push x,ia,ib+1,mg,ac,bc))
  if k > 0 then
   if ib+1+k==b.size then pure (.done (some (iW a b (out.push x++b.extract (ib+1) (ib+1+k)) ia (ib+1+k)),out.push x++b.extract (ib+1) (ib+1+k),ia,ib+1+k,mg,ac,k))
   else RC a b (out.push x++b.extract (ib+1) (ib+1+k)) ia (ib+1+k) mg ac k
  else RC a b (out.push x) ia (ib+1) mg ac k
def RG(a b out:Array Keyed)(ia ib mg ac bc:Nat):qK (ForInStep (Hq (Nat×Nat×Nat))):=do
 ge mg
 let y <- elem' b ib
 let some k <- fX false y a ia (a.size-ia) 0|pure (.done (some (iW a b out ia ib),out,ia,ib,mg,ac,bc))
 if k > 0 then
  if ia+k+1==a.size then pure (.done (some (sI a b (out++a.extract ia (ia+k)) (ia+k) ib),out++a.extract ia (ia+k),ia+k,ib,mg,k,bc))
  else if ia+k==a.size then pure (.done (some (iW a b (out++a.extract ia (ia+k)) (ia+k) ib),out++a.extract ia (ia+k),ia+k,ib,mg,k,bc))
  else RD a b (out++a.extract ia (ia+k)) (ia+k) ib mg k bc
 else RD a b out ia ib mg k bc
def V3(a b:Array Keyed)(t:Hq (Nat×Nat×Nat)):qK (ForInStep (Hq (Nat×Nat×Nat))):=
 if t.2.2.2.2.1 > 1 then RG a b t.2.1 t.2.2.1 t.2.2.2.1 (t.2.2.2.2.1-1) t.2.2.2.2.2.1 t.2.2.2.2.2.2 else RG a b t.2.1 t.2.2.1 t.2.2.2.1 t.2.2.2.2.1 t.2.2.2.2.2.1 t.2.2.2.2.2.2
theorem uJ(a b:Array Keyed):o7 a b=(do
 liftM (rule "list.sort.merge-lo")
 let x <- elem' b 0
 if 1==b.size then pure (iW a b #[x] 0 1) else if 0+1==a.size then pure (sI a b #[x] 0 1) else PX (a.size+b.size) (V2 a b) (V3 a b) #[x] 0 1):=by kernel_rfl
def PI(a b out:Array Keyed)(ia ib:Nat):Prop:=out.toList.Perm (a.toList.take ia++b.toList.take ib)
theorem uK{l:List Keyed}{i:Nat}(h:i<l.length):l.take (i+1)=l.take i++[l[i]]:=by rw[ie,bZ h];rfl
theorem PI.qL{a b out:Array Keyed}{ia ib:Nat}(h:PI a b out ia ib)(hi:ia<a.size):PI a b (out.push a[ia]) (ia+1) ib:=by
 unfold PI at h |-;rw[lF,uK (by simpa using hi),cN];refine(h.append_right _).trans ?_;rw[cN];refine mF _ ?_;have:a.toList[ia]'(by simpa using hi)=a[ia]:=by simp
 rw[this];exact iu
theorem PI.qM{a b out:Array Keyed}{ia ib:Nat}(h:PI a b out ia ib)(hi:ib<b.size):PI a b (out.push b[ib]) ia (ib+1):=by
 unfold PI at h |-;rw[lF,uK (by simpa using hi),<-cN];have:b.toList[ib]'(by simpa using hi)=b[ib]:=by simp
 rw[this];exact h.append_right _
theorem df{a:Array Keyed}{i j:Nat}:(a.extract i j).toList=(a.toList.drop i).take (j-i):=by
 rw[vR,List.extract_eq_take_drop]
theorem PI.z6{a b out:Array Keyed}{ia ib:Nat}(h:PI a b out ia ib)(k:Nat):PI a b (out++a.extract ia (ia+k)) (ia+k) ib:=by
 unfold PI at h |-;rw[dC,df,Nat.add_sub_cancel_left,List.take_add,cN];refine(h.append_right _).trans ?_;rw[cN];exact mF _ iu
theorem PI.z7{a b out:Array Keyed}{ia ib:Nat}(h:PI a b out ia ib)(k:Nat):PI a b (out++b.extract ib (ib+k)) ia (ib+k):=by
 unfold PI at h |-;rw[dC,df,Nat.add_sub_cancel_left,List.take_add,<-cN];exact h.append_right _
theorem PI.done{a b out:Array Keyed}{ia ib:Nat}(h:PI a b out ia ib):(out++a.extract ia a.size++b.extract ib b.size).Perm (a++b):=by
 rw[kG];unfold PI at h;rw[dC,dC,dC,df,df];have e1:(a.toList.drop ia).take (a.size-ia)=a.toList.drop ia:=List.take_of_length_le (by simp);have e2:(b.toList.drop ib).take (b.size-ib)=b.toList.drop ib:=List.take_of_length_le (by simp);rw[e1,e2];refine((h.append_right _).append_right _).trans ?_;conv=>rhs;rw[<-lx ia a.toList,<-lx ib b.toList]
 rw[cN,cN,cN];refine mF _ ?_;rw[<-cN,<-cN];exact vJ _ iu
theorem PI.last{a b out:Array Keyed}{ia ib:Nat}(h:PI a b out ia ib):(out++b.extract ib b.size++a.extract ia a.size).Perm (a++b):=by
 refine Array.Perm.trans ?_ h.done;rw[kG];rw[dC,dC,dC,dC,cN,cN];exact mF _ iu
section
variable {prog:Program} {w:World} {A:Around} {E:Value->Shared->Prop} {s:Shared} {κ:SortKind} {a₀:Array Keyed} {pd:Array (Nat×Nat×Nat)} {ar:Array Keyed} {a b out:Array Keyed} {ia ib mg ac bc n:Nat} {st:SortSt}
def JL(a b:Array Keyed)(n:Nat)(out:Array Keyed)(ia ib:Nat):Prop:=PI a b out ia ib/\ia+1<a.size/\ib<b.size/\n<=ia+ib
abbrev GL{ρ:Type}(κ:SortKind)(ar:Array Keyed)(pd:Array (Nat×Nat×Nat))(a b:Array Keyed)(n m:Nat):ForInStep (Hq ρ)->SortSt->Prop:=GP κ ar pd (fun x=>x.Perm (a++b)) (fun t=>JL a b n t.1 t.2.1 t.2.2.1) fun t=>JL a b m t.1 t.2.1 t.2.2.1
theorem yH(hB:SM κ ar pd st)(h:JL a b n out ia ib):wpS (model prog w) A E s (RC a b out ia ib mg ac bc) (GL κ ar pd a b n n) st:=by
 obtain⟨p,la,lb,li⟩:=h;refine aK (bg (cQ a ia (by lia)) ?_);have p:=p.qL (show ia<a.size by lia);refine gB hB (fun _=>p.last) fun f=>?_;have g:=lG f;have j:JL a b n (out.push a[ia]) (ia+1) ib:=⟨p,by lia,lb,by lia⟩
 exact⟨j,j⟩
theorem yI(hC:uH prog w A s κ a₀)(ha:∀x∈a.toList,x∈a₀.toList)(hb:∀x∈b.toList,x∈a₀.toList)(hB:SM κ ar pd st)(h:JL a b n out ia ib):wpS (model prog w) A E s (RD a b out ia ib mg ac bc) (GL κ ar pd a b n n) st:=by
 obtain⟨p,la,lb,li⟩:=h;refine aK (bg (cQ b ib lb) ?_);have p:=p.qM lb;split
 .exact dW hB p.done
 next f=>
 have g:ib+1≠b.size:=by simpa using f
 refine aK (bg (cQ a ia (by lia)) ?_);refine aK (eA hC hB.kind (ha _ (by simp)) hb (by lia) (by lia) fun k hk=>?_);dsimp only;split
 .split
  .exact dW hB (p.z7 k).done
  next f=>
  have g:ib+1+k≠b.size:=by simpa using f
  exact yH hB ⟨p.z7 k,la,by lia,by lia⟩
 .exact yH hB ⟨p,la,by lia,by lia⟩
theorem FA(hC:uH prog w A s κ a₀)(ha:∀x∈a.toList,x∈a₀.toList)(hb:∀x∈b.toList,x∈a₀.toList)(hB:SM κ ar pd st)(h:JL a b n out ia ib):wpS (model prog w) A E s (RG a b out ia ib mg ac bc) (GL κ ar pd a b n n) st:=by
 obtain⟨p,la,lb,li⟩:=h;refine aK (eU ?_);refine aK (bg (cQ b ib lb) ?_);have pZ:SM κ ar pd (SortSt.mk' (kindOf st) (arrOf st) (pendingOf st) mg (failedOf st)):=⟨hB.arr,hB.kind,hB.failed,hB.pend⟩
 refine aK (eA hC pZ.kind (hb _ (by simp)) ha (by lia) (by lia) fun k hk=>?_);dsimp only;split
 .split
  .exact dW pZ (p.z6 k).last
  next f=>
  split
  .exact dW pZ (p.z6 k).done
  next f'=>
  have g:ia+k+1≠a.size:=by simpa using f
  have g':ia+k≠a.size:=by simpa using f'
  exact yI hC ha hb pZ ⟨p.z6 k,by lia,lb,by lia⟩
 .exact yI hC ha hb pZ ⟨p,la,lb,li⟩
theorem FB{k:Nat}(hC:uH prog w A s κ a₀)(ha:∀x∈a.toList,x∈a₀.toList)(hb:∀x∈b.toList,x∈a₀.toList)(hB:SM κ ar pd st)(h:JL a b (n+k) out ia ib){q:Nat×Nat}:wpS (model prog w) A E s (V2 a b mg (none,out,ia,ib,q)) (GL κ ar pd a b (n+1) (n+(k+1))) st:=by
 obtain⟨p,la,lb,li⟩:=h;refine aK (bg (cQ b ib lb) (aK (bg (cQ a ia (by lia)) (aK (o9 hC hB.kind (hb _ (by simp)) (ha _ (by simp)) fun w=>?_)))));cases w
 .refine aK (bg (cQ a ia (by lia)) ?_);have p:=p.qL (show ia<a.size by lia);refine gB hB (fun _=>p.last) fun f=>?_;have g:=lG f;exact⟨⟨p,by dsimp only;lia,lb,by dsimp only;lia⟩,p,by dsimp only;lia,lb,by dsimp only;lia⟩
 .refine aK (bg (cQ b ib lb) ?_);have p:=p.qM lb;refine gB hB (fun _=>p.done) fun f=>?_;have g:=lG f;exact⟨⟨p,la,by dsimp only at g |-;lia,by dsimp only;lia⟩,p,la,by dsimp only at g |-;lia,by dsimp only;lia⟩
theorem uL{Q:Array Keyed->SortSt->Prop}(hC:uH prog w A s κ a₀)(hB:SM κ ar pd st)(ha:∀x∈a.toList,x∈a₀.toList)(hb:∀x∈b.toList,x∈a₀.toList)(a1:1<=a.size)(b1:1<=b.size)(h:∀out aW,out.Perm (a++b)->SM κ ar pd aW->Q out aW):wpS (model prog w) A E s (o7 a b) Q st:=by
 rw[uJ];refine aK (j4 (f9 ⟨rfl,?_⟩));refine aK (bg (cQ b 0 (by lia)) ?_);have p0:PI a b #[b[0]] 0 1:=by
  have:PI a b #[] 0 0:=by unfold PI;simp
  exact this.qM (by lia)
 split
 .exact aN (h _ _ p0.done hB)
 next f=>
 split
 .exact aN (h _ _ p0.last hB)
 next f'=>
 have g:1≠b.size:=by simpa using f
 have g':0+1≠a.size:=by simpa using f'
 refine yG (J:=JL a b) hB ⟨p0,by lia,by lia,by lia⟩ (fun i k x y z h=>⟨h.1,h.2.1,h.2.2.1,by have:=h.2.2.2;lia⟩) (fun x y z h=>by have:=h.2;lia) (by lia) (fun mg n k x y z p st m j=>FB hC ha hb m j) (fun n x y z p st m j=>?_) h;unfold V3;split <;> exact FA hC ha hb m j
end
abbrev iX(a b out:Array Keyed)(na nb:Nat):=a.extract 0 na++b.extract 0 nb++out.reverse
abbrev n4(a b out:Array Keyed)(na nb:Nat):=b.extract 0 nb++a.extract 0 na++out.reverse
abbrev Hr ρ:=nB×Nat×Nat×Array Keyed×ρ
def V4(a b:Array Keyed)(mg:Nat)(t:Hr (Nat×Nat)):qK (ForInStep (Hr (Nat×Nat))):=do
 let x <- elem' b (t.2.2.1-1)
 let y <- elem' a (t.2.1-1)
 let some w <- lt' x y|pure (.done (some (iX a b t.2.2.2.1 t.2.1 t.2.2.1),t.2.1,t.2.2.1,t.2.2.2.1,t.2.2.2.2.1,t.2.2.2.2.2))
 if w then do
  let x <- elem' a (t.2.1-1)
  uI (t.2.1-1==0) (t.2.2.2.2.1+1>=mg) (iX a b (t.2.2.2.1.push x) (t.2.1-1) t.2.2.1) (t.2.1-1,t.2.2.1,t.2.2.2.1.push x,t.2.2.2.2.1+1,0)
 else do
  let x <- elem' b (t.2.2.1-1)
  uI (t.2.2.1-1==1) (t.2.2.2.2.2+1>=mg) (n4 a b (t.2.2.2.1.push x) t.2.1 (t.2.2.1-1)) (t.2.1,t.2.2.1-1,t.2.2.2.1.push x,0,t.2.2.2.2.2+1)
def RH(a b:Array Keyed)(na nb:Nat)(out:Array Keyed)(mg ac bc:Nat):qK (ForInStep (Hr (Nat×Nat×Nat))):=do
 let x <- elem' a (na-1)
 uI (na-1==0) ((ac<7&&bc<7)=true) (iX a b (out.push x) (na-1) nb) (na-1,nb,out.push x,mg,ac,bc)
def RI(a b:Array Keyed)(na nb:Nat)(out:Array Keyed)(mg ac bc:Nat):qK (ForInStep (Hr (Nat×Nat×Nat))):=do
 let x <- elem' b (nb-1)
 if nb-1==1 then pure (.done (some (n4 a b (out.push x) na (nb-1)),na,nb-1,out.push x,mg,ac,bc))
 else do
  let y <- elem' a (na-1)
  let some k <- fX true y b 0 (nb-1) (nb-1-1)|pure (.done (some (iX a b (out.push x) na (nb-1)),na,nb-1,out.push x,mg,ac,bc))
  if nb-1-k > 0 then
   if k==1 then pure (.done (some (n4 a b (out.push x++(b.extract k (nb-1)).reverse) na k),na,k,out.push x++(b.extract k (nb-1)).reverse,mg,ac,nb-1-k))
   else if k==0 then pure (.done (some (iX a b (out.push x++(b.extract k (nb-1)).reverse) na k),na,k,out.push x++(b.extract k (nb-1)).reverse,mg,ac,nb-1-k))
   else RH a b na k (out.push x++(b.extract k (nb-1)).reverse) mg ac (nb-1-k)
  else RH a b na (nb-1) (out.push x) mg ac (nb-1-k)
def RJ(a b:Array Keyed)(na nb:Nat)(out:Array Keyed)(mg ac bc:Nat):qK (ForInStep (Hr (Nat×Nat×Nat))):=do
 ge mg
 let y <- elem' b (nb-1)
 let some k <- fX false y a 0 na (na-1)|pure (.done (some (iX a b out na nb),na,nb,out,mg,ac,bc))
 if na-k > 0 then
  if k==0 then pure (.done (some (iX a b (out++(a.extract k na).reverse) k nb),k,nb,out++(a.extract k na).reverse,mg,na-k,bc))
  else RI a b k nb (out++(a.extract k na).reverse) mg (na-k) bc
 else RI a b na nb out mg (na-k) bc
def V5(a b:Array Keyed)(t:Hr (Nat×Nat×Nat)):qK (ForInStep (Hr (Nat×Nat×Nat))):=
 if t.2.2.2.2.1 > 1 then RJ a b t.2.1 t.2.2.1 t.2.2.2.1 (t.2.2.2.2.1-1) t.2.2.2.2.2.1 t.2.2.2.2.2.2 else RJ a b t.2.1 t.2.2.1 t.2.2.2.1 t.2.2.2.2.1 t.2.2.2.2.2.1 t.2.2.2.2.2.2
theorem uM(a b:Array Keyed):o8 a b=(do
 liftM (rule "list.sort.merge-hi")
 let x <- elem' a (a.size-1)
 if a.size-1==0 then pure (iX a b #[x] (a.size-1) b.size) else if b.size==1 then pure (n4 a b #[x] (a.size-1) b.size) else PX (a.size+b.size) (V4 a b) (V5 a b) (a.size-1) b.size #[x]):=by kernel_rfl
def PH(a b out:Array Keyed)(na nb:Nat):Prop:=out.toList.Perm (a.toList.drop na++b.toList.drop nb)
theorem PH.qL{a b out:Array Keyed}{na nb:Nat}(h:PH a b out na nb)(h1:1<=na)(hi:na-1<a.size):PH a b (out.push a[na-1]) (na-1) nb:=by
 unfold PH at h |-;have e:a.toList.drop (na-1)=a[na-1]::a.toList.drop na:=by
  have:=vx (l:=a.toList) (i:=na-1) (by simpa using hi);rw[this,Nat.sub_add_cancel h1];simp
 rw[lF,e];refine(h.append_right _).trans ?_;exact iu
theorem PH.qM{a b out:Array Keyed}{na nb:Nat}(h:PH a b out na nb)(h1:1<=nb)(hi:nb-1<b.size):PH a b (out.push b[nb-1]) na (nb-1):=by
 unfold PH at h |-;have e:b.toList.drop (nb-1)=b[nb-1]::b.toList.drop nb:=by
  have:=vx (l:=b.toList) (i:=nb-1) (by simpa using hi);rw[this,Nat.sub_add_cancel h1];simp
 rw[lF,e];refine(h.append_right _).trans ?_;rw[cN];exact mF _ iu
theorem lg{l:List Keyed}{i j:Nat}(h:i<=j):l.drop i=(l.drop i).take (j-i)++l.drop j:=by
 have:=(lx (j-i) (l.drop i)).symm;rw[List.drop_drop,show i+(j-i)=j by lia] at this;exact this
theorem PH.z6{a b out:Array Keyed}{na nb:Nat}(h:PH a b out na nb){k:Nat}(hk:k<=na):PH a b (out++(a.extract k na).reverse) k nb:=by
 unfold PH at h |-;rw[dC,vQ,df];conv=>rhs;rw[lg hk]
 refine((h.append_left _).trans ?_ |> fun z=>(List.Perm.trans iu ((v7 _).append_right _)).trans z);rw[cN]
theorem PH.z7{a b out:Array Keyed}{na nb:Nat}(h:PH a b out na nb){k:Nat}(hk:k<=nb):PH a b (out++(b.extract k nb).reverse) na k:=by
 unfold PH at h |-;rw[dC,vQ,df];conv=>rhs;rw[lg hk]
 refine(h.append_right _).trans ?_;rw[cN];refine mF _ ?_;exact iu.trans ((v7 _).append_right _)
theorem M6{a:Array Keyed}{j:Nat}:(a.extract 0 j).toList=a.toList.take j:=by rw[df,wA,Nat.sub_zero]
theorem PH.done{a b out:Array Keyed}{na nb:Nat}(h:PH a b out na nb):(a.extract 0 na++b.extract 0 nb++out.reverse).Perm (a++b):=by
 rw[kG];unfold PH at h;rw[dC,dC,dC,vQ,M6,M6];conv=>rhs;rw[<-lx na a.toList,<-lx nb b.toList]
 refine(mF _ ((v7 _).trans h)).trans ?_;rw[cN,cN];refine mF _ ?_;rw[<-cN,<-cN];exact vJ _ iu
theorem PH.first{a b out:Array Keyed}{na nb:Nat}(h:PH a b out na nb):(b.extract 0 nb++a.extract 0 na++out.reverse).Perm (a++b):=by
 refine Array.Perm.trans ?_ h.done;rw[kG];rw[dC,dC,dC,dC];exact vJ _ iu
section
variable {prog:Program} {w:World} {A:Around} {E:Value->Shared->Prop} {s:Shared} {κ:SortKind} {a₀:Array Keyed} {pd:Array (Nat×Nat×Nat)} {ar:Array Keyed} {a b out:Array Keyed} {na nb mg ac bc n:Nat} {st:SortSt}
def JH(a b:Array Keyed)(n na nb:Nat)(out:Array Keyed):Prop:=PH a b out na nb/\1<=na/\2<=nb/\na<=a.size/\nb<=b.size/\n+na+nb<=a.size+b.size
abbrev GH{ρ:Type}(κ:SortKind)(ar:Array Keyed)(pd:Array (Nat×Nat×Nat))(a b:Array Keyed)(n m:Nat):ForInStep (Hr ρ)->SortSt->Prop:=GP κ ar pd (fun x=>x.Perm (a++b)) (fun t=>JH a b n t.1 t.2.1 t.2.2.1) fun t=>JH a b m t.1 t.2.1 t.2.2.1
theorem yJ(hB:SM κ ar pd st)(p:PH a b out na nb)(la:1<=na)(lb:2<=nb)(ma:na<=a.size)(mb:nb<=b.size)(li:n+na+nb<=a.size+b.size+1):wpS (model prog w) A E s (RH a b na nb out mg ac bc) (GH κ ar pd a b n n) st:=by
 refine aK (bg (cQ a (na-1) (by lia)) ?_);have p:=p.qL la (show na-1<a.size by lia);refine gB hB (fun _=>p.done) fun f=>?_;have g:=lG f;have j:JH a b n (na-1) nb (out.push a[na-1]):=⟨p,by lia,lb,by lia,mb,by lia⟩
 exact⟨j,j⟩
theorem yK(hC:uH prog w A s κ a₀)(ha:∀x∈a.toList,x∈a₀.toList)(hb:∀x∈b.toList,x∈a₀.toList)(hB:SM κ ar pd st)(h:JH a b n na nb out):wpS (model prog w) A E s (RI a b na nb out mg ac bc) (GH κ ar pd a b n n) st:=by
 obtain⟨p,la,lb,ma,mb,li⟩:=h;refine aK (bg (cQ b (nb-1) (by lia)) ?_);have p:=p.qM (show 1<=nb by lia) (show nb-1<b.size by lia);split
 .exact dW hB p.first
 next f=>
 have g:nb-1≠1:=by simpa using f
 refine aK (bg (cQ a (na-1) (by lia)) ?_);refine aK (eA hC hB.kind (ha _ (by simp)) hb (by lia) (by lia) fun k hk=>?_);dsimp only;split
 .split
  .exact dW hB (p.z7 hk).first
  next f=>
  split
  .exact dW hB (p.z7 hk).done
  next f'=>
  have g:k≠1:=by simpa using f
  have g':k≠0:=by simpa using f'
  exact yJ hB (p.z7 hk) la (by lia) ma (by lia) (by lia)
 .exact yJ hB p la (by lia) ma (by lia) (by lia)
theorem FE(hC:uH prog w A s κ a₀)(ha:∀x∈a.toList,x∈a₀.toList)(hb:∀x∈b.toList,x∈a₀.toList)(hB:SM κ ar pd st)(h:JH a b n na nb out):wpS (model prog w) A E s (RJ a b na nb out mg ac bc) (GH κ ar pd a b n n) st:=by
 obtain⟨p,la,lb,ma,mb,li⟩:=h;refine aK (eU ?_);refine aK (bg (cQ b (nb-1) (by lia)) ?_);have pZ:SM κ ar pd (SortSt.mk' (kindOf st) (arrOf st) (pendingOf st) mg (failedOf st)):=⟨hB.arr,hB.kind,hB.failed,hB.pend⟩
 refine aK (eA hC pZ.kind (hb _ (by simp)) ha (by lia) (by lia) fun k hk=>?_);dsimp only;split
 .split
  .exact dW pZ (p.z6 hk).done
  next f=>
  have g:k≠0:=by simpa using f
  exact yK hC ha hb pZ ⟨p.z6 hk,by lia,lb,by lia,mb,by lia⟩
 .exact yK hC ha hb pZ ⟨p,la,lb,ma,mb,li⟩
theorem FF{k:Nat}(hC:uH prog w A s κ a₀)(ha:∀x∈a.toList,x∈a₀.toList)(hb:∀x∈b.toList,x∈a₀.toList)(hB:SM κ ar pd st)(h:JH a b (n+k) na nb out){q:Nat×Nat}:wpS (model prog w) A E s (V4 a b mg (none,na,nb,out,q)) (GH κ ar pd a b (n+1) (n+(k+1))) st:=by
 obtain⟨p,la,lb,ma,mb,li⟩:=h;refine aK (bg (cQ b (nb-1) (by lia)) (aK (bg (cQ a (na-1) (by lia)) (aK (o9 hC hB.kind (hb _ (by simp)) (ha _ (by simp)) fun w=>?_)))));cases w
 .refine aK (bg (cQ b (nb-1) (by lia)) ?_);have p:=p.qM (show 1<=nb by lia) (show nb-1<b.size by lia);refine gB hB (fun _=>p.first) fun f=>?_;have g:nb-1≠1:=lG f;have j:JH a b (n+(k+1)) na (nb-1) (out.push b[nb-1]):=⟨p,la,by lia,ma,by lia,by lia⟩
  exact⟨⟨p,la,j.2.2.1,ma,j.2.2.2.2.1,by have:=j.2.2.2.2.2;dsimp only;lia⟩,j⟩
 .refine aK (bg (cQ a (na-1) (by lia)) ?_);have p:=p.qL la (show na-1<a.size by lia);refine gB hB (fun _=>p.done) fun f=>?_;have g:na-1≠0:=lG f;have j:JH a b (n+(k+1)) (na-1) nb (out.push a[na-1]):=⟨p,by lia,lb,by lia,mb,by lia⟩
  exact⟨⟨p,j.2.1,lb,j.2.2.2.1,mb,by have:=j.2.2.2.2.2;dsimp only;lia⟩,j⟩
theorem uN{Q:Array Keyed->SortSt->Prop}(hC:uH prog w A s κ a₀)(hB:SM κ ar pd st)(ha:∀x∈a.toList,x∈a₀.toList)(hb:∀x∈b.toList,x∈a₀.toList)(a1:1<=a.size)(b1:1<=b.size)(h:∀out aW,out.Perm (a++b)->SM κ ar pd aW->Q out aW):wpS (model prog w) A E s (o8 a b) Q st:=by
 rw[uM];refine aK (j4 (f9 ⟨rfl,?_⟩));refine aK (bg (cQ a (a.size-1) (by lia)) ?_);have p0:PH a b #[a[a.size-1]] (a.size-1) b.size:=by
  have:PH a b #[] a.size b.size:=by unfold PH;simp
  exact this.qL a1 (by lia)
 split
 .exact aN (h _ _ p0.done hB)
 next f=>
 split
 .exact aN (h _ _ p0.first hB)
 next f'=>
 have g:a.size-1≠0:=by simpa using f
 have g':b.size≠1:=by simpa using f'
 refine yG (J:=JH a b) hB ⟨p0,by lia,by lia,by lia,by lia,by lia⟩ (fun i k x y z h=>⟨h.1,h.2.1,h.2.2.1,h.2.2.2.1,h.2.2.2.2.1,by have:=h.2.2.2.2.2;lia⟩) (fun x y z h=>by have:=h.2;lia) (by lia) (fun mg n k x y z p st m j=>FF hC ha hb m j) (fun n x y z p st m j=>?_) h;unfold V5;split <;> exact FE hC ha hb m j
end
section
variable {prog:Program} {w:World} {A:Around} {E:Value->Shared->Prop} {s:Shared} {κ:SortKind} {a₀:Array Keyed} {pd:Array (Nat×Nat×Nat)}
theorem z8{st:SortSt}{lo ml:Nat}{Q:Option Nat->SortSt->Prop}(hC:uH prog w A s κ a₀)(hn:lo+ml<=a₀.size)(h1:1<=ml)(hB:SQ κ a₀ pd st)(h:∀n aW,SQ κ a₀ pd aW->1<=n->n<=ml->Q (some n) aW):wpS (model prog w) A E s (countRun' lo ml) Q st:=by
 rw[countRun'_eq];refine aK (cU (d_ (I:=fun i c aW=>SQ κ a₀ pd aW/\∃m,c=(none,m)/\m=i) (Q:=fun c aW=>SQ κ a₀ pd aW/\∃m,c=(none,m)/\1<=m/\m<=ml) ?_ ?_ ⟨hB,_,rfl,rfl⟩) ?_)
 .rintro i c EJ Lf AN ⟨CU,m,rfl,rfl⟩;dsimp only;refine aK (dU hC CU (by lia) (by lia) fun b1=>?_);cases b1
  .exact aN ⟨CU,_,rfl,rfl⟩
  .exact aN ⟨CU,_,rfl,by lia,by lia⟩
 .rintro c EJ ⟨CU,m,rfl,rfl⟩;exact⟨CU,_,rfl,by lia,by lia⟩
 .rintro c EJ ⟨CU,n,rfl,n1,n2⟩;dsimp only;by_cases e1:(n==ml)=true
  .rw[am e1];exact aN (h n EJ CU n1 n2)
  rw[ao e1];have g1:¬ (n=ml):=by simpa using e1
  by_cases e2:n > 1
  .rw[am e2];refine aK (dU hC CU (by lia) (by lia) fun b2=>?_);cases b2
   .dsimp only;rw[ao (by decide)];refine aK (fw CU fun qr pZ=>?_);refine aK (j4 (f9 ⟨rfl,?_⟩));refine aK (cU (d_ (I:=fun i c aW=>SQ κ a₀ pd aW/\∃m q,c=(none,m,q)/\m=i) (Q:=fun c aW=>SQ κ a₀ pd aW/\∃m q,c=(none,m,q)/\1<=m/\m<=ml) ?_ ?_ ⟨pZ,_,_,rfl,rfl⟩) ?_)
    .rintro i c wL Lf AN ⟨nz,m,q,rfl,rfl⟩;dsimp only;refine aK (dU hC nz (by lia) (by lia) fun b3=>?_);cases b3
     .dsimp only;rw[ao (by decide)];refine aK (dU hC nz (by lia) (by lia) fun b4=>?_);cases b4
      .exact aN ⟨nz,_,_,rfl,rfl⟩
      .exact aN ⟨nz,_,_,rfl,by lia,by lia⟩
     .dsimp only;rw[am rfl];split
      .exact aK (fw nz fun pM Jj=>aN ⟨Jj,_,_,rfl,rfl⟩)
      .exact aN ⟨nz,_,_,rfl,rfl⟩
    .rintro c wL ⟨nz,m,q,rfl,rfl⟩;exact⟨nz,_,_,rfl,by lia,by lia⟩
    .rintro c wL ⟨nz,m,q,rfl,m1,m2⟩;dsimp only;split
     .refine aK (fw nz fun pM Jj=>?_);refine aK (fw Jj fun tU Jk=>?_);refine aK (cU (d_ (I:=fun i c aW=>SQ κ a₀ pd aW/\∃m,c=(none,m)/\m=i) (Q:=fun c aW=>SQ κ a₀ pd aW/\∃m,c=(none,m)/\1<=m/\m<=ml) ?_ ?_ ⟨Jk,_,rfl,rfl⟩) ?_)
      .rintro i c xA Lf AN ⟨kl,m,rfl,rfl⟩;dsimp only;refine aK (dU hC kl (by lia) (by lia) fun b6=>?_);cases b6
       .exact aN ⟨kl,_,rfl,rfl⟩
       .exact aN ⟨kl,_,rfl,by lia,by lia⟩
      .rintro c xA ⟨kl,m,rfl,rfl⟩;exact⟨kl,_,rfl,by lia,by lia⟩
      .rintro c xA ⟨kl,m,rfl,h1,h2⟩;exact aN (h m xA kl h1 h2)
     .refine aK (fw nz fun tU Jk=>?_);refine aK (cU (d_ (I:=fun i c aW=>SQ κ a₀ pd aW/\∃m,c=(none,m)/\m=i) (Q:=fun c aW=>SQ κ a₀ pd aW/\∃m,c=(none,m)/\1<=m/\m<=ml) ?_ ?_ ⟨Jk,_,rfl,rfl⟩) ?_)
      .rintro i c xA Lf AN ⟨kl,m,rfl,rfl⟩;dsimp only;refine aK (dU hC kl (by lia) (by lia) fun b6=>?_);cases b6
       .exact aN ⟨kl,_,rfl,rfl⟩
       .exact aN ⟨kl,_,rfl,by lia,by lia⟩
      .rintro c xA ⟨kl,m,rfl,rfl⟩;exact⟨kl,_,rfl,by lia,by lia⟩
      .rintro c xA ⟨kl,m,rfl,h1,h2⟩;exact aN (h m xA kl h1 h2)
   .exact aN (h n EJ CU n1 n2)
  .rw[ao e2];have pZ:=CU;refine aK (j4 (f9 ⟨rfl,?_⟩));refine aK (cU (d_ (I:=fun i c aW=>SQ κ a₀ pd aW/\∃m q,c=(none,m,q)/\m=i) (Q:=fun c aW=>SQ κ a₀ pd aW/\∃m q,c=(none,m,q)/\1<=m/\m<=ml) ?_ ?_ ⟨pZ,_,_,rfl,rfl⟩) ?_)
   .rintro i c wL Lf AN ⟨nz,m,q,rfl,rfl⟩;dsimp only;refine aK (dU hC nz (by lia) (by lia) fun b3=>?_);cases b3
    .dsimp only;rw[ao (by decide)];refine aK (dU hC nz (by lia) (by lia) fun b4=>?_);cases b4
     .exact aN ⟨nz,_,_,rfl,rfl⟩
     .exact aN ⟨nz,_,_,rfl,by lia,by lia⟩
    .dsimp only;rw[am rfl];split
     .exact aK (fw nz fun pM Jj=>aN ⟨Jj,_,_,rfl,rfl⟩)
     .exact aN ⟨nz,_,_,rfl,rfl⟩
   .rintro c wL ⟨nz,m,q,rfl,rfl⟩;exact⟨nz,_,_,rfl,by lia,by lia⟩
   .rintro c wL ⟨nz,m,q,rfl,m1,m2⟩;dsimp only;split
    .refine aK (fw nz fun pM Jj=>?_);refine aK (fw Jj fun tU Jk=>?_);refine aK (cU (d_ (I:=fun i c aW=>SQ κ a₀ pd aW/\∃m,c=(none,m)/\m=i) (Q:=fun c aW=>SQ κ a₀ pd aW/\∃m,c=(none,m)/\1<=m/\m<=ml) ?_ ?_ ⟨Jk,_,rfl,rfl⟩) ?_)
     .rintro i c xA Lf AN ⟨kl,m,rfl,rfl⟩;dsimp only;refine aK (dU hC kl (by lia) (by lia) fun b6=>?_);cases b6
      .exact aN ⟨kl,_,rfl,rfl⟩
      .exact aN ⟨kl,_,rfl,by lia,by lia⟩
     .rintro c xA ⟨kl,m,rfl,rfl⟩;exact⟨kl,_,rfl,by lia,by lia⟩
     .rintro c xA ⟨kl,m,rfl,h1,h2⟩;exact aN (h m xA kl h1 h2)
    .refine aK (fw nz fun tU Jk=>?_);refine aK (cU (d_ (I:=fun i c aW=>SQ κ a₀ pd aW/\∃m,c=(none,m)/\m=i) (Q:=fun c aW=>SQ κ a₀ pd aW/\∃m,c=(none,m)/\1<=m/\m<=ml) ?_ ?_ ⟨Jk,_,rfl,rfl⟩) ?_)
     .rintro i c xA Lf AN ⟨kl,m,rfl,rfl⟩;dsimp only;refine aK (dU hC kl (by lia) (by lia) fun b6=>?_);cases b6
      .exact aN ⟨kl,_,rfl,rfl⟩
      .exact aN ⟨kl,_,rfl,by lia,by lia⟩
     .rintro c xA ⟨kl,m,rfl,rfl⟩;exact⟨kl,_,rfl,by lia,by lia⟩
     .rintro c xA ⟨kl,m,rfl,h1,h2⟩;exact aN (h m xA kl h1 h2)
end
abbrev Lg:=Nat×Nat×Nat
def gC:List Lg->Nat->Nat->Prop
 |[],s,e=>s=e
 |r::rs,s,e=>r.1=s/\1<=r.2.1/\gC rs (s+r.2.1) e
theorem gC.le:∀ {l:List Lg} {s e:Nat},gC l s e->s<=e
 |[],_,_,h=>rO h
 |r::rs,s,e,⟨_,h2,h3⟩=>by have:=h3.le;lia
theorem gC.two:∀ {l:List Lg} {s e i:Nat} {x y:Lg},gC l s e->l[i]?=some x->l[i+1]?=some y->
  x.1+x.2.1=y.1/\y.1+y.2.1<=e/\1<=x.2.1/\1<=y.2.1/\∀p,gC ((l.set i (x.1,x.2.1+y.2.1,p)).eraseIdx (i+1)) s e
 |r::q::rs,s,e,0,x,y,⟨h1,h2,h3,h4,h5⟩,hx,hy=>by
  obtain rfl:=bS hx;obtain rfl:=bS hy;have:=h5.le;refine⟨by lia,by lia,h2,h4,fun p=>⟨h1,by show 1<=r.2.1+q.2.1;lia,?_⟩⟩;show gC rs (s+(r.2.1+q.2.1)) e;rw[<-Nat.add_assoc];exact h5
 |r::rs,s,e,i+1,x,y,⟨h1,h2,h3⟩,hx,hy=>by
  obtain⟨a1,a2,a3,a4,a5⟩:=gC.two (i:=i) h3 hx hy;exact⟨a1,a2,a3,a4,fun p=>⟨h1,h2,a5 p⟩⟩
theorem gC.push:∀ {l:List Lg} {s e n p:Nat},gC l s e->1<=n->gC (l++[(e,n,p)]) s (e+n)
 |[],s,e,n,p,h,hn=>⟨h.symm,hn,by rw[h];rfl⟩
 |r::rs,s,e,n,p,⟨h1,h2,h3⟩,hn=>⟨h1,h2,gC.push h3 hn⟩
theorem gC.pw:∀ {l:List Lg} {s e:Nat} (i p:Nat),gC l s e->gC (l.modify i fun r=>(r.1,r.2.1,p)) s e
 |[],s,e,i,p,h=>by cases i <;> exact h
 |r::rs,s,e,0,p,⟨h1,h2,h3⟩=>⟨h1,h2,h3⟩
 |r::rs,s,e,i+1,p,⟨h1,h2,h3⟩=>⟨h1,h2,gC.pw i p h3⟩
theorem FG{M:Model}{A:Around}{E:Value->Shared->Prop}{s:Shared}{σ:Type}{x:σ}{Q:PUnit->σ->Prop}{st:σ}(h:Q ⟨⟩ x):wpS M A E s (set x:StateT σ Sem PUnit) Q st:=by
 unfold wpS;rw[StateT.run_set];exact wpAny_pure ⟨rfl,h⟩
theorem uO(i:Nat):mergeAt' i=(do
 let s <- get
 let (some (sa,na,M7),some (sb,nb,_)):=((pendingOf s)[i]?,(pendingOf s)[i+1]?)|unsupported "internal:list.sort.pending"
 set (setPending s (((pendingOf s).setIfInBounds i (sa,na+nb,M7)).eraseIdxIfInBounds (i+1)))
 let some k <- fX false (<-elem' (arrOf s) sb) (arrOf s) sa na 0|return false
 let (sa,na):=(sa+k,na-k)
 if na==0 then return true
 let some nb <- fX true (<-elem' (arrOf s) (sa+na-1)) (arrOf s) sb nb (nb-1)|return false
 if nb==0 then return true
 let x:=(arrOf s).extract sa sb
 let y:=(arrOf s).extract sb (sb+nb)
 let merged <- if na<=nb then o7 x y else o8 x y
 modify fun s=>setArr s (merged.toList.zipIdx.foldl (fun a (p,j)=>a.setIfInBounds (sa+j) p) (arrOf s))
 return (failedOf (<-get)).isNone):=rfl
theorem pc{sa:Nat}:∀ (l:List Keyed) (k:Nat) (arr:Array Keyed),sa+k+l.length<=arr.size->
  ((l.zipIdx k).foldl (fun (a:Array Keyed) (x:Keyed×Nat)=>a.setIfInBounds (sa+x.2) x.1) arr).toList=arr.toList.take (sa+k)++l++arr.toList.drop (sa+k+l.length)
 |[],k,arr,_=>by simp
 |x::l,k,arr,h=>by
  rw[cZ] at h;have hs:sa+k<arr.toList.length:=by rw[jP];lia
  rw[List.zipIdx_cons,rG,pc l (k+1) _ (by rw[Array.size_setIfInBounds];lia),AZ];dsimp only;have e1:(arr.toList.set (sa+k) x).take (sa+(k+1))=arr.toList.take (sa+k)++[x]:=by
   rw[<-Nat.add_assoc,ie,oh hs,List.take_set_of_le (aO _)];rfl
  have e2:(arr.toList.set (sa+k) x).drop (sa+(k+1)+l.length)=arr.toList.drop (sa+k+(x::l).length):=by
   rw[List.drop_set_of_lt (by lia),cZ];congr 1;lia
  rw[e1,e2,cN,cN,cN];rfl
section
variable {prog:Program} {w:World} {A:Around} {E:Value->Shared->Prop} {s:Shared} {κ:SortKind} {a₀:Array Keyed}
def SR(κ:SortKind)(a₀:Array Keyed)(lo:Nat)(st:SortSt):Prop:=∃pd,SQ κ a₀ pd st/\gC pd.toList 0 lo/\lo<=a₀.size
theorem iY{st:SortSt}{i lo:Nat}{Q:Bool->SortSt->Prop}(hC:uH prog w A s κ a₀)(hB:SR κ a₀ lo st)(hi:i+1<(pendingOf st).size)(h:∀aW,SR κ a₀ lo aW->Q true aW):wpS (model prog w) A E s (mergeAt' i) Q st:=by
 obtain⟨pd,hq,hr,PB⟩:=hB;rw[hq.pend] at hi;rw[uO];refine aK (fH ?_);have e1:pd[i]?=some pd[i]:=cQ pd i (by lia);have e2:pd[i+1]?=some pd[i+1]:=cQ pd (i+1) hi;obtain⟨a1,a2,a3,a4,a5⟩:=hr.two (i:=i) (x:=pd[i]) (y:=pd[i+1]) (by simpa using e1) (by simpa using e2);rw[hq.pend,e1,e2];revert a1 a2 a3 a4 a5;generalize pd[i]=x;generalize pd[i+1]=y;obtain⟨sa,na,pw⟩:=x;obtain⟨sb,nb,pw2⟩:=y;intro a1 a2 a3 a4 a5;dsimp only at a1 a2 a3 a4 a5 |-;obtain⟨FH,M8⟩:∃FH,FH=(pd.setIfInBounds i (sa,na+nb,pw)).eraseIdxIfInBounds (i+1):=⟨_,rfl⟩
 have AM:gC FH.toList 0 lo:=by
  rw[M8,Array.toList_eraseIdxIfInBounds,AZ];exact a5 pw
 refine aK (FG ?_);rw[<-M8];have Hg:SM κ (arrOf st) FH (setPending st FH):=⟨rfl,hq.kind,hq.failed,rfl⟩
 have kP:=hq.size;have nA:∀x∈(arrOf st).toList,x∈a₀.toList:=fun x hx=>(kG.mp hq.perm).mem_iff.mp hx;have dt:∀aW,SM κ (arrOf st) FH aW->SR κ a₀ lo aW:=fun aW m=>⟨FH,⟨by rw[m.arr];exact hq.perm,m.kind,m.failed,m.pend⟩,AM,PB⟩
 refine aK (bg (cQ (arrOf st) sb (by lia)) ?_);refine aK (eA hC Hg.kind (nA _ (by simp)) nA (by lia) (by lia) fun k hk=>?_);dsimp only;by_cases f1:(na-k==0)=true
 .rw[am f1];exact aN (h _ (dt _ Hg))
 rw[ao f1];have g1:¬ (na-k=0):=by simpa using f1
 refine aK (bg (cQ (arrOf st) (sa+k+(na-k)-1) (by lia)) ?_);refine aK (eA hC Hg.kind (nA _ (by simp)) nA (by lia) (by lia) fun k2 Ym=>?_);dsimp only;by_cases f2:(k2==0)=true
 .rw[am f2];exact aN (h _ (dt _ Hg))
 rw[ao f2];have g2:¬ (k2=0):=by simpa using f2
 have hx:∀x∈((arrOf st).extract (sa+k) sb).toList,x∈a₀.toList:=fun x hx=>nA x (by rw[df] at hx;exact oy (on hx));have hy:∀x∈((arrOf st).extract sb (sb+k2)).toList,x∈a₀.toList:=fun x hx=>nA x (by rw[df] at hx;exact oy (on hx));have sx:((arrOf st).extract (sa+k) sb).size=sb-(sa+k):=by rw[Array.size_extract];lia
 have sy:((arrOf st).extract sb (sb+k2)).size=k2:=by rw[Array.size_extract];lia
 have last:∀ (out:Array Keyed) (aW:SortSt),out.Perm ((arrOf st).extract (sa+k) sb++(arrOf st).extract sb (sb+k2))->SM κ (arrOf st) FH aW->wpS (model prog w) A E s (do
   modify fun s=>setArr s (out.toList.zipIdx.foldl (fun a (p,j)=>a.setIfInBounds (sa+k+j) p) (arrOf s))
   return (failedOf (<-get)).isNone) Q aW:=by
  intro out aW hp m;refine aK (eU ?_);refine aK (fH (aN ?_));have V6:out.toList.length=sb-(sa+k)+k2:=by
   rw[jP,hp.size_eq,Array.size_append,sx,sy]
  have wl:=pc (sa:=sa+k) out.toList 0 (arrOf aW) (by rw[m.arr,V6];lia);have pm:(out.toList.zipIdx.foldl (fun a (p,j)=>a.setIfInBounds (sa+k+j) p) (arrOf aW)).Perm (arrOf st):=by
   rw[kG];refine(rH wl).trans ?_;rw[m.arr,V6,Nat.add_zero];have Lb:=kG.mp hp;rw[dC,df,df] at Lb;refine((Lb.append_left _).append_right _).trans ?_;have e1:(arrOf st).toList.drop (sa+k)=((arrOf st).toList.drop (sa+k)).take (sb-(sa+k))++(arrOf st).toList.drop sb:=lg (by lia);have e2:(arrOf st).toList.drop sb=((arrOf st).toList.drop sb).take (sb+k2-sb)++(arrOf st).toList.drop (sb+k2):=lg (by lia);have e3:sa+k+(sb-(sa+k)+k2)=sb+k2:=by lia
   rw[e3];refine rH ?_;conv=>rhs;rw[<-lx (sa+k) (arrOf st).toList,e1,e2]
   simp only[cN]
  have hf:(failedOf aW).isNone=true:=by rw[m.failed];rfl
  show Q (failedOf aW).isNone _;rw[hf];exact h _ ⟨FH,⟨pm.trans hq.perm,m.kind,m.failed,m.pend⟩,AM,PB⟩
 by_cases f3:na-k<=k2
 .rw[am f3];exact aK (uL hC Hg hx hy (by lia) (by lia) fun out aW hp m=>last out aW hp m)
 .rw[ao f3];exact aK (uN hC Hg hx hy (by lia) (by lia) fun out aW hp m=>last out aW hp m)
theorem uP{c:Prop}[Decidable c]{x:Nat}:(if c then x-1 else x)<=x:=by split <;> lia
theorem SR.pw{lo:Nat}{st:SortSt}(h:SR κ a₀ lo st)(i p:Nat):SR κ a₀ lo (setPending st ((pendingOf st).modify i fun r=>(r.1,r.2.1,p))):=by
 obtain⟨pd,hq,hr,hl⟩:=h;refine⟨_,⟨hq.perm,hq.kind,hq.failed,rfl⟩,?_,hl⟩;show gC ((pendingOf st).modify i fun r=>(r.1,r.2.1,p)).toList 0 lo;rw[hq.pend,Array.toList_modify];exact hr.pw i p
theorem SR.push{lo n:Nat}{st:SortSt}(h:SR κ a₀ lo st)(h1:1<=n)(hn:lo+n<=a₀.size):SR κ a₀ (lo+n) (setPending st ((pendingOf st).push (lo,n,0))):=by
 obtain⟨pd,hq,hr,hl⟩:=h;refine⟨_,⟨hq.perm,hq.kind,hq.failed,rfl⟩,?_,hn⟩;show gC ((pendingOf st).push (lo,n,0)).toList 0 (lo+n);rw[hq.pend,lF];exact hr.push h1
theorem z_{st:SortSt}{Q:Unit->SortSt->Prop}(hC:uH prog w A s κ a₀)(hp:(arrOf st).Perm a₀)(hk:kindOf st=κ)(hf:failedOf st=none)(Yn:pendingOf st=#[])(h:∀aW,(arrOf aW).Perm a₀->failedOf aW=none->Q () aW):wpS (model prog w) A E s sortRuns' Q st:=by
 have h0:SR κ a₀ 0 st:=⟨#[],⟨hp,hk,hf,Yn⟩,rfl,cR _⟩
 have kP:(arrOf st).size=a₀.size:=hp.size_eq;rw[sortRuns'_eq];refine aK (fH ?_);dsimp only;rw[kP];refine aK (cU (d_ (I:=fun _ c aW=>∃lo,c=(none,lo)/\SR κ a₀ lo aW) (Q:=fun c aW=>∃lo,c=(none,lo)/\SR κ a₀ lo aW) ?_ (fun c aW hh=>hh) ⟨0,rfl,h0⟩) ?_)
 .rintro i c EJ _ _ ⟨lo,rfl,hR⟩;dsimp only;by_cases e1:lo>=a₀.size
  .rw[am e1];exact aN ⟨lo,rfl,hR⟩
  rw[ao e1];have PB:lo<a₀.size:=by lia
  obtain⟨pd,hq,hr,hl⟩:=hR;refine aK (z8 hC (by lia) (by lia) hq fun n qr PF n1 n2=>?_);dsimp only;by_cases hm:n<minRun' a₀.size a₀.size 0
  .rw[am hm];refine aK (j4 (f9 ⟨rfl,?_⟩));refine aK (Fz hC (by lia) PF fun wL VE=>?_);simp only[rL,lD,gR];have EA:SR κ a₀ lo wL:=⟨pd,VE,hr,hl⟩
   refine aK (fH ?_);cases hb:(pendingOf wL).back? with
   |none=>
    dsimp only;exact aK (eU (aN ⟨_,rfl,EA.push (by lia) (by lia)⟩))
   |some r=>
    obtain⟨s1,Yo,Yp⟩:=r;dsimp only;refine aK (cU (d_ (I:=fun _ c aW=>c=(none,())/\SR κ a₀ lo aW) (Q:=fun c aW=>c=(none,())/\SR κ a₀ lo aW) ?_ (fun c aW hh=>hh) ⟨rfl,EA⟩) ?_)
    .rintro x c pM _ _ ⟨rfl,uQ⟩;refine aK (fH ?_);by_cases hs:(pendingOf pM).size > 1
     .rw[am hs,cQ (pendingOf pM) ((pendingOf pM).size-2) (by lia)];generalize (pendingOf pM)[(pendingOf pM).size-2]=r4;obtain⟨_,_,M9⟩:=r4;dsimp only;split
      .exact aN ⟨rfl,uQ⟩
      .refine aK (iY hC uQ (by lia) fun tU M_=>?_);simp only[rL,lD,gR];exact aN ⟨rfl,M_⟩
     .rw[ao hs];exact aN ⟨rfl,uQ⟩
    .rintro c pM ⟨rfl,uQ⟩;dsimp only;exact aK (eU (aK (eU (aN ⟨_,rfl,(uQ.pw _ _).push (by lia) (by lia)⟩))))
  .rw[ao hm];have EA:SR κ a₀ lo qr:=⟨pd,PF,hr,hl⟩
   refine aK (fH ?_);cases hb:(pendingOf qr).back? with
   |none=>
    dsimp only;exact aK (eU (aN ⟨_,rfl,EA.push (by lia) (by lia)⟩))
   |some r=>
    obtain⟨s1,Yo,Yp⟩:=r;dsimp only;refine aK (cU (d_ (I:=fun _ c aW=>c=(none,())/\SR κ a₀ lo aW) (Q:=fun c aW=>c=(none,())/\SR κ a₀ lo aW) ?_ (fun c aW hh=>hh) ⟨rfl,EA⟩) ?_)
    .rintro x c pM _ _ ⟨rfl,uQ⟩;refine aK (fH ?_);by_cases hs:(pendingOf pM).size > 1
     .rw[am hs,cQ (pendingOf pM) ((pendingOf pM).size-2) (by lia)];generalize (pendingOf pM)[(pendingOf pM).size-2]=r4;obtain⟨_,_,M9⟩:=r4;dsimp only;split
      .exact aN ⟨rfl,uQ⟩
      .refine aK (iY hC uQ (by lia) fun tU M_=>?_);simp only[rL,lD,gR];exact aN ⟨rfl,M_⟩
     .rw[ao hs];exact aN ⟨rfl,uQ⟩
    .rintro c pM ⟨rfl,uQ⟩;dsimp only;exact aK (eU (aK (eU (aN ⟨_,rfl,(uQ.pw _ _).push (by lia) (by lia)⟩))))
 .rintro c EJ ⟨lo,rfl,hR⟩;dsimp only;refine aK (cU (d_ (I:=fun _ c aW=>c=(none,())/\SR κ a₀ lo aW) (Q:=fun c aW=>c=(none,())/\SR κ a₀ lo aW) ?_ (fun c aW hh=>hh) ⟨rfl,hR⟩) ?_)
  .rintro x c pM _ _ ⟨rfl,uQ⟩;refine aK (fH ?_);by_cases hs:(pendingOf pM).size<=1
   .rw[am hs];exact aN ⟨rfl,uQ⟩
   rw[ao hs];refine aK (iY hC uQ ?_ fun tU M_=>?_)
   .exact gi (Nat.succ_le_succ uP) (show (pendingOf pM).size-2+1<(pendingOf pM).size by lia)
   .simp only[rL,lD,gR];exact aN ⟨rfl,M_⟩
  .rintro c pM ⟨rfl,pd,hq,_⟩;exact aN (h _ hq.perm hq.failed)
end
end PyProof.Rows
namespace L2
open PySem PySem.Spec PyProof.Rows PySem.W
def g_(h:Heap)(vs:List Value):Prop:=∀v∈vs,∃a o n x t y u,v=Value.ref a/\h.get? a=some o/\o.cls=.type "tuple"/\o.data=.seq #[.int x t,.int y u] n
theorem g_.gU{h:Heap}:∀ {vs:List Value},g_ h vs->∃fs,KatTups h vs fs/\fs.length=vs.length/\∀v∈fs,∃n t,v=Value.int n t
 |[],_=>⟨[],trivial,rfl,fun v hv=>nomatch hv⟩
 |v::vs,hp=>by
  obtain⟨fs,k1,k2,k3⟩:=g_.gU (vs:=vs) fun b hb=>hp b (b_ _ hb);obtain⟨a,o,n,x,t,y,u,rfl,e,c,d⟩:=hp v cg;refine⟨.int x t::fs,KatTups.cons e c d rfl k1,by simp[k2],fun v hv=>?_⟩;rcases bu.mp hv with z|z
  .exact⟨x,t,z⟩
  .exact k3 v z
section
variable {prog:Program} {w:World} {A:Around} {E:Value->Shared->Prop} {s:Shared}
theorem Aa{vs:List Value}(hp:g_ s.heap vs):uH prog w A s (tuples' true) (vs.toArray.zip vs.toArray):=by
 have mem:∀x∈(vs.toArray.zip vs.toArray).toList,x.1∈vs:=by
  intro x hx;rw[Array.toList_zip] at hx;exact(lH hx).1
 intro x y hx hy Q E' q;obtain⟨a,o,n,x1,t1,x2,t2,e1,eo,_,ed⟩:=hp x.1 (mem x hx);obtain⟨b,o',n',y1,u1,y2,u2,e2,Yq,_,Yr⟩:=hp y.1 (mem y hy);rw[e1,e2];refine kat_lt eo ed Yq Yr (kat_cons (wB ?_));by_cases h1:x1=y1
 .rw[fG.mpr h1];refine kat_yes (kat_cons (wB ?_));by_cases h2:x2=y2
  .rw[fG.mpr h2];exact kat_yes (kat_nil (q _))
  .rw[jO.mpr h2];exact kat_no (kat_one _ _ (lt_int (q _)))
 .rw[jO.mpr h1];exact kat_no (oneLt_int (q _))
theorem FJ{vs:List Value}:((vs.toArray.zip vs.toArray).map (·.2)).toList=vs:=by
 rw[rE,Array.toList_zip];show (vs.zip vs).map (·.2)=vs;rw[<-List.unzip_snd,List.unzip_zip_right (aO _)]
theorem nC{a:Addr}{vs:List Value}{n:Nat}{P:PySem.Fin->Shared->Prop}(ho:s.heap.get? a=some (seqObj "list" vs.toArray n))(hp:g_ s.heap vs)(hz:vs.length<=4096)(h:∀ (out:Array Value),out.toList.Perm vs->P (.done (.ret .none)) { s with heap:=sortedHeap s.heap a vs out }):
  wpAny (model prog w) A (Builtin.«list.sort» ⟨[.ref a],[]⟩) P E s:=by
 rw[list_sort_plain];have ha:a<s.heap.objs.size:=aX ho;have La:vs.toArray.size<=sizeLine:=by rw[bU,gQ];lia
 refine aw (listItems_at ho rfl ?_);refine aw (listUpdate_at ho rfl ?_ La (cR _));obtain⟨e1,PY⟩:∃e1,(s.heap.update a (Obj.mapSeq fun _=>#[])).get? a=some (seqObj "list" #[] e1):=⟨_,get?_update_seq ho (fun _=>#[])⟩
 refine aw (seqEpoch_at PY rfl ?_);refine aw (wpAny_newTuple ?_ (by show vs.length<=_;rw[gQ];lia));refine aw (wpAny_newList ?_ (cR _));refine iB ?_;have Lh:(((s.heap.update a (Obj.mapSeq fun _=>#[])).push (seqObj "tuple" vs.toArray 0)).push (seqObj "list" #[] 0)).get? a=some (seqObj "list" #[] e1):=by
  rw[ig _ _ _ (by rw[j3,jB];exact aZ (dM ha)),ig _ _ _ (by rw[jB];exact aZ ha)];exact PY
 have V7:g_ (((s.heap.update a (Obj.mapSeq fun _=>#[])).push (seqObj "tuple" vs.toArray 0)).push (seqObj "list" #[] 0)) vs:=by
  intro v hv;obtain⟨b,o,n,x,t,y,u,ev,e,c,d⟩:=hp v hv;have hb:b<s.heap.objs.size:=aX e;have ka:b≠a:=by
   rintro rfl;rw[ho] at e;cases e;exact absurd (Value.type.inj c) (by decide)
  refine⟨b,o,n,x,t,y,u,ev,?_,c,d⟩;rw[ig _ _ _ (by rw[j3,jB];exact aZ (dM hb)),ig _ _ _ (by rw[jB];exact aZ hb),oB _ _ _ _ ka];exact e
 show wpAny (model prog w) A _ P E { s with heap:=((s.heap.update a (Obj.mapSeq fun _=>#[])).push (seqObj "tuple" vs.toArray 0)).push (seqObj "list" #[] 0) };dsimp only;have dt:∀aW:SortSt,(arrOf aW).Perm (vs.toArray.zip vs.toArray)->P (.done (.ret .none)) { s with heap:=sortedHeap s.heap a vs ((arrOf aW).map (·.2)) }:=by
  intro aW PZ;refine h _ ?_;have:=(kG.mp PZ).map (·.2);rw[<-rE,<-rE,FJ] at this;exact this
 have V8:(vs.toArray.zip vs.toArray).size=vs.length:=by simp
 by_cases h2:vs.toArray.size<2
 .rw[am h2,am h2];refine aw (wpAny_pure ?_);rw[StateT.run_pure];refine aw (wpAny_pure ?_);dsimp only;refine aw (seqEpoch_at Lh rfl ?_);refine aw (listUpdate_at Lh rfl ?_ (cR _) (by show ((vs.toArray.zip vs.toArray).map (·.2)).size<=_;rw[gO,V8,gQ];lia));simp only[bne_self_eq_false,lD,gR];exact wpAny_pure (dt (SortSt.mk' general' (vs.toArray.zip vs.toArray) #[] 7 none) (Array.Perm.refl _))
 .rw[ao h2,ao h2];have dL:2<=vs.length:=by rw[bU] at h2;lia
  obtain⟨fs,k1,k2,k3⟩:=V7.gU;refine aw (kat_kind (T:=.type "int") k1 (by lia) (fun v hv=>?_) rfl ?_)
  .obtain⟨m,t,rfl⟩:=k3 v hv;exact .now
  refine aw (f_ (z_ (a₀:=vs.toArray.zip vs.toArray) (κ:=tuples' true) (st:=SortSt.mk' (tuples' true) (vs.toArray.zip vs.toArray) #[] 7 none)
   (Q:=fun _ aW=>(arrOf aW).Perm (vs.toArray.zip vs.toArray)/\failedOf aW=none) (Aa V7) (Array.Perm.refl _) rfl rfl rfl fun aW b1 b2=>⟨b1,b2⟩) ?_ fun _ _ e=>e)
  rintro⟨⟨⟩,aW⟩ s' ⟨rfl,PZ,hf⟩;dsimp only;refine aw (seqEpoch_at Lh rfl ?_);refine aw (listUpdate_at Lh rfl ?_ (cR _) (by refine bq (rO ((gO ..).trans (PZ.size_eq.trans V8))) ?_;rw[gQ];lia));rw[hf];simp only[bne_self_eq_false,lD,gR];exact wpAny_pure (dt aW PZ)
theorem sJ{l:Addr}{vs:List Value}{Q:Value->Shared->Prop}(hl:s.heap.IsList l vs.toArray)(hp:g_ s.heap vs)(hz:vs.length<=4096)(h:∀ (out:Array Value),out.toList.Perm vs->Q (.ref (s.heap.objs.size+1)) { s with heap:=sortedAll s.heap vs out }):
  wpAny (model prog w) A (call (.builtin "sorted") [.ref l]) Q E s:=by
 have La:vs.length<=sizeLine:=by rw[gQ];lia
 refine Calls.call_function_entry kind_sorted plain_sorted entry_sorted (args_sorted1 _) ?_;unfold Builtin.«sorted»;refine aw (m:=checkCount "sorted" 1 1 _) (wpAny_pure ?_);refine aw (collect_list hl ?_ La);refine aw (wpAny_newList ?_ La);have kP:((s.heap.push (seqObj "list" #[] 0)).update s.heap.objs.size (Obj.mapSeq (·++vs.toArray))).objs.size=s.heap.objs.size+1:=by
  rw[jB,j3]
 have EM:(((s.heap.push (seqObj "list" #[] 0)).update s.heap.objs.size (Obj.mapSeq (·++vs.toArray))).push (seqObj "list" vs.toArray 0)).get? (s.heap.objs.size+1)=some (seqObj "list" vs.toArray 0):=by
  rw[<-kP];exact cW _ rfl
 have Ys:g_ (((s.heap.push (seqObj "list" #[] 0)).update s.heap.objs.size (Obj.mapSeq (·++vs.toArray))).push (seqObj "list" vs.toArray 0)) vs:=by
  intro v hv;obtain⟨b,o,n,x,t,y,u,ev,e,c,d⟩:=hp v hv;have hb:b<s.heap.objs.size:=aX e;refine⟨b,o,n,x,t,y,u,ev,?_,c,d⟩;rw[ig _ _ _ (by rw[kP];exact aZ (dM hb)),oB _ _ _ _ (aZ hb),ig _ _ _ (aZ hb)];exact e
 show wpAny _ _ _ _ _ { s with heap:=((s.heap.push (seqObj "list" #[] 0)).update s.heap.objs.size (Obj.mapSeq (·++vs.toArray))).push (seqObj "list" vs.toArray 0) };rw[kP];refine aw (iB (jV slot_list_sort ⟨_,EM,rfl⟩ entry_list_sort (nC EM Ys hz fun out a1=>⟨_,rfl,?_⟩) (args_list_sort _)));exact wpAny_pure ⟨_,rfl,h out a1⟩
end
theorem pf:∀ {as:List Addr} {its:List Value},aR (as.map V.ref) its->its=as.map Value.ref
 |[],_,r=>by cases r;rfl
 |a::as,_,r=>by
  cases r with
  |cons r rr=>
   obtain rfl:=(show _=Value.ref a from r)
   rw[pf rr];rfl
theorem qN:∀ {as:List Addr},aR (as.map V.ref) (as.map Value.ref)
 |[]=>.nil
 |_::_=>.cons rfl qN
theorem Ab{as:List Addr}{vs:List Value}(h:vs.Perm (as.map Value.ref)):∃vj:List Addr,vs=vj.map Value.ref/\vj.Perm as:=by
 let un:Value->Addr:=fun v=>match v with|.ref a=>a|_=>0
 refine⟨vs.map un,?_,?_⟩
 .rw[ij];have:∀v∈vs,(Value.ref ∘ un) v=v:=by
   intro v hv;obtain⟨a,_,rfl⟩:=a_.mp (h.mem_iff.mp hv);rfl
  conv=>lhs;rw[<-iG vs]
  exact mG fun v hv=>(this v hv).symm
 .have:=h.map un;rw[ij] at this;have e:as.map (un ∘ Value.ref)=as:=by
   conv=>rhs;rw[<-iG as]
   exact mG fun a _=>rfl
  rw[e] at this;exact this
def CV(K:PySem.W.Frag):List V->Hp->VK->Prop:=fun xs H Q=>∃ (l:Addr) (as:List Addr),xs=[.ref l]/\bz K H l (as.map V.ref)/\(∀a∈as,∃x y:Int,bD K H a [.int x,.int y])/\as.length<=4096/\
 ∀ (D:Addr) (vj:List Addr),H D=none->vj.Perm as->Q (.ref D) (upd H D (.lst (vj.map V.ref)))
theorem xB{X:Cx}:eM X (.builtin "sorted") (CV X.K):=by
 intro ae s σ H xs us Q I r h;obtain⟨l,as,rfl,hl,hp,hz,q⟩:=h;obtain⟨u1,rfl,r1⟩:=r.one;obtain rfl:u1=Value.ref l:=r1;obtain⟨its,rv,pl,_⟩:=I.list hl;have Jb:=pf rv;subst Jb;have Yt:g_ s.heap (as.map Value.ref):=by
  intro v hv;obtain⟨a,ha,rfl⟩:=a_.mp hv;obtain⟨x,y,P0⟩:=hp a ha;obtain⟨its,r,⟨o,e,c,n,d⟩,_⟩:=I.tuple P0;obtain⟨u1,u2,rfl,r1,r2⟩:=r.two;obtain⟨t,rfl⟩:=r1;obtain⟨t',rfl⟩:=r2;exact⟨a,o,n,x,t,y,t',rfl,e,c,d⟩
 refine sJ pl.isList Yt (by rw[bp];exact hz) fun out Na=>?_;obtain⟨vj,eo,pa⟩:=Ab Na;have zW:out=(vj.map Value.ref).toArray:=by rw[<-eo]
 subst zW;have RK:((s.heap.push (seqObj "list" #[] 0)).update s.heap.objs.size (Obj.mapSeq (·++(as.map Value.ref).toArray))).objs.size=s.heap.objs.size+1:=by rw[jB,j3]
 have k1:∀b u,s.heap.get? b=some u->(((s.heap.push (seqObj "list" #[] 0)).update s.heap.objs.size (Obj.mapSeq (·++(as.map Value.ref).toArray))).push (seqObj "list" (as.map Value.ref).toArray 0)).get? b=some u:=fun b u e=>by
  have hb:b<s.heap.objs.size:=aX e;rw[ig _ _ _ (by rw[RK];exact aZ (dM hb)),oB _ _ _ _ (aZ hb),ig _ _ _ (aZ hb)];exact e
 have EM:(((s.heap.push (seqObj "list" #[] 0)).update s.heap.objs.size (Obj.mapSeq (·++(as.map Value.ref).toArray))).push (seqObj "list" (as.map Value.ref).toArray 0)).get? (s.heap.objs.size+1)=some (seqObj "list" (as.map Value.ref).toArray 0):=by
  rw[<-RK];exact cW _ rfl
 have Li:(((s.heap.push (seqObj "list" #[] 0)).update s.heap.objs.size (Obj.mapSeq (·++(as.map Value.ref).toArray))).push (seqObj "list" (as.map Value.ref).toArray 0)).objs.size=s.heap.objs.size+2:=by rw[j3,RK]
 show EP X ae σ Q (.ref (s.heap.objs.size+1)) { s with heap:=sortedHeap (((s.heap.push (seqObj "list" #[] 0)).update s.heap.objs.size (Obj.mapSeq (·++(as.map Value.ref).toArray))).push (seqObj "list" (as.map Value.ref).toArray 0)) (s.heap.objs.size+1) (as.map Value.ref) (vj.map Value.ref).toArray };revert k1 EM Li;generalize ((s.heap.push (seqObj "list" #[] 0)).update s.heap.objs.size (Obj.mapSeq (·++(as.map Value.ref).toArray))).push (seqObj "list" (as.map Value.ref).toArray 0)=h1;intro k1 EM Li;obtain⟨e1,PY⟩:∃e1,(h1.update (s.heap.objs.size+1) (Obj.mapSeq fun _=>(#[]:Array Value))).get? (s.heap.objs.size+1)=some (seqObj "list" #[] e1):=⟨_,get?_update_seq EM (fun _=>#[])⟩
 have Lh:(((h1.update (s.heap.objs.size+1) (Obj.mapSeq fun _=>(#[]:Array Value))).push (seqObj "tuple" (as.map Value.ref).toArray 0)).push (seqObj "list" #[] 0)).get? (s.heap.objs.size+1)=some (seqObj "list" #[] e1):=by
  rw[ig _ _ _ (by rw[j3,jB,Li];exact aZ (dM (jU _))),ig _ _ _ (by rw[jB,Li];exact aZ (jU _))];exact PY
 obtain⟨e2,Yu⟩:∃e2,(sortedHeap h1 (s.heap.objs.size+1) (as.map Value.ref) (vj.map Value.ref).toArray).get? (s.heap.objs.size+1)=some (seqObj "list" (vj.map Value.ref).toArray e2):=⟨_,get?_update_seq Lh (fun _=>(vj.map Value.ref).toArray)⟩
 have keep:∀b u,s.heap.get? b=some u->(sortedHeap h1 (s.heap.objs.size+1) (as.map Value.ref) (vj.map Value.ref).toArray).get? b=some u:=fun b u e=>by
  have hb:b<s.heap.objs.size:=aX e;unfold sortedHeap;rw[oB _ _ _ _ (aZ (dM hb)),ig _ _ _ (by rw[j3,jB,Li];exact aZ (dM (dM (dM hb)))),ig _ _ _ (by rw[jB,Li];exact aZ (dM (dM hb))),oB _ _ _ _ (aZ (dM hb))];exact k1 b u e
 have Hs:s.heap.get? (s.heap.objs.size+1)=none:=rD (by lia);refine⟨.ref (s.heap.objs.size+1),_,I.Cj (t':=s.toks) (o:=.lst (vj.map V.ref)) keep Hs ⟨?_,vj.map Value.ref,e2,qN,Yu⟩,rfl,q _ vj (I.bA.o2 Hs) pa⟩;rw[bp,pa.length_eq];exact bq hz (by decide)
open PySem PySem.Spec PyProof.Rows
section
variable {prog:Program} {w:World} {A:Around} {E:Value->Shared->Prop} {s:Shared}
end
section
variable {X:Cx}
theorem xC(rx:aR xs us)(ry:aR ys vs)(fx:xs.all fh=true)(fy:ys.all fh=true):
  ∀j (h1:j<us.toArray.size) (h2:j<vs.toArray.size),SeqAt.EqAt A s us.toArray[j] vs.toArray[j] (qy (xs.getD j .bi) (ys.getD j .bi)):=by
 intro j h1 h2;have j1:j<xs.length:=by rw[rx.length];simpa using h1
 have j2:j<ys.length:=by rw[ry.length];simpa using h2
 have e1:xs[j]?=some (xs.getD j .bi):=by rw[cf,bZ j1];rfl
 have e2:ys[j]?=some (ys.getD j .bi):=by rw[cf,bZ j2];rfl
 obtain⟨u,MJ,ru⟩:=rx.get e1;obtain⟨v,ML,rv⟩:=ry.get e2;have eu:us.toArray[j]=u:=by
  have:us[j]?=some us.toArray[j]:=by simp at h1 |-
  rw[MJ] at this;exact(bS this).symm
 have ev:vs.toArray[j]=v:=by
  have:vs[j]?=some vs.toArray[j]:=by simp at h2 |-
  rw[ML] at this;exact(bS this).symm
 rw[eu,ev];exact sf ru rv (ii.mp fx _ (cY e1)) (ii.mp fy _ (cY e2))
theorem CW(I:aF X ae σ H s)(hu:A.units+1<cLine)(ha:bD X.K H a xs)(hb:bD X.K H b ys)(hl:xs.length=ys.length)(fx:xs.all fh=true)(fy:ys.all fh=true):
  SeqAt.EqAt A s (.ref a) (.ref b) (fV qy xs ys):=by
 by_cases Jl:a=b
 .subst Jl;have e1:=I.gs ha hb;subst e1;have e2:fV qy xs xs=true:=by
   clear ha hb hl fy;induction xs with
   |nil=>rfl
   |cons x xs ih=>
    rw[rK,gj] at fx;rw[fV,ih fx.2,wD];cases x <;> first|rfl|(show (_==_)=true;simp)|exact absurd (show false=true from fx.1) bJ
  rw[e2];exact SeqAt.EqAt.same _
 .obtain⟨us,r1,p1,_⟩:=I.tuple ha;obtain⟨vs,r2,p2,_⟩:=I.tuple hb;have h:=SeqAt.RcAt.tuples (A:=A) (s:=s) (l:=a) (b:=b) (e:=fun i=>qy (xs.getD i .bi) (ys.getD i .bi)) (show s.heap.IsTuple a us.toArray from p1) (show s.heap.IsTuple b vs.toArray from p2) (by lia)
   (xC r1 r2 fx fy)
  refine SeqAt.EqAt.of_refs Jl ?_;have er:((List.range (min us.toArray.size vs.toArray.size)).all (fun i=>qy (xs.getD i .bi) (ys.getD i .bi))&&us.toArray.size==vs.toArray.size)=fV qy xs ys:=by
   rw[bU,bU,<-r1.length,<-r2.length,<-hl,Nat.min_self,beq_self_eq_true,wD,fW hl]
  rw[er] at h;exact h
theorem xD{p q:Int×Int}:fV qy [.int p.1,.int p.2] [.int q.1,.int q.2]=decide (p=q):=by
 obtain⟨a,b⟩:=p;obtain⟨c,d⟩:=q;show ((a==c)&&((b==d)&&true))=decide ((a,b)=(c,d));by_cases h1:a=c <;> by_cases h2:b=d <;> simp[h1,h2]
def Jm(K:PySem.W.Frag)(neg:Bool):R2:=fun x y H Q=>∃ (p l:Addr) (u:Int×Int) (as:List Addr) (ps:List (Int×Int)),x=.ref p/\y=.ref l/\bD K H p [.int u.1,.int u.2]/\bz K H l (as.map V.ref)/\as.length=ps.length/\(∀i,i<ps.length->bD K H (as.getD i 0) [.int (ps.getD i (0,0)).1,.int (ps.getD i (0,0)).2])/\
 Q (.bl (if neg then !decide (u∈ps) else decide (u∈ps))) H
open Classical in
theorem yL(I:aF X ae σ H s):∀ {as:List Addr} {ps:List (Int×Int)},as.length=ps.length->(∀i,i<ps.length->bD X.K H (as.getD i 0) [.int (ps.getD i (0,0)).1,.int (ps.getD i (0,0)).2])->
  ((as.map Value.ref).any fun v=>decide (∃a,v=Value.ref a/\bD X.K H a [.int u.1,.int u.2]))=decide (u∈ps)
 |[],[],_,_=>by simp
 |a::as,p::ps,hl,h=>by
  have ih:=yL I (u:=u) (as:=as) (ps:=ps) (by simpa using hl) (fun i hi=>h (i+1) (by simpa using hi));have h0:bD X.K H a [.int p.1,.int p.2]:=h 0 (by simp);rw[gq,jX,ih];have e:decide (∃b,Value.ref a=Value.ref b/\bD X.K H b [.int u.1,.int u.2])=decide (u=p):=by
   rw[gK,jQ,jQ];constructor
   .rintro⟨b,e,hb⟩;cases e;have:=I.gs h0 hb;have e1:p.1=u.1:=V.int.inj (lK this).1;have e2:p.2=u.2:=V.int.inj (lK (lK this).2).1;exact gT e1.symm e2.symm
   .rintro rfl;exact⟨a,rfl,h0⟩
  rw[e];by_cases z:u=p
  .simp[z]
  .simp[z]
open Classical in
theorem CZ{ae:List (Addr×Obj)}{σ:St}{H:Hp}{s:Shared}{A:Around}(I:aF X ae σ H s)(hu:A.units+1<cLine){p:Addr}{u:Int×Int}(hp:bD X.K H p [.int u.1,.int u.2]){as:List Addr}{ps:List (Int×Int)}(hl:as.length=ps.length)(h:∀i,i<ps.length->bD X.K H (as.getD i 0) [.int (ps.getD i (0,0)).1,.int (ps.getD i (0,0)).2]):∀v∈as.map Value.ref,SeqAt.EqAt A s v (.ref p) (decide (∃a,v=Value.ref a/\bD X.K H a [.int u.1,.int u.2])):=by
 intro v hv;obtain⟨a,ha,rfl⟩:=a_.mp hv;obtain⟨i,hi,e⟩:=rB.mp ha;have hq:=h i (by lia);have ea:as.getD i 0=a:=by rw[cf,bZ hi];exact e
 rw[ea] at hq;have z:=CW (A:=A) I hu hq hp rfl rfl rfl;rw[xD] at z;have e:decide (∃b,Value.ref a=Value.ref b/\bD X.K H b [.int u.1,.int u.2])=decide (ps.getD i (0,0)=u):=by
  rw[gK,jQ,jQ];constructor
  .rintro⟨b,e,hb⟩;cases e;have:=I.gs hq hb;exact gT (V.int.inj (lK this).1) (V.int.inj (lK (lK this).2).1)
  .intro e;rw[<-e];exact⟨a,rfl,hq⟩
 rw[e];exact z
open Classical in
theorem Ac(hu:X.A.units+2<cLine):jm X (compareOp .NotIn) (Jm X.K true):=by
 intro ae s σ H x y v u Q I rx ry h;obtain⟨p,l,w,as,ps,rfl,rfl,hp,hl,dL,V9,q⟩:=h;obtain rfl:v=Value.ref p:=rx;obtain rfl:u=Value.ref l:=ry;obtain⟨its,r,pl,_⟩:=I.list hl;have e:=pf r;subst e;refine SeqAt.notIn_listAt (fun v=>decide (∃a,v=Value.ref a/\bD X.K H a [.int w.1,.int w.2])) pl.isList (fun y hy=>CZ I (by show X.A.units+1+1<cLine;lia) hp dL V9 y (by simpa using hy)) ⟨.bl _,H,I,rfl,?_⟩;rw[show (as.map Value.ref).toArray.any (fun v=>decide (∃a,v=Value.ref a/\bD X.K H a [.int w.1,.int w.2]))=(as.map Value.ref).any (fun v=>decide (∃a,v=Value.ref a/\bD X.K H a [.int w.1,.int w.2])) by simp,yL I dL V9];exact q
end
end L2
namespace iZ
abbrev Ts:=List (Int×Int)
def T(ts:Ts)(a b:Nat):Prop:=(((a:Nat):Int),((b:Nat):Int))∈ts
instance (ts:Ts) (a b:Nat):Decidable (T ts a b):=inferInstanceAs (Decidable (_∈_))
def hU(ts:Ts):Nat->Nat->Nat->Prop
 |0,a,b=>a=b
 |k+1,a,b=>∃c,hU ts k a c/\T ts c b
theorem hU.trans(h:hU ts k a b):∀ {l:Nat} {c:Nat},hU ts l b c->hU ts (k+l) a c
 |0,_,e=>by cases e;exact h
 |l+1,_,⟨d,w,t⟩=>⟨d,h.trans w,t⟩
theorem hU.one(h:T ts a b):hU ts 1 a b:=⟨a,rfl,h⟩
theorem hU.cons(h:T ts a b)(w:hU ts k b c):hU ts (k+1) a c:=by
 have:=(hU.one h).trans w;rwa [Nat.add_comm] at this
def qO(ts:Ts)(a b d:Nat):Prop:=hU ts d a b/\∀k,hU ts k a b->d<=k
theorem qO.uniq(h:qO ts a b d)(g:qO ts a b e):d=e:=Nat.le_antisymm (h.2 _ g.1) (g.2 _ h.1)
open Classical in
noncomputable def Ht(ts:Ts)(a b:Nat):Nat:=if h:∃d,qO ts a b d then h.choose else 0
theorem Jn(h:qO ts a b d):Ht ts a b=d:=by
 unfold Ht;have hx:∃d,qO ts a b d:=⟨d,h⟩
 rw[dif_pos hx];exact hx.choose_spec.uniq h
structure km(n:Nat)(ts:Ts):Prop where
 n1:2<=n
 n2:n<=32
 nd:ts.Nodup
 rg:∀t∈ts,(0<=t.1/\t.1<n)/\(0<=t.2/\t.2<n)
 ne:∀t∈ts,t.1≠t.2
 Yv:∀h:Int,(ts.filter fun t=>decide (t.1=h)).length=(ts.filter fun t=>decide (t.2=h)).length
 most:∀h:Int,(ts.filter fun t=>decide (t.1=h)).length<=8
 con:∀a b,a<n->b<n->∃k,hU ts k a b
theorem Ae(f:α->Int):∀ (l:List α) (n:Nat),(∀x∈l,0<=f x/\f x<n)->(∀h:Int,(l.filter fun t=>decide (f t=h)).length<=8)->l.length<=8*n:=by
 intro l n;induction n generalizing l with
 |zero=>
  intro h _;cases l with
  |nil=>simp
  |cons x xs=>have:=h x cg;lia
 |succ n ih=>
  intro h h8;have e:l.length=(l.filter fun t=>decide (f t=(n:Int))).length+(l.filter fun t=>!decide (f t=(n:Int))).length:=by
   induction l with
   |nil=>rfl
   |cons x xs Yw=>
    have:=Yw (fun y hy=>h y (b_ _ hy)) (fun hh=>bq (by rw[fF];split <;> simp) (h8 hh));by_cases q:f x=(n:Int) <;> simp[fF,q] <;> lia
  have i2:=ih (l.filter fun t=>!decide (f t=(n:Int))) (fun x hx=>by
   have a:=h x (eL.mp hx |>.1);have b:=(eL.mp hx).2;simp at b;lia) (fun hh=>by
   refine bq ?_ (h8 hh);exact(vU.filter _).length_le)
  have:=h8 (n:Int);lia
theorem km.len(F:km n ts):ts.length<=256:=by
 have:=Ae (·.1) ts n (fun t ht=>(F.rg t ht).1) F.most;have:=F.n2;lia
theorem km.V_(F:km n ts)(h:T ts a b):a<n/\b<n/\a≠b:=by
 have q:=F.rg _ h;have q2:=F.ne _ h;refine⟨by have:=q.1;simp at this;lia,by have:=q.2;simp at this;lia,fun e=>q2 (by rw[e])⟩
def dX(n:Nat)(ts:Ts)(h:Nat):List Nat:=((List.range n).map fun s=>(h+s) % n).filter fun o=>decide (T ts h o)
theorem eS(F:km n ts)(hh:h<n):o∈dX n ts h↔T ts h o:=by
 unfold dX;rw[eL,lE];refine⟨fun z=>z.2,fun z=>⟨?_,z⟩⟩;obtain⟨_,h2,_⟩:=F.V_ z;refine a_.mpr ⟨if h<=o then o-h else o+n-h,cX.mpr (by split <;> lia),?_⟩;split
 .rw[show h+(o-h)=o by lia,iC h2]
 .rw[show h+(o+n-h)=o+n by lia,Nat.add_mod_right,iC h2]
theorem FK(F:km n ts)(hh:h<n)(ho:o∈dX n ts h):o<n:=(F.V_ ((eS F hh).mp ho)).2.1
def key(n h o:Nat):Int:=((o:Int)-(h:Int)) % (n:Int)
theorem C0(hh:h<n)(hs:s<n):key n h ((h+s) % n)=(s:Int):=by
 unfold key;by_cases c:h+s<n
 .rw[iC c,show (((h+s:Nat):Int)-(h:Int))=(s:Int) by lia];exact Int.emod_eq_of_lt (by lia) (by lia)
 .have e:(h+s) % n=h+s-n:=by
   rw[Nat.mod_eq_sub_mod (by lia),iC (by lia)]
  rw[e,show ((((h+s-n:Nat)):Int)-(h:Int))=(s:Int)-(n:Int) by lia,Int.sub_emod_right];exact Int.emod_eq_of_lt (by lia) (by lia)
theorem uR(hh:h<n):(dX n ts h).Pairwise fun a b=>key n h a<key n h b:=by
 unfold dX;refine List.Pairwise.filter _ ?_;refine mI.mpr ?_;refine List.Pairwise.imp_of_mem ?_ (List.pairwise_lt_range (n:=n));intro a b ha hb Jl;rw[C0 hh (cX.mp ha),C0 hh (cX.mp hb)];lia
theorem m8{α:Type}{k:α->Int}:∀ {a b:List α},a.Pairwise (fun x y=>k x<k y)->b.Pairwise (fun x y=>k x<k y)->(∀x,x∈a↔x∈b)->a=b
 |[],[],_,_,_=>rfl
 |[],y::ys,_,_,h=>absurd ((h y).mpr cg) (by simp)
 |x::xs,[],_,_,h=>absurd ((h x).mp cg) (by simp)
 |x::xs,y::ys,ha,hb,h=>by
  obtain⟨a1,a2⟩:=List.pairwise_cons.mp ha;obtain⟨b1,b2⟩:=List.pairwise_cons.mp hb;have e:x=y:=by
   rcases bu.mp ((h x).mp cg) with z|z
   .exact z
   .rcases bu.mp ((h y).mpr cg) with z'|z'
    .exact z'.symm
    .have q1:=b1 x z;have q2:=a1 y z';lia
  subst e;refine congrArg (x::·) (m8 a2 b2 fun z=>⟨fun hz=>?_,fun hz=>?_⟩)
  .rcases bu.mp ((h z).mp (b_ _ hz)) with q|q
   .subst q;exact absurd (a1 _ hz) (by lia)
   .exact q
  .rcases bu.mp ((h z).mpr (b_ _ hz)) with q|q
   .subst q;exact absurd (b1 _ hz) (by lia)
   .exact q
structure Af(n:Nat)(ts:Ts)(s i:Nat)(R:List Nat)(f:Nat->Nat):Prop where
 nd:R.Nodup
 lt:∀x∈R,x<n
 st:s∈R
 z:f s=0
 wk:∀x∈R,hU ts (f x) s x
 up:R.Pairwise fun a b=>f a<=f b
 bd:∀u,R[i]?=some u->∀x∈R,f x<=f u+1
 cl:∀j u,j<i->R[j]?=some u->∀v,T ts u v->v∈R/\f v<=f u+1
theorem Af.start(hs:s<n):Af n ts s 0 [s] (fun _=>0):=
 ⟨by simp,fun x hx=>by simp at hx;lia,by simp,rfl,fun x hx=>by simp at hx;subst hx;rfl,by simp,fun u _ x _=>by lia,fun j u h=>absurd h (by lia)⟩
def put(f:Nat->Nat)(v k:Nat):Nat->Nat:=fun y=>if y=v then k else f y
theorem i6:put f v k v=k:=by simp[put]
theorem e_(h:x≠v):put f v k x=f x:=by simp[put,h]
theorem Af.add(B:Af n ts s i R f)(hu:R[i]?=some u)(hv:v<n)(t:T ts u v)(hn:v∉R):Af n ts s i (R++[v]) (put f v (f u+1)):=by
 have Wa:u∈R:=cY hu;have nv:∀x∈R,x≠v:=fun x hx e=>hn (e ▸ hx);have hi:i<R.length:=(cV.mp hu).1;refine⟨?_,fun x hx=>?_,ix _ B.st,by rw[e_ (nv s B.st)];exact B.z,fun x hx=>?_,?_,fun w hw x hx=>?_,fun j w hj hw x hx=>?_⟩
 .rw[v8];exact⟨B.nd,by simp,fun a ha b hb e=>by simp at hb;subst hb;exact hn (e ▸ ha)⟩
 .rcases cP.mp hx with z|z
  .exact B.lt x z
  .simp at z;lia
 .rcases cP.mp hx with z|z
  .rw[e_ (nv x z)];exact B.wk x z
  .simp at z;subst z;rw[i6];exact⟨u,B.wk u Wa,t⟩
 .rw[List.pairwise_append];refine⟨B.up.imp_of_mem fun {a b} ha hb h=>by rw[e_ (nv a ha),e_ (nv b hb)];exact h,by simp,fun a ha b hb=>?_⟩;simp at hb;subst hb;rw[e_ (nv a ha),i6];exact B.bd u hu a ha
 .have Ag:w=u:=by
   rw[mB hi,hu] at hw;exact(bS hw).symm
  subst Ag;rw[e_ (nv w Wa)];rcases cP.mp hx with z|z
  .rw[e_ (nv x z)];exact B.bd w hu x z
  .simp at z;subst z;rw[i6];exact aO _
 .rw[mB (by lia)] at hw;obtain⟨a,b⟩:=B.cl j w hj hw x hx;refine⟨ix _ a,?_⟩;rw[e_ (nv x a),e_ (nv w (cY hw))];exact b
theorem Af.next(B:Af n ts s i R f)(hu:R[i]?=some u)(h:∀v,T ts u v->v∈R/\f v<=f u+1):Af n ts s (i+1) R f:=by
 refine⟨B.nd,B.lt,B.st,B.z,B.wk,B.up,fun w hw x hx=>?_,fun j w hj hw v hv=>?_⟩
 .have h1:=B.bd u hu x hx;have h2:f u<=f w:=by
   have hi:i<R.length:=(cV.mp hu).1;have Ho:i+1<R.length:=(cV.mp hw).1;have:=List.pairwise_iff_getElem.mp B.up i (i+1) hi Ho (by lia);rw[bZ hi] at hu;rw[bZ Ho] at hw;rw[bS hu,bS hw] at this;exact this
  lia
 .by_cases e:j=i
  .subst e;rw[hu] at hw;cases hw;exact h v hv
  .exact B.cl j w (by lia) hw v hv
theorem hV:∀ {n:Nat} {R:List Nat},R.Nodup->(∀x∈R,x<n)->R.length<=n:=by
 intro n R hn hl;have key:∀ (a b:List Nat),a.Nodup->(∀x∈a,x∈b)->a.length<=b.length:=by
  intro a;induction a with
  |nil=>intro b _ _;exact cR _
  |cons x xs ih=>
   intro b hn hs;obtain⟨h1,h2⟩:=d8.mp hn;have hx:x∈b:=hs x cg;have:=ih (b.erase x) h2 fun y hy=>(List.mem_erase_of_ne (fun (e:y=x)=>h1 (e ▸ hy))).mpr (hs y (b_ _ hy));rw[Bb hx] at this;have:0<b.length:=List.length_pos_of_mem hx;rw[cZ];lia
 have:=key R (List.range n) hn fun x hx=>cX.mpr (hl x hx);rwa [kH] at this
theorem Af.done(B:Af n ts s i R f)(F:km n ts)(hi:R.length<=i)(hx:x<n):x∈R/\f x=Ht ts s x:=by
 have cl:∀u∈R,∀v,T ts u v->v∈R/\f v<=f u+1:=fun u hu v hv=>by
  obtain⟨j,hj,e⟩:=rB.mp hu;exact B.cl j u (by lia) (by rw[bZ hj,e]) v hv
 have walk:∀k x,hU ts k s x->x∈R/\f x<=k:=by
  intro k;induction k with
  |zero=>intro x e;cases e;exact⟨B.st,by rw[B.z];exact aO _⟩
  |succ k ih=>
   rintro x ⟨c,w,t⟩;obtain⟨c1,c2⟩:=ih c w;obtain⟨d1,d2⟩:=cl c c1 x t;exact⟨d1,by lia⟩
 obtain⟨k,w⟩:=F.con s x (B.lt s B.st) hx;obtain⟨m,_⟩:=walk k x w;exact⟨m,(Jn ⟨B.wk x m,fun k w=>(walk k x w).2⟩).symm⟩
end iZ
namespace L2
open PySem PySem.Spec PyProof.Rows
section
variable {X:Cx}
end
end L2
namespace iZ
abbrev yM(u:Int×Int):Int×Int:=(u.2,u.1)
def kC(ps:Ts):Ts:=ps.flatMap fun u=>[u,yM u]
theorem xE:kC (ps++qs)=kC ps++kC qs:=List.flatMap_append
theorem i7:∀ {ps:Ts},(kC ps).Perm (ps++ps.map yM)
 |[]=>List.Perm.refl _
 |u::ps=>by
  have ih:=i7 (ps:=ps);show (u::yM u::kC ps).Perm (u::(ps++yM u::ps.map yM));refine List.Perm.cons _ ?_;exact(ih.cons _).trans List.perm_middle.symm
theorem sK:∀ {ps:Ts},(kC ps).length=2*ps.length
 |[]=>rfl
 |u::ps=>by
  have ih:=sK (ps:=ps);show (kC ps).length+2=2*(ps.length+1);lia
theorem FL(h:u∈kC ps):yM u∈kC ps:=by
 obtain⟨v,hv,hu⟩:=wj.mp h;refine wj.mpr ⟨v,hv,?_⟩;rcases bu.mp hu with e|e
 .rw[e];exact b_ _ (dD.mpr rfl)
 .rw[dD.mp e];exact cg
theorem eK:u∈kC ps↔u∈ps\/yM u∈ps:=by
 rw[(i7 (ps:=ps)).mem_iff,cP];refine or_congr Iff.rfl ⟨fun h=>?_,fun h=>a_.mpr ⟨_,h,rfl⟩⟩;obtain⟨v,hv,rfl⟩:=a_.mp h;exact hv
theorem FM:((kC ps).map yM).Perm (kC ps):=by
 refine((i7 (ps:=ps)).map yM).trans (List.Perm.trans ?_ (i7 (ps:=ps)).symm);rw[dF,ij];have e:ps.map (yM ∘ yM)=ps:=(mG fun u _=>rfl).trans (iG ps);rw[e];exact iu
abbrev n5(q:Nat×Nat):Int×Int:=((q.1:Int),(q.2:Int))
def b1(b:Bool):Nat:=cond b 1 0
def kn(h:Nat):List (Nat×Nat)->Nat
 |[]=>0
 |q::qs=>b1 (Nat.beq q.1 h)+(b1 (Nat.beq q.2 h)+kn h qs)
theorem yN{h:Nat}:∀ {qs:List (Nat×Nat)},((kC (qs.map n5)).filter fun t=>decide (t.1=(h:Int))).length=kn h qs
 |[]=>rfl
 |q::qs=>by
  have ih:=yN (h:=h) (qs:=qs);have e:∀a:Nat,(if decide ((a:Int)=(h:Int))=true then 1 else 0)=b1 (Nat.beq a h):=fun a=>by
   by_cases c:a=h
   .subst c;rw[am (by simp),Nat.beq_refl];rfl
   .rw[ao (by simp;lia),show Nat.beq a h=false from mK.mpr fun z=>c (Nat.eq_of_beq_eq_true z)];rfl
  show ((n5 q::yM (n5 q)::kC (qs.map n5)).filter _).length=b1 (Nat.beq q.1 h)+(b1 (Nat.beq q.2 h)+kn h qs);rw[<-ih,<-e q.1,<-e q.2,fF,fF];split <;> split <;> simp <;> lia
def pr:List Nat->Nat
 |[]=>1
 |n::ns=>n*pr ns
def p7(m st n:Nat):List (Nat×Nat):=((List.range m).filter fun h=>decide (h / st % n+1<n)).map fun h=>(h,h+st)
def bx(m:Nat):Nat->List Nat->List (Nat×Nat)
 |_,[]=>[]
 |st,n::ns=>p7 m st n++bx m (st*n) ns
def hX(ns:List Nat):List (Nat×Nat):=bx (pr ns) 1 ns
def FN:Nat->List Nat->Nat->Nat->Prop
 |_,[],_,_=>False
 |st,n::ns,a,b=>(a / st % n+1<n/\b=a+st)\/FN (st*n) ns a b
theorem yO:q∈p7 m st n↔q.1<m/\q.1 / st % n+1<n/\q.2=q.1+st:=by
 unfold p7;rw[a_];constructor
 .rintro⟨h,hh,rfl⟩;obtain⟨h1,h2⟩:=eL.mp hh;exact⟨cX.mp h1,fc h2,rfl⟩
 .rintro⟨h1,h2,h3⟩;exact⟨q.1,eL.mpr ⟨cX.mpr h1,bH h2⟩,gT rfl h3.symm⟩
theorem mm:∀ {ns:List Nat} {st:Nat},q∈bx m st ns↔q.1<m/\FN st ns q.1 q.2
 |[],st=>⟨fun h=>(nomatch h),fun h=>h.2.elim⟩
 |n::ns,st=>by
  unfold bx FN;rw[cP,yO,mm (ns:=ns)];constructor
  .rintro(⟨a,b,c⟩|⟨a,b⟩)
   .exact⟨a,.inl ⟨b,c⟩⟩
   .exact⟨a,.inr b⟩
  .rintro⟨a,⟨b,c⟩|b⟩
   .exact .inl ⟨a,b,c⟩
   .exact .inr ⟨a,b⟩
abbrev U(ns:List Nat):Nat->Nat->Prop:=FN 1 ns
theorem sO:∀ {ns:List Nat} {st a b:Nat},0<st->(∀n∈ns,0<n)->(FN st ns a b↔a % st=b % st/\U ns (a / st) (b / st))
 |[],st,a,b,h,_=>⟨fun z=>z.elim,fun z=>z.2.elim⟩
 |n::ns,st,a,b,h,hn=>by
  have Ev:=hn n cg;have xr:∀n∈ns,0<n:=fun x hx=>hn x (b_ _ hx);show (_\/FN (st*n) ns a b)↔a % st=b % st/\(_\/FN (1*n) ns (a / st) (b / st))
  rw[rP,sO (lM h Ev) xr,sO Ev xr,lO,og a st n,og b st n,Nat.mod_mul,Nat.mod_mul];have e1:=iA a st;have e2:=iA b st;constructor
  .rintro(⟨c,rfl⟩|⟨c,d⟩)
   .refine⟨by rw[Nat.add_mod_right],.inl ⟨c,by rw[Nat.add_div_right _ h]⟩⟩
   .have m1:a % st=b % st:=by
     have:=congrArg (· % st) c;simp only[A0,Nat.mod_mod] at this;exact this
    refine⟨m1,.inr ⟨?_,d⟩⟩;rw[m1] at c;exact Nat.eq_of_mul_eq_mul_left h (Nat.add_left_cancel c)
  .rintro⟨m1,⟨c,d⟩|⟨c,d⟩⟩
   .refine .inl ⟨c,?_⟩;rw[<-e2,d,<-m1,oK,lN,Nat.add_right_comm,e1]
   .exact .inr ⟨by rw[m1,c],d⟩
theorem sQ(h:∀x∈n::ns,0<x):U (n::ns) a b↔(a % n+1<n/\b=a+1)\/(a % n=b % n/\U ns (a / n) (b / n)):=by
 show (_\/FN (1*n) ns a b)↔_;rw[rP,sO (h n cg) fun x hx=>h x (b_ _ hx),lO]
theorem kq(h:a % n+1<n):(a+1) / n=a / n/\(a+1) % n=a % n+1:=by
 have e:=iA a n;have e2:a+1=n*(a / n)+(a % n+1):=by lia
 have hn:0<n:=by lia
 rw[e2,Nat.mul_add_div hn,Nat.mul_add_mod,wf h,iC h];exact⟨rfl,rfl⟩
theorem Nb:∀ {ns:List Nat} {a b:Nat},(∀x∈ns,0<x)->U ns a b->a<pr ns->a<b/\b<pr ns
 |[],a,b,_,h,_=>h.elim
 |n::ns,a,b,hn,h,ha=>by
  have Ev:=hn n cg;have xr:∀n∈ns,0<n:=fun x hx=>hn x (b_ _ hx);have Me:a<n*pr ns:=ha;have hq:a / n<pr ns:=vO Me;show a<b/\b<n*pr ns;rcases(sQ hn).mp h with ⟨c,rfl⟩|⟨c,d⟩
  .refine⟨by lia,?_⟩;have e:=iA a n;have:=lB n hq;rw[Nat.succ_eq_add_one,oK,lN] at this;lia
  .obtain⟨i1,i2⟩:=Nb xr d hq;refine⟨?_,?_⟩
   .have e1:=iA a n;have e2:=iA b n;have:=AY i1 Ev;lia
   .have e2:=iA b n;have hm:=iH b Ev;have:=lB n i2;rw[Nat.succ_eq_add_one,oK,lN] at this;lia
theorem C1:∀ {ns:List Nat} {v:Nat},(∀x∈ns,0<x)->0<v->v<pr ns->∃u,u<v/\U ns u v
 |[],v,_,h1,h2=>by have h2:v<1:=h2;lia
 |n::ns,v,hn,h1,h2=>by
  have Ev:=hn n cg;have xr:∀n∈ns,0<n:=fun x hx=>hn x (b_ _ hx);have lv:=iH v Ev;have ev:=iA v n;by_cases c:v % n=0
  .have hq:0<v / n:=by
    rcases vX (v / n) with z|z
    .rw[z,c] at ev;simp at ev;lia
    .exact z
   obtain⟨u,hu,uu⟩:=C1 (v:=v / n) xr hq (vO h2);refine⟨n*u,?_,(sQ hn).mpr (.inr ⟨by rw[Nat.mul_mod_right,c],by rw[Nat.mul_div_cancel_left _ Ev];exact uu⟩)⟩;have:=AY hu Ev;lia
  .have hv:v-1=n*(v / n)+(v % n-1):=by lia
   have hm:(v-1) % n=v % n-1:=by rw[hv,Nat.mul_add_mod,iC (by lia)]
   exact⟨v-1,by lia,(sQ hn).mpr (.inl ⟨by lia,by lia⟩)⟩
theorem yP:∀ {ns:List Nat} {st a b:Nat},(∀x∈ns,0<x)->FN st ns a b->a+st<=b
 |[],st,a,b,_,h=>h.elim
 |n::ns,st,a,b,hn,h=>by
  rcases h with ⟨_,rfl⟩|h
  .exact aO _
  .have:=yP (fun x hx=>hn x (b_ _ hx)) h;have h1:=vC st (hn n cg);lia
theorem Ah:(p7 m st n).Nodup:=by
 unfold p7;refine qi.mpr (mI.mpr ?_);exact(qi.mp (wg.sublist vU)).imp fun {a b} h e=>h (congrArg Prod.fst e)
theorem uS:∀ {ns:List Nat} {st:Nat},0<st->(∀x∈ns,2<=x)->(bx m st ns).Nodup
 |[],_,_,_=>gN
 |n::ns,st,h,hn=>by
  have K_:=hn n cg;have xr:∀x∈ns,2<=x:=fun x hx=>hn x (b_ _ hx);refine v8.mpr ⟨Ah,uS (lM h (by lia)) xr,fun x hx y hy e=>?_⟩;subst e;have h1:=(yO.mp hx).2.2;have h2:=yP (fun x hx=>by have:=xr x hx;lia) (mm.mp hy).2;have h3:=lB st K_;lia
theorem Ai(nd:ps.Nodup)(h:∀u∈ps,u.1<u.2):(kC ps).Nodup:=by
 refine(i7 (ps:=ps)).nodup_iff.mpr (v8.mpr ⟨nd,?_,fun x hx y hy e=>?_⟩)
 .refine qi.mpr (mI.mpr ((qi.mp nd).imp fun {a b} Jl e=>Jl ?_));exact gT (congrArg Prod.snd e) (congrArg Prod.fst e)
 .subst e;obtain⟨u,hu,rfl⟩:=a_.mp hy;have h1:=h _ hx;have h2:=h u hu;have h1:u.2<u.1:=h1;lia
theorem Aj{qs:List (Nat×Nat)}(h:qs.Nodup):(qs.map n5).Nodup:=by
 refine qi.mpr (mI.mpr ((qi.mp h).imp fun {a b} Jl e=>Jl ?_));exact gT (d9 (congrArg Prod.fst e)) (d9 (congrArg Prod.snd e))
theorem m9:∀ {a b:List (Nat×Nat)},kn h (a++b)=kn h a+kn h b
 |[],b=>by show kn h b=0+_;lia
 |q::a,b=>by
  have:=m9 (h:=h) (a:=a) (b:=b);show b1 _+(b1 _+kn h (a++b))=b1 _+(b1 _+kn h a)+kn h b;lia
theorem Hu:b1 (Nat.beq a b)=if a=b then 1 else 0:=by
 by_cases c:a=b
 .subst c;rw[am rfl,Nat.beq_refl];rfl
 .rw[ao c,show Nat.beq a b=false from mK.mpr fun z=>c (Nat.eq_of_beq_eq_true z)];rfl
theorem yQ:∀ {L:List Nat},L.Nodup->kn h (L.map fun x=>(x,x+st))<=(if h∈L then 1 else 0)+(if st<=h/\h-st∈L then 1 else 0)
 |[],_=>cR _
 |x::L,nd=>by
  obtain⟨n1,n2⟩:=d8.mp nd;have ih:=yQ (h:=h) (st:=st) n2;show b1 (Nat.beq x h)+(b1 (Nat.beq (x+st) h)+kn h (L.map fun x=>(x,x+st)))<=_;rw[Hu,Hu];have e1:(if h∈x::L then 1 else 0)=(if x=h then 1 else 0)+(if h∈L then 1 else 0):=by
   by_cases c:x=h
   .subst c;rw[am cg,am rfl,ao n1]
   .rw[ao c];by_cases d:h∈L
    .rw[am (b_ _ d),am d]
    .rw[ao d,ao (fun z=>(bu.mp z).elim (fun z=>c z.symm) d)]
  have e2:(if st<=h/\h-st∈x::L then 1 else 0)=(if x+st=h then 1 else 0)+(if st<=h/\h-st∈L then 1 else 0):=by
   by_cases c:x+st=h
   .have e:h-st=x:=by lia
    rw[am c,e,am ⟨by lia,cg⟩,ao (fun z=>n1 z.2)]
   .rw[ao c];by_cases d:st<=h/\h-st∈L
    .rw[am d,am ⟨d.1,b_ _ d.2⟩]
    .rw[ao d,ao];rintro⟨z1,z2⟩;rcases bu.mp z2 with z|z
     .lia
     .exact d ⟨z1,z⟩
  rw[e1,e2];lia
def wt:List Nat->Nat
 |[]=>0
 |n::ns=>(if n=2 then 1 else 2)+wt ns
theorem FO(hs:0<st):kn h (p7 m st n)<=if n=2 then 1 else 2:=by
 have c:=yQ (h:=h) (st:=st) (L:=(List.range m).filter fun h=>decide (h / st % n+1<n)) (wg.sublist vU);refine bq c ?_;by_cases e:n=2
 .rw[am e];by_cases c1:h∈(List.range m).filter fun h=>decide (h / st % n+1<n)
  .rw[am c1,ao]
   .lia
   .rintro⟨z1,z2⟩;have d1:h / st % n+1<n:=fc (eL.mp c1).2;have d2:(h-st) / st % n+1<n:=fc (eL.mp z2).2;have d3:h / st=(h-st) / st+1:=by
     have:=Nat.add_div_right (h-st) hs;rw[show h-st+st=h by lia] at this;exact this
    obtain⟨_,d4⟩:=kq d2;rw[<-d3] at d4;lia
  .rw[ao c1];split <;> lia
 .rw[ao e];split <;> split <;> lia
theorem C2:∀ {ns:List Nat} {st:Nat},0<st->(∀x∈ns,0<x)->kn h (bx m st ns)<=wt ns
 |[],_,_,_=>aO _
 |n::ns,st,hs,hn=>by
  show kn h (p7 m st n++bx m (st*n) ns)<=_+wt ns;rw[m9];have h1:=FO (m:=m) (n:=n) (h:=h) hs;have h2:=C2 (m:=m) (h:=h) (ns:=ns) (st:=st*n) (lM hs (hn n cg)) fun x hx=>hn x (b_ _ hx);lia
theorem C3:∀ {ns:List Nat},(∀x∈ns,2<=x)->3 ^ wt ns<=pr ns*pr ns
 |[],_=>aO _
 |n::ns,hn=>by
  have ih:=C3 (ns:=ns) fun x hx=>hn x (b_ _ hx);have h2:=hn n cg;show 3 ^ ((if n=2 then 1 else 2)+wt ns)<=n*pr ns*(n*pr ns);rw[Nat.pow_add,Nat.mul_mul_mul_comm];refine wz ?_ ih;by_cases c:n=2
  .rw[am c,c];decide
  .rw[ao c];have:3<=n:=by lia
   exact wz this this
theorem Nc(hn:∀x∈ns,2<=x)(hp:pr ns<=32):wt ns<=8:=by
 refine rh fun z=>?_;have h1:3 ^ 9<=3 ^ wt ns:=Nat.pow_le_pow_right (by decide) (by lia);have h2:=C3 hn;have h3:pr ns*pr ns<=32*32:=wz hp hp;have h4:(3:Nat) ^ 9=19683:=by decide
 lia
theorem C4{ns:List Nat}(hn:∀x∈ns,2<=x)(h0:ns≠[])(hp:pr ns<=32):km (pr ns) (kC ((hX ns).map n5)):=by
 have um:∀x∈ns,0<x:=fun x hx=>by have:=hn x hx;lia
 have q:∀q∈hX ns,q.1<q.2/\q.2<pr ns:=fun q hq=>by
  obtain⟨a,b⟩:=mm.mp hq;exact Nb um b a
 have n1:2<=pr ns:=by
  cases ns with
  |nil=>exact absurd rfl h0
  |cons n ns=>
   have h2:=hn n cg;have:∀ {l:List Nat},(∀x∈l,2<=x)->1<=pr l:=fun {l}=>by
    induction l with
    |nil=>intro _;exact aO _
    |cons x l ih=>intro hl;exact lM (by have:=hl x cg;lia) (ih fun y hy=>hl y (b_ _ hy))
   have h3:=this (l:=ns) fun x hx=>hn x (b_ _ hx);show 2<=n*pr ns;exact bq h2 (vC n h3)
 have mem:∀t∈kC ((hX ns).map n5),∃q∈hX ns,t=n5 q\/t=yM (n5 q):=fun t ht=>by
  rcases eK.mp ht with z|z
  .obtain⟨q,hq,e⟩:=a_.mp z;exact⟨q,hq,.inl e.symm⟩
  .obtain⟨q,hq,e⟩:=a_.mp z;exact⟨q,hq,.inr (by rw[e])⟩
 have rg:∀t∈kC ((hX ns).map n5),((0<=t.1/\t.1<pr ns)/\(0<=t.2/\t.2<pr ns))/\t.1≠t.2:=fun t ht=>by
  obtain⟨p,hq,e⟩:=mem t ht;obtain⟨a,b⟩:=q p hq;rcases e with rfl|rfl
  .exact⟨⟨⟨by show (0:Int)<=(p.1:Int);lia,by show (p.1:Int)<(pr ns:Int);lia⟩,by show (0:Int)<=(p.2:Int);lia,by show (p.2:Int)<(pr ns:Int);lia⟩,by show ((p.1:Nat):Int)≠(p.2:Nat);lia⟩
  .exact⟨⟨⟨by show (0:Int)<=(p.2:Int);lia,by show (p.2:Int)<(pr ns:Int);lia⟩,by show (0:Int)<=(p.1:Int);lia,by show (p.1:Int)<(pr ns:Int);lia⟩,by show ((p.2:Nat):Int)≠(p.1:Nat);lia⟩
 have nd:(kC ((hX ns).map n5)).Nodup:=Ai (Aj (uS (by decide) hn)) fun u hu=>by
  obtain⟨p,hq,rfl⟩:=a_.mp hu;have:=(q p hq).1;show (p.1:Int)<(p.2:Int);lia
 refine⟨n1,hp,nd,fun t ht=>(rg t ht).1,fun t ht=>(rg t ht).2,fun h=>?_,fun h=>?_,fun a b ha hb=>?_⟩
 .rw[<-(FM (ps:=(hX ns).map n5)).filter (fun t=>decide (t.1=h)) |>.length_eq,List.filter_map,bp];rfl
 .by_cases c:0<=h/\h<pr ns
  .have:=C2 (m:=pr ns) (h:=h.toNat) (ns:=ns) (st:=1) (by decide) um;have e:=yN (h:=h.toNat) (qs:=hX ns);rw[Int.toNat_of_nonneg c.1] at e;rw[e];exact bq this (Nc hn hp)
  .have e:(kC ((hX ns).map n5)).filter (fun t=>decide (t.1=h))=[]:=vI.mpr fun t ht e=>c ((show t.1=h from fc e) ▸ (rg t ht).1.1);rw[e];exact cR _
 .have Fa:∀v,v<pr ns->(∃k,hU (kC ((hX ns).map n5)) k 0 v)/\∃k,hU (kC ((hX ns).map n5)) k v 0:=by
   intro v;induction v using Nat.strongRecOn with
   |ind v ih=>
    intro hv;rcases vX v with e|e
    .subst e;exact⟨⟨0,rfl⟩,0,rfl⟩
    .obtain⟨u,hu,uu⟩:=C1 um e hv;obtain⟨⟨k,w⟩,l,w'⟩:=ih u hu (by lia);have t:T (kC ((hX ns).map n5)) u v:=eK.mpr (.inl (a_.mpr ⟨(u,v),mm.mpr ⟨by show u<pr ns;lia,uu⟩,rfl⟩));have t':T (kC ((hX ns).map n5)) v u:=FL t;exact⟨⟨k+1,u,w,t⟩,l+1,hU.cons t' w'⟩
  obtain⟨_,k,w⟩:=Fa a ha;obtain⟨⟨l,w'⟩,_⟩:=Fa b hb;exact⟨_,w.trans w'⟩
end iZ
namespace pi
open PySem L2
def fk(i:Nat):Stmt:=PySem.Challenge.pw_neverwait_k44_berthed_judged.main.body.getD i (.Pass ⟨0,0,0,0⟩)
abbrev xF:Stmt:=fk 16
abbrev sR:Stmt:=fk 17
abbrev xG:Stmt:=fk 18
abbrev Jo:Stmt:=fk 20
structure Bl(mg:Str->Option Value):Prop where
 pN:mg "isinstance"=none
 int:mg "int"=none
 bool:mg "bool"=none
 tup:mg "tuple"=none
 lst:mg "list"=none
 str:mg "str"=none
 set:mg "set"=none
 len:mg "len"=none
 range:mg "range"=none
 sorted:mg "sorted"=none
 any:mg "any"=none
 max:mg "max"=none
 min:mg "min"=none
 RL:mg "ValueError"=none
 all:mg "all"=none
def C5(K:PySem.W.Frag)(H:Hp)(x:V):Prop:=∃t,IQ K H x t/\(PySem.W.kitOne K t (.type "int")=some false\/(PySem.W.kitOne K t (.type "int")=some true/\PySem.W.kitOne K t (.type "bool")=some true))
theorem i8:PySem.W.kitOne K (.type "int") (.type "int")=some true:=by kernel_rfl
theorem hZ:PySem.W.kitOne K (.type "int") (.type "bool")=some false:=by kernel_rfl
inductive Wh (K:PySem.W.Frag) (H:Hp):V->Option Int->Prop where
 |int (i:Int):Wh K H (.int i) (some i)
 |no {x:V} (h:C5 K H x):Wh K H x none
def n6(K:PySem.W.Frag):Sp:=fun vs H Q _=>∃x o,vs=[x]/\Wh K H x o/\Q (.bl o.isSome) H
section
variable {P:Program} {w:World} {K:PySem.W.Frag} {mg:Str->Option Value} {base:Heap}
theorem FP:aA ["thing"] ["thing"] (ak xF):=⟨rfl,rfl,rfl,by decide +kernel,rfl,by decide +kernel,by decide +kernel⟩
theorem C6(F:dH K "is_whole" "is_whole" xF f fd)(B:Bl mg):a7 P w K mg base a9 1 f fd ["thing"] (n6 K):=by
 refine F.ok FP (fun vs H Q E h=>?_) (fun ce A outer s H vs Q E hr h=>?_)
 .obtain⟨x,o,rfl,_⟩:=h;rfl
 .obtain⟨x,o,rfl,W,k⟩:=h;refine⟨_,aj (aE (j8 (au dz (by rfl) B.pN di (aa (pv 0) (aa (eF (v:=.ty "int") rfl B.int vM rfl) af)))
   (lT (Il (au dz (by rfl) B.pN di (aa (pv 0) (aa (eF (v:=.ty "bool") rfl B.bool vH rfl) af))))))),?_⟩
  cases W with
  |int i=>
   refine⟨_,rfl,_,_,_,.type "int",true,rfl,⟨rfl,i8⟩,.of (.int _),true,rfl,?_⟩;exact⟨_,rfl,_,_,_,.type "int",false,rfl,⟨rfl,hZ⟩,.of (.int _),false,rfl,k⟩
  |no h=>
   obtain⟨t,ty,h|⟨h1,h2⟩⟩:=h
   .exact⟨_,rfl,_,_,_,t,false,rfl,⟨rfl,h⟩,ty,false,rfl,k⟩
   .refine⟨_,rfl,_,_,_,t,true,rfl,⟨rfl,h1⟩,ty,true,rfl,?_⟩;exact⟨_,rfl,_,_,_,t,true,rfl,⟨rfl,h2⟩,ty,true,rfl,k⟩
def aV(o:Option Int)(lo hi:Int):Bool:=match o with
 |some i=>decide (lo<=i)&&decide (i<=hi)
 |none=>false
def i9(K:PySem.W.Frag):Sp:=fun vs H Q _=>∃x o lo hi,vs=[x,.int lo,.int hi]/\Wh K H x o/\Q (.bl (aV o lo hi)) H
theorem C7:aA ["thing","least","most"] ["thing","least","most"] (ak sR):=⟨rfl,rfl,rfl,by decide +kernel,rfl,by decide +kernel,by decide +kernel⟩
theorem Ak(F:dH K "is_whole_within" "is_whole_within" sR f fd)(W:bQ P w K mg base a9 1 "is_whole" ["thing"] (n6 K)):a7 P w K mg base a9 2 f fd ["thing","least","most"] (i9 K):=by
 refine F.ok C7 (fun vs H Q E h=>?_) (fun ce A outer s H vs Q E hr h=>?_)
 .obtain⟨x,o,lo,hi,rfl,_⟩:=h;rfl
 .obtain⟨x,o,lo,hi,rfl,wh,k⟩:=h;refine⟨_,aj (aE (j8 (av W hr aG (aa (pv 0) af)) (lT (BL BJ BJ (pv 1) (pv 0) (pv 2))))),?_⟩;refine⟨_,rfl,x,o,rfl,wh,?_⟩;cases wh with
  |no h=>exact⟨false,rfl,k⟩
  |int i=>
   refine⟨true,rfl,_,rfl,_,rfl,_,_,rfl,rfl,_,rfl,?_⟩;show if decide (lo<=i)=true then _ else _
   have k':Q (.bl (decide (lo<=i)&&decide (i<=hi))) H:=k;by_cases h:lo<=i
   .rw[bH h] at k' |-;exact⟨_,rfl,_,_,rfl,rfl,k'⟩
   .rw[dE h] at k' |-;exact k'
def lj(K:PySem.W.Frag):Sp:=fun vs H Q _=>∃x o n,vs=[.int n,x]/\Wh K H x o/\Q (.bl (aV o 0 (n-1))) H
theorem FQ:aA ["many","thing"] ["many","thing"] (ak xG):=⟨rfl,rfl,rfl,by decide +kernel,rfl,by decide +kernel,by decide +kernel⟩
theorem C8(F:dH K "is_house" "is_house" xG f fd)(W:bQ P w K mg base a9 2 "is_whole_within" ["thing","least","most"] (i9 K)):a7 P w K mg base a9 3 f fd ["many","thing"] (lj K):=by
 refine F.ok FQ (fun vs H Q E h=>?_) (fun ce A outer s H vs Q E hr h=>?_)
 .obtain⟨x,o,n,rfl,_⟩:=h;rfl
 .obtain⟨x,o,n,rfl,wh,k⟩:=h;refine⟨_,aj (aE (av W hr aG (aa (pv 1) (aa ap (aa (aP j9 (pv 0) ap) af))))),?_⟩;exact⟨_,rfl,_,rfl,_,_,rfl,rfl,x,o,0,n-1,rfl,wh,k⟩
inductive Rw (K:PySem.W.Frag) (H:Hp):V->Option (List V)->Prop where
 |tup {p:Addr} {xs:List V} (h:H p=some (.tup xs)):Rw K H (.ref p) (some xs)
 |no {x:V} {t:Value} (ty:IQ K H x t) (h:PySem.W.kitOne K t (.type "tuple")=some false):Rw K H x none
def C9(o:Option (List V))(m:Int):Bool:=match o with
 |some xs=>decide ((xs.length:Int)=m)
 |none=>false
theorem yR:PySem.W.kitOne K (.type "tuple") (.type "tuple")=some true:=by kernel_rfl
def uT(K:PySem.W.Frag):Sp:=fun vs H Q _=>∃x o m,vs=[x,.int m]/\Rw K H x o/\Q (.bl (C9 o m)) H
theorem Nd:aA ["thing","length"] ["thing","length"] (ak Jo):=⟨rfl,rfl,rfl,by decide +kernel,rfl,by decide +kernel,by decide +kernel⟩
theorem Jp(F:dH K "is_row" "is_row" Jo f fd)(B:Bl mg):a7 P w K mg base a9 1 f fd ["thing","length"] (uT K):=by
 refine F.ok Nd (fun vs H Q E h=>?_) (fun ce A outer s H vs Q E hr h=>?_)
 .obtain⟨x,o,m,rfl,_⟩:=h;rfl
 .obtain⟨x,o,m,rfl,W,k⟩:=h;refine⟨_,aj (aE (j8 (au dz (by rfl) B.pN di (aa (pv 0) (aa (eF (v:=.ty "tuple") rfl B.tup mD rfl) af)))
   (lT (ft eN (au aD (by rfl) B.len cG (aa (pv 0) af)) (pv 1) (aQ _))))),?_⟩
  cases W with
  |@tup p xs h=>
   refine⟨_,rfl,_,_,_,.type "tuple",true,rfl,⟨rfl,yR⟩,.of (.tup h),true,rfl,?_⟩;refine⟨_,rfl,_,_,rfl,.inr (bD.of h),_,rfl,rfl,?_⟩;have e:decide (V.int ((xs.length:Nat):Int)=V.int m)=decide (((xs.length:Nat):Int)=m):=by simp
   rw[e];exact k
  |no ty h=>exact⟨_,rfl,_,_,_,_,false,rfl,⟨rfl,h⟩,ty,false,rfl,k⟩
end
theorem cK(s:az H H')(hD:H D=none):az H (upd H' D o):=fun b u e=>by rw[al (aq e hD)];exact s b u e
abbrev IV(ns:List Int):List V:=ns.map V.int
abbrev NV(ns:List Nat):List V:=ns.map fun (x:Nat)=>V.int (x:Int)
theorem fm(G:St->Hp->Prop)(hr:∀σ H,G σ H->u D σ H)(ht:∀N:St->Hp->Prop,(∀σ H,G σ H->N σ H)->t { D with nx:=N } σ H):LJ t u D σ H:=ht _ hr
abbrev Zs:=List (Addr×(Int×Int))
abbrev Hv(u:Int×Int):HO:=.tup [.int u.1,.int u.2]
def zr(zs:Zs):List V:=zs.map fun z=>V.ref z.1
def zp(zs:Zs):List (Int×Int):=zs.map (·.2)
def PO(H:Hp)(zs:Zs):Prop:=∀z∈zs,H z.1=some (Hv z.2)
theorem mn:zr (a++b)=zr a++zr b:=dF
theorem qP:zp (a++b)=zp a++zp b:=dF
theorem i_:(zr a).length=a.length:=bp _
theorem cF:(zp a).length=a.length:=bp _
theorem n8:zr a=(a.map (·.1)).map V.ref:=by unfold zr;rw[ij];rfl
theorem sS{zs:Zs}{i:Nat}{x:V}(h:(zr zs)[i]?=some x):∃z,zs[i]?=some z/\x=.ref z.1:=by
 unfold zr at h;rw[bX] at h;cases e:zs[i]? with
 |none=>rw[e] at h;cases h
 |some z=>rw[e] at h;exact⟨z,rfl,(bS h).symm⟩
theorem PO.nil:PO H []:=fun z hz=>(nomatch hz)
theorem PO.same(h:PO H zs)(s:az H H'):PO H' zs:=fun z hz=>s _ _ (h z hz)
theorem PO.putL(h:PO H zs)(e:H D=some (.lst xs)):PO (upd H D o) zs:=fun z hz=>by
 have:=h z hz;rw[al (by rintro rfl;rw[e] at this;cases this)];exact this
theorem PO.putN(h:PO H zs)(e:H D=none):PO (upd H D o) zs:=h.same (ai e)
theorem PO.append(h:PO H a)(h':PO H b):PO H (a++b):=fun z hz=>(cP.mp hz).elim (h z) (h' z)
theorem PO.one(h:H p=some (Hv u)):PO H [(p,u)]:=fun z hz=>by rw[dD.mp hz];exact h
theorem uU{zs:Zs}{i:Nat}(h:i<zs.length):(zs.map (·.1)).getD i 0=zs[i].1:=by
 rw[cf,bX,bZ h];rfl
theorem yS(h:i<zs.length):(zp zs).getD i (0,0)=zs[i].2:=by
 unfold zp;rw[cf,bX,bZ h];rfl
theorem Jq{K:PySem.W.Frag}{neg:Bool}{H:Hp}{p l:Addr}{u:Int×Int}{zs:Zs}{Q:VK}(hp:H p=some (Hv u))(hl:H l=some (.lst (zr zs)))(ho:PO H zs)(q:Q (.bl (if neg then !decide (u∈zp zs) else decide (u∈zp zs))) H):Jm K neg (.ref p) (.ref l) H Q:=
 ⟨p,l,u,zs.map (·.1),zp zs,rfl,rfl,bD.of hp,bz.of (by rw[<-n8];exact hl),by rw[bp,cF],fun i hi=>by
  rw[cF] at hi;rw[uU hi,yS hi];exact bD.of (ho _ (d7 hi)),q⟩
theorem Al{H:Hp}{zs:Zs}(ho:PO H zs){as:List Addr}(h:as.Perm (zs.map (·.1))):∃qQ:Zs,qQ.Perm zs/\as=qQ.map (·.1):=by
 classical
 let f:Addr->Int×Int:=fun a=>match H a with
  |some (.tup [.int x,.int y])=>(x,y)
  |_=>(0,0)
 have e:(zs.map (·.1)).map (fun a=>(a,f a))=zs:=by
  rw[ij];conv=>rhs;rw[<-iG zs]
  refine mG fun z hz=>?_;have:=ho z hz;show (z.1,f z.1)=z;have e2:f z.1=z.2:=by
   show (match H z.1 with|some (.tup [.int x,.int y])=>(x,y)|_=>(0,0))=z.2;rw[this]
  rw[e2]
 refine⟨as.map fun a=>(a,f a),?_,?_⟩
 .have:=h.map (fun a=>(a,f a));rw[e] at this;exact this
 .rw[ij];exact(iG as).symm
abbrev Wb(us:List (Int×Int)):Prop:=us=us
theorem FR{K:PySem.W.Frag}{H:Hp}{l:Addr}{zs:Zs}{Q:VK}(hl:H l=some (.lst (zr zs)))(ho:PO H zs)(hz:zs.length<=4096)(hb:∀u∈zp zs,0<=u.2/\u.2<64)(q:∀ (D:Addr) (qQ:Zs),H D=none->qQ.Perm zs->Wb (zp qQ)->Q (.ref D) (upd H D (.lst (zr qQ)))):CV K [.ref l] H Q:=by
 refine⟨l,zs.map (·.1),rfl,bz.of (by rw[<-n8];exact hl),fun a ha=>?_,by rw[bp];exact hz,fun D vj hD hp=>?_⟩
 .obtain⟨z,hz,rfl⟩:=a_.mp ha;exact⟨_,_,bD.of (ho z hz)⟩
 .obtain⟨qQ,h1,rfl⟩:=Al ho hp;rw[<-n8];exact q D qQ hD h1 rfl
theorem C_{K:PySem.W.Frag}{a D:Addr}{EB:Zs}{g:TG}{tt:TT}{te:TE}{dt:Hp->Prop}{σB:St}{H0:Hp}(F:Int×Int->Int×Int)(dj:St->Prop)(ha:H0 a=some (.lst (zr EB)))(Yx:PO H0 EB)(hD:H0 D=none)(hn:EB.length<=100000)(h0:dj σB)(hs:∀z σ H (R:V->St->Hp->Prop) (Kf:St->Hp->Prop),z∈EB->dj σ->H z.1=some (Hv z.2)->(∀σ2 p,dj σ2->H p=none->R (.ref p) σ2 (upd H p (Hv (F z.2))))->g (.ref z.1) σ H fun σ2 H2=>tt σ2 H2 fun b H3=>if b=true then te σ2 H3 fun v H4=>R v σ2 H4 else Kf σ2 H3)(hd:∀zs H,az H0 H->H D=some (.lst (zr zs))->PO H zs->zp zs=(zp EB).map F->(∀z∈zs,H0 z.1=none)->dt H):jE (EQ K a) g tt te D dt σB (upd H0 D (.lst [])):=by
 refine gz (xs:=zr EB) (fun i ys σ H=>dj σ/\az H0 H/\H D=some (.lst ys)/\∃zs:Zs,ys=zr zs/\PO H zs/\zp zs=((zp EB).take i).map F/\∀z∈zs,H0 z.1=none) ⟨h0,ai hD,ag,[],rfl,PO.nil,rfl,fun z hz=>nomatch hz⟩ (fun i ys σ H _ z=>bz.of (z.2.1 _ _ ha)) ?_ ?_
 .rintro i x ys σ H Kt Kf hx ⟨sh,sm,p8,zs,rfl,po,ep,fr⟩ kt kf;obtain⟨z,hz,rfl⟩:=sS hx;have hi:i<EB.length:=(cV.mp hz).1;have Hw:z∈EB:=cY hz;have hl:zs.length=i:=by rw[<-cF,ep,bp,kI,cF];lia
  refine hs z σ H Kt Kf Hw sh (sm _ _ (Yx z Hw)) (fun σ2 p Am hp=>?_)
  .have nD:D≠p:=aq p8 hp;refine kt _ _ _ (by rw[al nD];exact p8) (by rw[i_,hl];exact cM hi (bq hn (by decide))) ⟨Am,cK (sm.trans (ai hp)) hD,ag,zs++[(p,F z.2)],?_,?_,?_,?_⟩
   .rw[mn];rfl
   .refine PO.putL (xs:=zr zs) ?_ (by rw[al nD];exact p8);exact(po.putN hp).append (PO.one ag)
   .have e2:(zp EB)[i]?=some z.2:=by unfold zp;rw[bX,hz];rfl
    rw[qP,ep,ie,e2,Option.toList_some,dF];rfl
   .intro z hz;rcases cP.mp hz with z'|z'
    .exact fr z z'
    .rw[dD.mp z'];exact sm.free hp
 .rintro ys σ H ⟨_,sm,p8,zs,rfl,po,ep,fr⟩;rw[i_,<-cF,jA] at ep;exact hd zs H sm p8 po ep fr
open iZ
abbrev yT:Stmt:=fu (fk 39) 0
abbrev Da:Stmt:=fu (fk 39) 1
abbrev Jr:Stmt:=fu (fk 39) 3
abbrev xH:Stmt:=fu (fk 39) 8
structure Er(K:PySem.W.Frag)(mg:Str->Option Value)(x:Str)(C:Addr):Prop where
 at_:mg x=some (.ref C)
 ok:iS K C
theorem Yy:¬ (("house_count":Str)="tie_list"):=by decide +kernel
theorem Yz:¬ (("house_count":Str)="out_lists"):=by decide +kernel
theorem YA:¬ (("house_count":Str)="distances"):=by decide +kernel
theorem YB:¬ (("out_lists":Str)="distances"):=by decide +kernel
def p_(n:Int)(tl ol ds:Addr):List (Str×V):=cC "distances" (.ref ds) (cC "out_lists" (.ref ol) (cC "tie_list" (.ref tl) (cC "house_count" (.int n) [])))
theorem yU(n:Int)(tl ol ds:Addr):(p_ n tl ol ds).lookup ("house_count":Str)=some (.int n):=by
 unfold p_;rw[aT,ao YA,aT,ao Yz,aT,ao Yy,aT,am rfl]
theorem sU(n:Int)(tl ol ds:Addr){m:Str}(h1:¬ m="house_count")(h2:¬ m="tie_list")(h3:¬ m="out_lists")(h4:¬ m="distances"):(p_ n tl ol ds).lookup m=none:=by
 unfold p_;rw[aT,ao h4,aT,ao h3,aT,ao h2,aT,ao h1];all_goals rfl
theorem FS(n:Int)(tl ol ds:Addr):(p_ n tl ol ds).lookup ("out_lists":Str)=some (.ref ol):=by
 unfold p_;rw[aT,ao YB,aT,am rfl]
def gf(H:Hp)(L:Addr->Prop)(l:Addr)(n:Nat)(r:Nat->List Nat):Prop:=∃bs:List Addr,H l=some (.lst (bs.map V.ref))/\(∀b∈bs,L b)/\Holds H bs n (fun h=>.lst (NV (r h)))
theorem gf.keep(R:gf H L l n r)(hl:L l)(k:∀b o,L b->H b=some o->H' b=some o):gf H' L l n r:=
 let ⟨bs,a,b,c⟩:=R
 ⟨bs,k _ _ hl a,b,c.mono fun j hj e=>k _ _ (b _ (by rw[cf,bZ (by rw[c.1];exact hj)];exact d7 _)) e⟩
theorem gf.row(R:gf H L l n r)(hh:h<n):∃ (bs:List Addr) (b:Addr),H l=some (.lst (bs.map V.ref))/\(bs.map V.ref)[h]?=some (V.ref b)/\H b=some (.lst (NV (r h)))/\L b:=by
 obtain⟨bs,a,b,c⟩:=R;have hl:h<bs.length:=by rw[c.1];exact hh
 refine⟨bs,bs[h],a,by rw[bX,bZ hl];rfl,?_,b _ (d7 _)⟩;have:=c.2 h hh;rw[cf,bZ hl] at this;exact this
def FT(H:Hp)(L:Addr->Prop)(tl:Addr)(ts:Ts):Prop:=L tl/\∃zs:Zs,H tl=some (.lst (zr zs))/\PO H zs/\(∀z∈zs,L z.1)/\(zp zs).Perm ts/\Wb (zp zs)
theorem FT.keep(h:FT H L tl ts)(k:∀b o,L b->H b=some o->H' b=some o):FT H' L tl ts:=
 let ⟨a,zs,b,c,d,e⟩:=h;⟨a,zs,k _ _ a b,fun z hz=>k _ _ (d z hz) (c z hz),d,e⟩
structure fq(C:Addr)(H:Hp)(L:Addr->Prop)(p:Addr)(n:Nat)(ts:Ts):Prop where
 qa:km n ts
 ob:∃dx tl ol ds,H p=some (.ins C dx (p_ n tl ol ds))/\L ol/\L ds/\gf H L ol n (dX n ts)/\gf H L ds n (fun h=>(List.range n).map (Ht ts h))/\FT H L tl ts
theorem fq.keep(N:fq C H L p n ts)(k:∀b o,L b->H b=some o->H' b=some o)(kp:∀o,H p=some o->H' p=some o):fq C H' L p n ts:=
 let ⟨dx,tl,ol,ds,a,l1,l2,b,c,d⟩:=N.ob
 ⟨N.qa,dx,tl,ol,ds,kp _ a,l1,l2,b.keep l1 k,c.keep l2 k,d.keep k⟩
theorem fq.same(N:fq C H L p n ts)(s:az H H'):fq C H' L p n ts:=N.keep (fun b o _ e=>s b o e) (fun o e=>s _ o e)
structure NT(K:PySem.W.Frag)(mg:Str->Option Value)(C:Addr):Prop where
 cl:AL K C
 nH:eX K C "house_count"
 nT:eX K C "tie_list"
 nO:eX K C "out_lists"
 nD:eX K C "distances"
 RM:mg "Net"=some (.ref C)
structure im(P:Program)(w:World)(K:PySem.W.Frag)(mg:Str->Option Value)(base:Heap)(CX:nV)(k:Nat)(C:Addr)(x:Str)(ps:List Str)(sp:Sp):Prop where
 ex:∃f fd,EW K C x f/\eO K fd ps []/\a7 P w K mg base CX k f fd ps sp
section
variable {P:Program} {w:World} {K:PySem.W.Frag} {mg:Str->Option Value} {base:Heap}
theorem FU:aA ["self","thing"] ["self","thing"] (ak xH):=⟨rfl,rfl,rfl,by decide +kernel,rfl,by decide +kernel,by decide +kernel⟩
def n9(K:PySem.W.Frag)(C CE:Addr):Sp:=fun vs H Q E=>∃ (L:Addr->Prop) (p:Addr) (n:Nat) (ts:Ts) (x:V) (o:Option Int),vs=[.ref p,x]/\fq C H L p n ts/\Wh K H x o/\(aV o 0 ((n:Int)-1)=false->E (.ref CE) none H)/\(aV o 0 ((n:Int)-1)=true->Q .bi H)
theorem Db{f C CE:Addr}{fd:FuncData}(F:dH K "check_house" "Net.check_house" xH f fd)(T:NT K mg C)(e:Er K mg "NoHouse" CE)(HH:bQ P w K mg base a9 3 "is_house" ["many","thing"] (lj K)):
  a7 P w K mg base (d0 P w) 4 f fd ["self","thing"] (n9 K C CE):=by
 refine F.Ez FU (fun vs H Q E h=>?_) (fun ce A outer s H vs Q E hr h=>?_)
 .obtain⟨L,p,n,ts,x,o,rfl,_⟩:=h;rfl
 .obtain⟨L,p,n,ts,x,o,rfl,N,wh,k1,k2⟩:=h;obtain⟨dx,tl,ol,ds,h1,_⟩:=N.ob;refine⟨_,aj (a8 (cq (bW (av HH hr aG (aa (gZ (pv 0) rfl) (aa (pv 1) af))))) (aj (gy (q:=fun H1=>E (.ref CE) none H1) rfl e.ok rfl e.at_ (aa j6 af) (fun _ _ _ _ _ _ _ I m q=>gw I m q))) aI),?_⟩;refine⟨_,rfl,p,C,dx,_,_,rfl,h1,T.cl,T.nH,yU _ _ _ _,_,rfl,x,o,n,rfl,wh,_,rfl,?_⟩;cases hw:aV o 0 ((n:Int)-1) with
  |false=>exact fK ⟨by show 1<=sizeLine;decide,k1 hw⟩
  |true=>exact dP (k2 hw)
theorem Nf(n:Int)(tl ol ds:Addr):(p_ n tl ol ds).lookup ("check_house":Str)=none:=sU n tl ol ds (by decide +kernel) (by decide +kernel) (by decide +kernel) (by decide +kernel)
theorem bF:(NV xs).length=xs.length:=bp _
theorem eC{o:Option Int}{n:Nat}(h:aV o 0 ((n:Int)-1)=true):∃i:Nat,i<n/\o=some (i:Int):=by
 cases o with
 |none=>cases h
 |some i=>
  unfold aV at h;simp at h;exact⟨i.toNat,by lia,by congr 1;lia⟩
theorem fA{i n:Nat}(h:i<n):aV (some (i:Int)) 0 ((n:Int)-1)=true:=by unfold aV;simp;lia
def yV(K:PySem.W.Frag)(C CE:Addr)(YC:Hp->Nat->Ts->Nat->VK->Prop):Sp:=fun vs H Q E=>∃ (L:Addr->Prop) (p:Addr) (n:Nat) (ts:Ts) (x:V) (o:Option Int),vs=[.ref p,x]/\fq C H L p n ts/\Wh K H x o/\(aV o 0 ((n:Int)-1)=false->E (.ref CE) none H)/\∀i:Nat,i<n->o=some (i:Int)->YC H n ts i Q
theorem Ng:aA ["self","house"] ["self","house"] (ak Jr):=⟨rfl,rfl,rfl,by decide +kernel,rfl,by decide +kernel,by decide +kernel⟩
def FV:Hp->Nat->Ts->Nat->VK->Prop:=fun H n ts i Q=>∀r H',az H H'->H r=none->H' r=some (.lst (NV (dX n ts i)))->Q (.ref r) H'
theorem mq{H:Hp}{x:V}{i:Int}(h:Wh K H x (some i)):x=.int i:=by cases h;rfl
theorem Js{f C CE:Addr}{fd:FuncData}(F:dH K "out" "Net.out" Jr f fd)(T:NT K mg C)(B:Bl mg)(M:im P w K mg base (d0 P w) 4 C "check_house" ["self","thing"] (n9 K C CE)):
  a7 P w K mg base (d0 P w) 5 f fd ["self","house"] (yV K C CE FV):=by
 obtain⟨fM,P1,mM,bM,GM⟩:=M.ex;refine F.Ez Ng (fun vs H Q E h=>?_) (fun ce A outer s H vs Q E hr h=>?_)
 .obtain⟨L,p,n,ts,x,o,rfl,_⟩:=h;rfl
 .obtain⟨L,p,n,ts,x,o,rfl,N,wh,k1,k2⟩:=h;obtain⟨dx,tl,ol,ds,h1,_,_,R,_⟩:=N.ob;refine⟨_,ah (bL (dO (pv 0) T.cl mM GM hr bM .nil (o0 (E':=E) fun _ _ _ z=>z) (aa (pv 1) af)))
   (aj (aE (cJ sg (by rfl) B.lst rj (aa (be bC (gZ (pv 0) rfl) (pv 1) (fun _ _=>rfl)) af)))),?_⟩
  refine⟨_,rfl,p,dx,_,rfl,h1,Nf _ _ _ _,_,rfl,L,p,n,ts,x,o,rfl,N,wh,k1,fun hw=>?_⟩;obtain⟨i,hi,rfl⟩:=eC hw;obtain rfl:=mq wh;obtain⟨bs,b,r1,r2,r3,_⟩:=R.row hi;exact⟨_,rfl,p,C,dx,_,_,rfl,h1,T.cl,T.nO,FS _ _ _ _,_,rfl,ol,_,_,_,rfl,rfl,bz.of r1,aJ r2,b,_,rfl,.inl (bz.of r3),fun l hl=>k2 i hi rfl l _ (ai hl) hl ag⟩
end
open PySem L2 iZ
abbrev xI:Stmt:=fk 40
abbrev Jt:Stmt:=fk 41
abbrev Ju:Stmt:=fk 42
section
variable {P:Program} {w:World} {K:PySem.W.Frag} {mg:Str->Option Value} {base:Heap}
abbrev Jv:Stmt:=fk 19
theorem Nh:aA ["many","one","other"] ["many","one","other"] (ak Jv):=⟨rfl,rfl,rfl,by decide +kernel,rfl,by decide +kernel,by decide +kernel⟩
def Dd:Sp:=fun vs H Q _=>∃ (n a b:Int),vs=[.int n,.int a,.int b]/\0<=a/\a<n/\0<=b/\b<n/\a≠b/\Q (.bl true) H
theorem Jw(F:dH K "are_unlike_houses" "are_unlike_houses" Jv f fd)(HH:bQ P w K mg base a9 3 "is_house" ["many","thing"] (lj K)):
  a7 P w K mg base a9 4 f fd ["many","one","other"] Dd:=by
 refine F.ok Nh (fun vs H Q E h=>?_) (fun ce A outer s H vs Q E hr h=>?_)
 .obtain⟨n,a,b,rfl,_⟩:=h;rfl
 .obtain⟨n,a,b,rfl,a1,a2,b1,b2,ka,k⟩:=h;refine⟨_,aj (aE (j8 (av HH hr aG (aa (pv 0) (aa (pv 1) af))) (j8 (av HH hr aG (aa (pv 0) (aa (pv 2) af))) (lT (ft oW (pv 1) (pv 2) (aQ _)))))),?_⟩;refine⟨_,rfl,_,rfl,_,_,n,rfl,.int a,_,rfl,?_⟩;rw[am (show aV (some a) 0 (n-1)=true by unfold aV;simp;lia)];refine⟨_,rfl,_,rfl,_,_,n,rfl,.int b,_,rfl,?_⟩;rw[am (show aV (some b) 0 (n-1)=true by unfold aV;simp;lia)];refine⟨_,rfl,_,rfl,rfl,?_⟩;have e:(!decide (V.int a=V.int b))=true:=by simp[ka]
  rw[e];exact k
theorem Ni:aA ["many","thing"] ["many","thing"] (ak Jt):=⟨rfl,rfl,rfl,by decide +kernel,rfl,by decide +kernel,by decide +kernel⟩
def De:Sp:=fun vs H Q _=>∃ (n:Int) (p:Addr) (a b:Int),vs=[.int n,.ref p]/\H p=some (.tup [.int a,.int b])/\0<=a/\a<n/\0<=b/\b<n/\a≠b/\Q (.bl true) H
theorem Jx(F:dH K "is_tie" "is_tie" Jt f fd)(R:bQ P w K mg base a9 1 "is_row" ["thing","length"] (uT K))(U:bQ P w K mg base a9 4 "are_unlike_houses" ["many","one","other"] Dd):
  a7 P w K mg base a9 5 f fd ["many","thing"] De:=by
 refine F.ok Ni (fun vs H Q E h=>?_) (fun ce A outer s H vs Q E hr h=>?_)
 .obtain⟨n,p,a,b,rfl,_⟩:=h;rfl
 .obtain⟨n,p,a,b,rfl,hp,a1,a2,b1,b2,ka,k⟩:=h;refine⟨_,aj (aE (j8 (av R (hr.mono (by decide)) aG (aa (pv 1) (aa ap af)))
   (lT (av U hr aG (aa (pv 0) (aa (be bN (pv 1) ap (fun _ _=>rfl)) (aa (be bN (pv 1) ap (fun _ _=>rfl)) af))))))),?_⟩
  refine⟨_,rfl,_,_,_,rfl,.tup hp,true,rfl,?_⟩;exact⟨_,rfl,_,rfl,p,_,_,_,rfl,rfl,bD.of hp,aJ (j:=0) rfl,_,rfl,p,_,_,_,rfl,rfl,bD.of hp,aJ (j:=1) rfl,n,a,b,rfl,a1,a2,b1,b2,ka,k⟩
theorem yW:aA ["many","ties","tie"] ["many","ties"] (ak xI):=⟨rfl,rfl,rfl,by decide +kernel,rfl,by decide +kernel,by decide +kernel⟩
theorem uV:PySem.W.kitOne K (.type "list") (.type "list")=some true:=by kernel_rfl
structure eD(H:Hp)(l:Addr)(n:Nat)(zs:Zs):Prop where
 qa:km n (zp zs)
 at_:H l=some (.lst (zr zs))
 po:PO H zs
theorem eD.same(h:eD H l n zs)(s:az H H'):eD H' l n zs:=⟨h.qa,s _ _ h.at_,h.po.same s⟩
def js:Sp:=fun vs H Q _=>∃ (n:Nat) (l:Addr) (zs:Zs),vs=[.int n,.ref l]/\eD H l n zs/\∀H',az H H'->Q .bi H'
theorem Df(F:dH K "check_ties" "check_ties" xI f fd)(B:Bl mg)(gF:∃t,mg "FEWEST_HOUSES"=some (.int 2 t))(gM:∃t,mg "MOST_HOUSES"=some (.int 32 t))(W:bQ P w K mg base a9 2 "is_whole_within" ["thing","least","most"] (i9 K))(T:bQ P w K mg base a9 5 "is_tie" ["many","thing"] De):
  a7 P w K mg base a9 6 f fd ["many","ties"] js:=by
 obtain⟨tF,gF⟩:=gF;obtain⟨tM,gM⟩:=gM;refine F.ok yW (fun vs H Q E h=>?_) (fun ce A outer s H vs Q E hr h=>?_)
 .obtain⟨n,l,zs,rfl,_⟩:=h;rfl
 .refine⟨_,ah (a8 (cq (bW (av W (hr.mono (by decide)) aG (aa (pv 0) (aa (bV (v:=.int 2) rfl gF ⟨_,rfl⟩) (aa (bV (v:=.int 32) rfl gM ⟨_,rfl⟩) af)))))) cH aI)
   (ah (a8 (cq (bW (au dz (by rfl) B.pN di (aa (pv 1) (aa (eF (v:=.ty "list") rfl B.lst rj rfl) af))))) cH aI)
   (ah (cr dG rfl (dN (pv 1)) (aB (i:=2) yW.nd rfl (Or.inl rfl)) (aj (a8 (cq (bW (av T hr aG (aa (pv 0) (aa (pv 2) af))))) cH aI)))
   (aj (a8 (aM oW (au ux (by rfl) B.len cG (aa (cJ (zS rfl (by have:=hr.un;show (A.deeper _).units+8<_;lia)) (by rfl) B.set PyProof.Rows.boot_set (aa (pv 1) af)) af)) (au aD (by rfl) B.len cG (aa (pv 1) af)) (aQ _)) cH aI)))),?_⟩
  obtain⟨n,l,zs,rfl,tt,k⟩:=h;obtain⟨fi,hl,po⟩:=id tt;have n1:=fi.n1;have n2:=fi.n2;refine⟨_,rfl,_,_,2,32,rfl,.int n,_,rfl,?_⟩;rw[show aV (some (n:Int)) 2 32=true by unfold aV;simp;lia];refine dP ?_;refine⟨_,rfl,_,_,_,.type "list",true,rfl,⟨rfl,uV⟩,.of (.lst hl),_,rfl,dP ?_⟩;refine⟨_,rfl,l,rfl,⟨_,bz.of hl⟩,oU (K:=K) (a:=l) (xs:=zr zs) (fun i σ H2=>H2=H/\∃v,σ=[some (.int n),some (.ref l),v]) ⟨rfl,none,rfl⟩ (fun i σ H2 _ ⟨e,_⟩=>by rw[e];exact bz.of hl) ?_ ?_⟩
  .rintro i x σ H2 hx ⟨rfl,v,rfl⟩;obtain⟨z,hz,rfl⟩:=sS hx;have Hw:z∈zs:=cY hz;have Wc:z.2∈zp zs:=a_.mpr ⟨z,Hw,rfl⟩;have r:=fi.rg _ Wc;exact⟨_,rfl,_,rfl,n,_,_,_,rfl,po z Hw,r.1.1,r.1.2,r.2.1,r.2.2,fi.ne _ Wc,_,rfl,dP ⟨rfl,_,rfl⟩⟩
  .rintro σ H2 ⟨rfl,v,rfl⟩;have dL:(zp zs).length<=256:=fi.len;refine⟨_,rfl,l,zs.map (·.1),zp zs,rfl,bz.of (by rw[<-n8];exact hl),by rw[bp,cF],fun i hi=>?_,fi.nd,fun y hy=>?_,by lia,fun D hD=>?_⟩
   .rw[cF] at hi;rw[uU hi,yS hi];exact bD.of (po _ (d7 hi))
   .have r:=fi.rg _ hy;lia
   .have nl:l≠D:=aq hl hD;refine⟨D,_,rfl,ag,by lia,_,rfl,l,zr zs,rfl,.inl (bz.of (by rw[al nl];exact hl)),rfl,_,rfl,?_⟩;have ez:(!decide (V.int (((zp zs).length:Nat):Int)=V.int (((zr zs).length:Nat):Int)))=false:=by rw[cF,i_];simp
    rw[ez];exact dP (k _ (ai hD))
end
abbrev uW:Stmt:=fk 43
section
variable {P:Program} {w:World} {K:PySem.W.Frag} {mg:Str->Option Value} {base:Heap}
theorem mr(S:St->Prop)(p q:Int×Int->Int)(h:Int)(hD:H D=none)(hl:H l=some (.lst (zr zs)))(po:PO H zs)(hn:zs.length<=1000)(s0:S σB)(hg:∀z σ H2 (Kt:V->St->Hp->Prop) (Kf:St->Hp->Prop),z∈zs->S σ->H2 z.1=some (Hv z.2)->(∀σ2,S σ2->p z.2=h->Kt (.int (q z.2)) σ2 H2)->(∀σ2,S σ2->p z.2≠h->Kf σ2 H2)->
   g (.ref z.1) σ H2 fun σ2 H2=>tt σ2 H2 fun b H3=>if b=true then te σ2 H3 fun v H4=>Kt v σ2 H4 else Kf σ2 H3)(hd:dt (upd H D (.lst (IV (((zp zs).filter fun y=>decide (p y=h)).map q))))):jE (EQ K l) g tt te D dt σB (upd H D (.lst [])):=by
 have nl:l≠D:=aq hl hD;have tk:∀ {i:Nat} {z:Addr×(Int×Int)},zs[i]?=some z->(zp zs).take (i+1)=(zp zs).take i++[z.2]:=fun {i z} hz=>by
  rw[ie,show (zp zs)[i]?=some z.2 by unfold zp;rw[bX,hz];rfl];rfl
 refine gz (xs:=zr zs) (fun i ys σ H2=>S σ/\ys=IV ((((zp zs).take i).filter fun y=>decide (p y=h)).map q)/\H2=upd H D (.lst ys)) ⟨s0,by simp,rfl⟩ (fun i ys σ H2 _ ⟨_,_,e⟩=>by rw[e];exact bz.of (by rw[al nl];exact hl)) ?_ ?_
 .rintro i x ys σ H2 Kt Kf hx ⟨hS,ey,rfl⟩ kt kf;obtain⟨z,hz,rfl⟩:=sS hx;have Hw:z∈zs:=cY hz;have hp:=po z Hw;have na:z.1≠D:=aq hp hD;have hi:i<zs.length:=(cV.mp hz).1;refine hg z σ _ Kt Kf Hw hS (by rw[al na];exact hp) (fun σ2 s2 e=>?_) (fun σ2 s2 e=>?_)
  .refine kt _ _ _ ag ?_ ⟨s2,?_,?_⟩
   .rw[ey,bp,bp];exact gi (mE _ _) (gi (List.length_take_le _ _) (cM (show i<1000 by lia) (by decide)))
   .rw[ey,tk hz,iy,dF];have:decide (p z.2=h)=true:=by simp[e]
    simp[fF,this]
   .rw[nP]
  .refine kf _ _ ⟨s2,?_,rfl⟩;have:decide (p z.2=h)=false:=by simp[e]
   rw[ey,tk hz,iy];simp[fF,this]
 .rintro ys σ H2 ⟨_,ey,rfl⟩;rw[i_,<-cF,jA] at ey;rw[ey];exact hd
theorem Lj:(["one","other","house"]:List Str).Nodup:=by decide +kernel
theorem yX:aA ["many","ties","house","leading_out","leading_in"] ["many","ties"] (ak Ju):=⟨rfl,rfl,rfl,by decide +kernel,rfl,by decide +kernel,by decide +kernel⟩
theorem Jy(F:dH K "check_balance" "check_balance" Ju f fd)(B:Bl mg)(gM:∃t,mg "MOST_TIES_OUT"=some (.int 8 t)):
  a7 P w K mg base a9 1 f fd ["many","ties"] js:=by
 obtain⟨tM,gM⟩:=gM;refine F.ok yX (fun vs H Q E h=>?_) (fun ce A outer s H vs Q E hr h=>?_)
 .obtain⟨n,l,zs,rfl,_⟩:=h;rfl
 .obtain⟨n,l,zs,rfl,T,k⟩:=h;have fi:=T.qa;have n1:=fi.n1;have n2:=fi.n2;have dL:zs.length<=256:=by have:=fi.len;rw[cF] at this;exact this
  refine'⟨_,aj (cr dG rfl (bh rfl B.range (aa (pv 0) af)) (aB (i:=2) yX.nd rfl (Or.inr rfl))
   (ah (aL (i:=3) yX.nd rfl (Or.inl rfl) (au aD (by rfl) B.len cG (aa ?c1 af)))
   (ah (aL (i:=4) yX.nd rfl (Or.inl rfl) (au aD (by rfl) B.len cG (aa ?c2 af)))
   (ah (a8 (aM oW (pv 3) (pv 4) (aQ _)) cH aI)
   (aj (a8 (aM qt (pv 3) (bV (v:=.int 8) rfl gM ⟨_,rfl⟩) (aQ _)) cH aI)))))),?_⟩
  case c1=>
   refine' dQ (g:=Bo K 2 (kL (cI 0) (kL (cI 1) Bn))) (NB:=["one","other","house"]) (src:=[none,none,some 2]) (dq (by kernel_rfl)) rfl (dN (pv 1)) ?g ?t ?e;case g=>exact fun cl C s₃ H₃ fp=>gb (n:=2) rfl (ba (aB (i:=0) Lj rfl (Or.inl rfl) (Or.inr rfl)) (ba (aB (i:=1) Lj rfl (Or.inl rfl) (Or.inr rfl)) eG))
   case t=>exact fun cl C s₃ H₃ fp=>fv (aM eN (pv 0) (pv 2) (aQ _))
   case e=>exact fun cl C s₃ H₃ fp=>pv 0
  case c2=>
   refine' dQ (g:=Bo K 2 (kL (cI 0) (kL (cI 1) Bn))) (NB:=["one","other","house"]) (src:=[none,none,some 2]) (dq (by kernel_rfl)) rfl (dN (pv 1)) ?g ?t ?e;case g=>exact fun cl C s₃ H₃ fp=>gb (n:=2) rfl (ba (aB (i:=0) Lj rfl (Or.inl rfl) (Or.inr rfl)) (ba (aB (i:=1) Lj rfl (Or.inl rfl) (Or.inr rfl)) eG))
   case t=>exact fun cl C s₃ H₃ fp=>fv (aM eN (pv 1) (pv 2) (aQ _))
   case e=>exact fun cl C s₃ H₃ fp=>pv 1
  refine⟨_,rfl,n,rfl,by lia,by lia,cw (n:=n) (lo:=0) (fun i σ H2=>az H H2/\∃a b c,σ=[some (.int n),some (.ref l),a,b,c]) ⟨az.refl _,none,none,none,rfl⟩ ?_ ?_⟩
  .rintro i σ H2 hi ⟨sm,a,b,c,rfl⟩;have T2:=T.same sm;refine⟨_,rfl,l,rfl,⟨_,bz.of T2.at_⟩,fun D hD=>mr (fun σ=>∃a b,σ=[a,b,some (.int (0+(i:Int)))]) (·.1) (·.1) (0+(i:Int)) hD T2.at_ T2.po (by lia) ⟨_,_,rfl⟩ ?_ ?_⟩
   .rintro z σ H3 Kt Kf hj ⟨x,y,rfl⟩ ha kt kf;refine⟨z.1,_,rfl,bD.of ha,rfl,_,_,rfl,_,_,rfl,rfl,?_⟩;refine⟨_,rfl,_,rfl,rfl,_,rfl,?_⟩;refine ei (fun e=>?_) (fun e=>?_)
    .exact⟨_,rfl,kt _ ⟨_,_,rfl⟩ (by simpa using e)⟩
    .exact kf _ ⟨_,_,rfl⟩ (by simpa using e)
   .refine⟨D,_,rfl,.inl (bz.of ag),?_⟩;have An:=cK (o:=.lst (IV (((zp zs).filter fun y=>decide (y.1=0+(i:Int))).map (·.1)))) (sm.trans (az.refl _)) (H:=H) (by cases z:H D with|none=>rfl|some o=>rw[sm _ _ z] at hD;cases hD);have T3:=T.same An;refine⟨_,rfl,l,rfl,⟨_,bz.of T3.at_⟩,fun D' Wd=>mr (fun σ=>∃a b,σ=[a,b,some (.int (0+(i:Int)))]) (·.2) (·.2) (0+(i:Int)) Wd T3.at_ T3.po (by lia) ⟨_,_,rfl⟩ ?_ ?_⟩
    .rintro z σ H3 Kt Kf hj ⟨x,y,rfl⟩ ha kt kf;refine⟨z.1,_,rfl,bD.of ha,rfl,_,_,rfl,_,_,rfl,rfl,?_⟩;refine⟨_,rfl,_,rfl,rfl,_,rfl,?_⟩;refine ei (fun e=>?_) (fun e=>?_)
     .exact⟨_,rfl,kt _ ⟨_,_,rfl⟩ (by simpa using e)⟩
     .exact kf _ ⟨_,_,rfl⟩ (by simpa using e)
    .refine⟨D',_,rfl,.inl (bz.of ag),?_⟩;rw[dv] at *;have q1:(IV (((zp zs).filter fun y=>decide (y.1=(i:Int))).map (·.1))).length=(IV (((zp zs).filter fun y=>decide (y.2=(i:Int))).map (·.2))).length:=by
      rw[bp,bp,bp,bp];exact fi.Yv i
     have q2:(IV (((zp zs).filter fun y=>decide (y.1=(i:Int))).map (·.1))).length<=8:=by
      rw[bp,bp];exact fi.most i
     refine⟨_,rfl,_,rfl,rfl,_,rfl,?_⟩;rw[<-q1];rw[show (!decide (V.int (((IV (((zp zs).filter fun y=>decide (y.1=(i:Int))).map (·.1))).length:Nat):Int)=V.int (((IV (((zp zs).filter fun y=>decide (y.1=(i:Int))).map (·.1))).length:Nat):Int)))=false by simp];refine dP ?_;refine⟨_,rfl,_,_,rfl,rfl,_,rfl,?_⟩;rw[show decide ((((IV (((zp zs).filter fun y=>decide (y.1=(i:Int))).map (·.1))).length:Nat):Int) > 8)=false by rw[mC];lia];exact dP ⟨An.trans (ai Wd),_,_,_,rfl⟩
  .rintro σ H2 ⟨sm,a,b,c,rfl⟩;exact k H2 sm
end
def FW:Expr:=match (bt uW).getD 1 (.Pass ⟨0,0,0,0⟩) with
 |.Return (some (.Call _ _ (k::_) _)) _=>k.value
 |_=>.Name "x" ⟨0,0,0,0⟩
def FX:Arguments:=match FW with
 |.Lambda a _ _ _=>a
 |_=>{ posonlyargs:=[],args:=[],vararg:=none,kwonlyargs:=[],kw_defaults:=[],kwarg:=none,defaults:=[] }
def FY:Expr:=match FW with
 |.Lambda _ b _ _=>b
 |e=>e
def Nj:Scope:=match FW with
 |.Lambda _ _ s _=>s
 |_=>{ kind:=.function,names:=[],isGenerator:=false,isCoroutine:=false }
def Jz:Pos:=match FW with
 |.Lambda _ _ _ p=>p
 |_=>⟨0,0,0,0⟩
def HE:Str:=("houses_out":Str)++".<locals>."++"<lambda>"
abbrev kD(Pt:Addr)(H:Hp):Prop:=lf Jz HE Pt H
def qR(Pt:Addr)(H H':Hp):Prop:=∀b o,H b=some o->b≠Pt->H' b=some o
theorem qR.of(a:az H H'):qR Pt H H':=fun c o h _=>a c o h
theorem kD.not(t:kD Pt H)(h:H b=some o)(n:∀ps,o≠.oM ps):b≠Pt:=by
 rintro rfl;rcases t with z|⟨c,z,_⟩ <;> · rw[h] at z;exact n _ (bS z)
theorem kD.same(t:kD Pt H)(e:az H H'):kD Pt H':=by
 rcases t with z|⟨c,z,y⟩
 .exact .inl (e _ _ z)
 .exact .inr ⟨c,e _ _ z,e _ _ y⟩
theorem FZ{n a b h:Int}(hn:0<n)(a0:0<=a)(a1:a<n)(b0:0<=b)(b1:b<n)(e:(a-h) % n=(b-h) % n):a=b:=by
 have h1:=Int.emod_emod_of_dvd (a-h) (Int.dvd_refl n);have q:(a-b) % n=0:=by
  have:a-b=(a-h)-(b-h):=by lia
  rw[this,Int.sub_emod,e,Int.sub_self,Int.zero_emod]
 obtain⟨c,hc⟩:=Int.dvd_of_emod_eq_zero q;have c0:c=0:=by
  rcases Int.lt_trichotomy c 0 with z|z|z
  .have:n*c<=n*(-1):=AW (by lia) (by lia);lia
  .exact z
  .have:n*1<=n*c:=AW (by lia) (by lia);lia
 rw[c0] at hc;lia
theorem qb{ts:Ts}{h:Int}(nd:ts.Nodup):((ts.filter fun y=>decide (y.1=h)).map (·.2)).Nodup:=by
 refine L2.mh (nd.filter _) fun x hx y hy e=>?_;have a:=(eL.mp hx).2;have b:=(eL.mp hy).2;simp at a b;exact gT (a.trans b.symm) e
theorem Ao{n:Nat}{ts:Ts}{h:Nat}(F:km n ts)(hh:h<n){out:List Int}(ko:Jd (h:Int) (n:Int) ((ts.filter fun y=>decide (y.1=(h:Int))).map (·.2)) out):out.map V.int=NV (dX n ts h):=by
 obtain⟨ps,hp,rfl,hs⟩:=ko;have zW:(ps.map (·.2)).Perm ((ts.filter fun y=>decide (y.1=(h:Int))).map (·.2)):=by
  have:=hp.map (·.2);rw[ij] at this;refine this.trans (rH ?_);conv=>rhs;rw[<-iG ((ts.filter fun y=>decide (y.1=(h:Int))).map (·.2))]
  rfl
 have mem:∀z,z∈ps.map (·.2)↔((h:Int),z)∈ts:=fun z=>by
  rw[zW.mem_iff,a_];constructor
  .rintro⟨y,hy,rfl⟩;obtain⟨y1,y2⟩:=eL.mp hy;have:y.1=(h:Int):=by simpa using y2
   rw[<-this];exact y1
  .intro hz;exact⟨_,eL.mpr ⟨hz,by simp⟩,rfl⟩
 have nd:(ps.map (·.2)).Nodup:=zW.nodup_iff.mpr (qb F.nd);have key:∀q∈ps,q.1=(q.2-(h:Int)) % (n:Int):=fun q hq=>by
  obtain⟨z,_,e⟩:=a_.mp (hp.mem_iff.mp hq);rw[<-e]
 have hn:(0:Int)<n:=by have:=F.n1;lia
 have sorted:(ps.map (·.2)).Pairwise fun x y=>(x-(h:Int)) % (n:Int)<(y-(h:Int)) % (n:Int):=by
  refine mI.mpr ?_;have YD:=mI.mp nd;refine(hs.and YD).imp_of_mem fun {x y} hx hy P0=>?_;have l1:=P0.1;rw[key x hx,key y hy] at l1;have ax:=F.rg _ ((mem x.2).mp (a_.mpr ⟨x,hx,rfl⟩));have ay:=F.rg _ ((mem y.2).mp (a_.mpr ⟨y,hy,rfl⟩));have ne:(x.2-(h:Int)) % (n:Int)≠(y.2-(h:Int)) % (n:Int):=fun z=>P0.2 (FZ hn ax.2.1 ax.2.2 ay.2.1 ay.2.2 z);lia
 have e:ps.map (·.2)=(dX n ts h).map fun (o:Nat)=>(o:Int):=by
  refine m8 (k:=fun z=>(z-(h:Int)) % (n:Int)) sorted ?_ fun z=>?_
  .refine mI.mpr ?_;exact uR hh
  .rw[mem,a_];constructor
   .intro hz;have r:=F.rg _ hz;refine⟨z.toNat,(eS F hh).mpr ?_,by lia⟩;show (((h:Nat):Int),((z.toNat:Nat):Int))∈ts;rw[show ((z.toNat:Nat):Int)=z by lia];exact hz
   .rintro⟨o,ho,rfl⟩;exact(eS F hh).mp ho
 rw[e,ij];rfl
section
variable {P:Program} {w:World} {K:PySem.W.Frag} {mg:Str->Option Value} {base:Heap}
theorem Dg:aA ["many","ties","house","others"] ["many","ties","house"] (ak uW):=⟨rfl,rfl,rfl,by decide +kernel,rfl,by decide +kernel,by decide +kernel⟩
def sV(Pt:Addr):Sp:=fun vs H Q _=>∃ (n:Nat) (l:Addr) (h:Nat) (zs:Zs),vs=[.int n,.ref l,.int h]/\h<n/\eD H l n zs/\kD Pt H/\
 ∀ (r:Addr) (H':Hp),kD Pt H'->qR Pt H H'->H r=none->H' r=some (.lst (NV (dX n (zp zs) h)))->Q (.ref r) H'
theorem F1(F:xt K "houses_out" "houses_out" uW f fd c)(B:Bl mg)(kb:K.In base)(hb:sF mg base)(hc:PySem.W.codeHdIn K c Pt=true):
  a7 P w K mg base a9 1 f fd ["many","ties","house"] (sV Pt):=by
 refine F.ok Dg (fun vs H Q E h=>?_) (fun A outer s H vs Q E hr h=>?_)
 .obtain⟨n,l,h,zs,rfl,_⟩:=h;rfl
 .obtain⟨n,l,h,zs,rfl,hh,T,tb,k⟩:=h;have fi:=T.qa;have n1:=fi.n1;have dL:zs.length<=256:=by have:=fi.len;rw[cF] at this;exact this
  have LS:MQ (gu a9 P w K mg base ["many","ties","house","others"] "houses_out" (ak uW) f (.ref c) A outer s H E).Es HE FX FY Nj "other" "house" "many" 2 0:=
   ⟨⟨_,_,_,_,_,rfl⟩,fun _ _ _ _ _=>rfl,rfl,rfl,rfl,rfl,rfl,rfl,rfl,by decide +kernel,by decide +kernel,by decide +kernel,rfl,rfl,rfl,by decide,⟨by decide,by decide⟩,⟨by decide,by decide⟩⟩
  refine'⟨_,ah (kh (i:=3) (g:=Bo K 2 (kL (cI 0) (kL (cI 1) Bn))) (NB:=["one","other","house"]) (src:=[none,none,some 2]) (dq (by kernel_rfl)) rfl (dN (pv 1)) ?g ?t ?e Dg.nd rfl rfl rfl)
   (aj (aE (zV (xq LS hr) rfl B.sorted Ba (aa (pv 3) af) (E2 (Jc (NB:=["other","house","many"]) (src:=[none,some 2,some 0]) (Ft kb hb hc) (dq (by kernel_rfl))) IA)))),?_⟩
  case g=>exact fun cl C s₃ H₃ fp=>gb (n:=2) rfl (ba (aB (i:=0) Lj rfl (Or.inl rfl) (Or.inr rfl)) (ba (aB (i:=1) Lj rfl (Or.inl rfl) (Or.inr rfl)) eG))
  case t=>exact fun cl C s₃ H₃ fp=>fv (aM eN (pv 0) (pv 2) (aQ _))
  case e=>exact fun cl C s₃ H₃ fp=>pv 1
  refine⟨_,rfl,l,rfl,⟨_,bz.of T.at_⟩,fun D hD=>mr (fun σ=>∃a b,σ=[a,b,some (.int (h:Int))]) (·.1) (·.2) (h:Int) hD T.at_ T.po (by lia) ⟨_,_,rfl⟩ ?_ ?_⟩
  .rintro z σ H3 Kt Kf hj ⟨x,y,rfl⟩ ha kt kf;refine⟨z.1,_,rfl,bD.of ha,rfl,_,_,rfl,_,_,rfl,rfl,?_⟩;refine⟨_,rfl,_,rfl,rfl,_,rfl,?_⟩;refine ei (fun e=>?_) (fun e=>?_)
   .exact⟨_,rfl,kt _ ⟨_,_,rfl⟩ (by simpa using e)⟩
   .exact kf _ ⟨_,_,rfl⟩ (by simpa using e)
  .generalize Eu:((zp zs).filter fun y=>decide (y.1=(h:Int))).map (·.2)=os;have Hh:os.length<=8:=by rw[<-Eu,bp];exact fi.most h
   have sm:az H (upd H D (.lst (IV os))):=ai hD;refine⟨_,rfl,tb.same sm,fun f' c' H2 YE kK Ij Fm=>?_⟩;have t2:kD Pt H2:=YE;have pO:H2 D=some (.lst (IV os)):=kK _ _ ag ((tb.same sm).not ag (by intro ps z;cases z));refine⟨D,f',c',os,h,n,rfl,rfl,bz.of pO,(by lia),Fm,Ij,rfl,rfl,by lia,fun r out AM ko=>?_⟩;rw[<-Eu] at ko;rw[Ao fi hh ko];have An:az H2 (upd H2 r (.lst (NV (dX n (zp zs) h)))):=ai AM;refine k r _ (t2.same An) (fun b o e hb=>An _ _ (kK b o (sm _ _ e) hb)) ?_ ag;cases z:H r with
   |none=>rfl
   |some o=>
    by_cases hP:r=Pt
    .rcases t2 with q|⟨_,q,_⟩ <;> · rw[<-hP,AM] at q;cases q
    .rw[kK r o (sm _ _ z) hP] at AM;cases AM
end
abbrev Dh:Stmt:=fk 44
abbrev xJ:Stmt:=fk 45
def jz(n:Nat)(R:List Nat)(f:Nat->Nat):List V:=(List.range n).map fun x=>if x∈R then V.int ((f x:Nat):Int) else .bi
theorem ja:(jz n R f).length=n:=by unfold jz;rw[bp,kH]
theorem jb(h:x<n):(jz n R f)[x]?=some (if x∈R then V.int ((f x:Nat):Int) else .bi):=by
 unfold jz;rw[bX,List.getElem?_range h];rfl
theorem xK(hs:s<n):(List.replicate n V.bi).set s (V.int 0)=jz n [s] (fun _=>0):=by
 apply v_;intro x;by_cases hx:x<n
 .rw[jb hx];by_cases e:x=s
  .subst e;rw[oh (by rw[oj];exact hx),am (by simp)];rfl
  .rw[lA (fun z=>e z.symm),vD,am hx,ao (by simp[e])]
 .rw[om (by rw[wr,oj];lia),om (by rw[ja];lia)]
theorem Di(hv:v<n):(jz n R f).set v (V.int ((k:Nat):Int))=jz n (R++[v]) (put f v k):=by
 apply v_;intro x;by_cases hx:x<n
 .rw[jb hx];by_cases e:x=v
  .subst e;rw[oh (by rw[ja];exact hx),am (by simp),i6]
  .rw[lA (fun z=>e z.symm),jb hx,e_ e];by_cases h:x∈R
   .rw[am h,am (ix _ h)]
   .rw[ao h,ao (fun z=>(cP.mp z).elim h fun z=>e (by simpa using z))]
 .rw[om (by rw[wr,ja];lia),om (by rw[ja];lia)]
def Nk(σ:St):Nat:=match σ[4]? with
 |some (some (V.int z))=>z.toNat
 |_=>0
theorem YF:(["others"]:List Str).Nodup:=by decide +kernel
def pj(H:Hp)(ol:Addr)(n:Nat)(ts:Ts):Prop:=∃bs:List Addr,H ol=some (.lst (bs.map V.ref))/\Holds H bs n (fun h=>.lst (NV (dX n ts h)))
theorem pj.same(x:pj H ol n ts)(e:az H H'):pj H' ol n ts:=let ⟨bs,a,b⟩:=x;⟨bs,e _ _ a,b.mono fun _ _ z=>e _ _ z⟩
theorem HG{as:List Addr}{i:Nat}{x:V}(h:(as.map V.ref)[i]?=some x):i<as.length/\x=.ref (as.getD i 0):=by
 rw[bX] at h;cases e:as[i]? with
 |none=>rw[e] at h;cases h
 |some a=>
  rw[e] at h;refine⟨(cV.mp e).1,?_⟩;rw[cf,e];exact(bS h).symm
section
variable {P:Program} {w:World} {K:PySem.W.Frag} {mg:Str->Option Value} {base:Heap}
theorem kr:aA ["out_lists","start","distances","reached","at","house","other"] ["out_lists","start"] (ak Dh):=⟨rfl,rfl,rfl,by decide +kernel,rfl,by decide +kernel,by decide +kernel⟩
def sW:Sp:=fun vs H Q _=>∃ (ol:Addr) (n s:Nat) (ts:Ts),vs=[.ref ol,.int s]/\km n ts/\s<n/\pj H ol n ts/\
 ∀ (r:Addr) (H':Hp),az H H'->H r=none->H' r=some (.lst (NV ((List.range n).map (Ht ts s))))->Q (.ref r) H'
theorem F2{f:Addr}{fd:FuncData}(F:dH K "distances_from" "distances_from" Dh f fd)(B:Bl mg):a7 P w K mg base a9 1 f fd ["out_lists","start"] sW:=by
 refine F.ok kr (fun vs H Q E h=>?_) (fun ce A outer s H vs Q E hr h=>?_)
 .obtain⟨ol,n,s,ts,rfl,_⟩:=h;rfl
 .obtain⟨ol,n,st,ts,rfl,fi,hs,O,k⟩:=h;have n1:=fi.n1;have n2:=fi.n2;refine'⟨_,ah (kh (i:=2) (g:=cI 0) (NB:=["others"]) (src:=[none]) (dq (by kernel_rfl)) rfl (dN (pv 0)) ?g ?t ?e kr.nd rfl rfl rfl)
   (ah (iO ap (rV (pv 2) (pv 1) kS))
   (ah (aL (i:=3) kr.nd rfl (Or.inl rfl) (bw (aa (pv 1) af)))
   (ah (aL (i:=4) kr.nd rfl (Or.inl rfl) ap)
   (ah (Br dG (aM yd (pv 4) (au aD (by rfl) B.len cG (aa (pv 3) af)) (aQ _))
    (ah (aL (i:=5) kr.nd rfl (Or.inl rfl) (be bC (pv 3) (pv 4) (fun _ _=>rfl)))
    (ah (cr dG rfl (dN (be bC (pv 0) (pv 5) (fun _ _=>rfl))) (aB (i:=6) kr.nd rfl (Or.inl rfl))
     (aj (a8 (aM rY (be bC (pv 2) (pv 6) (fun _ _=>rfl)) dk (aQ _))
      (ah (iO (aP cj (be bC (pv 2) (pv 5) (fun _ _=>rfl)) ap) (rV (pv 2) (pv 6) kS))
      (aj (bL (iR ir iq ip cx (pv 3) (aa (pv 6) af))))) aI)))
    (aj (rX (i:=4) kr.nd rfl (Or.inl rfl) ap Iq)))))
   (aj (aE (pv 2))))))),?_⟩
  case g=>exact fun cl C s₃ H₃ fp=>aB (i:=0) YF rfl (Or.inl rfl) (Or.inr rfl)
  case t=>exact fun cl C s₃ H₃ fp=>jr
  case e=>exact fun cl C s₃ H₃ fp=>dk
  obtain⟨bs,Hh,RN,Lc⟩:=id O;refine⟨_,rfl,ol,rfl,⟨_,bz.of Hh⟩,fun D hD=>?_⟩;have YG:ol≠D:=aq Hh hD;refine gz (xs:=bs.map V.ref) (fun i ys σ H2=>(∃a,σ=[a])/\ys=List.replicate i V.bi/\H2=upd H D (.lst ys)) ⟨⟨_,rfl⟩,rfl,rfl⟩ (fun i ys σ H2 _ ⟨_,_,e⟩=>by rw[e];exact bz.of (by rw[al YG];exact Hh)) ?_ ?_
  .rintro i x ys σ H2 Kt Kf hx ⟨⟨a,rfl⟩,rfl,rfl⟩ kt kf;have hi:=(HG hx).1;refine kt _ _ _ ag ?_ ⟨⟨_,rfl⟩,?_,by rw[nP]⟩
   .rw[oj];exact cM hi (by rw[RN];exact bq n2 (by decide))
   .rw[List.replicate_succ']
  .rintro ys σ H2 ⟨_,rfl,rfl⟩;rw[bp,RN];refine⟨_,rfl,_,rfl,D,_,st,st,rfl,rfl,ag,by rw[oj];exact nZ hs,?_⟩;rw[nP,xK hs];refine⟨_,rfl,by show 1<=sizeLine;decide,fun R hR=>?_⟩;have P3:D≠R:=aq (H:=upd H D (.lst (jz n [st] (fun _=>0)))) ag hR;have RO:H R=none:=by rw[al P3.symm] at hR;exact hR
   refine BC (fun σ H2=>∃ (i:Nat) (Rs:List Nat) (f:Nat->Nat),i<=Rs.length/\Af n ts st i Rs f/\(∃a b,σ=[some (.ref ol),some (.int st),some (.ref D),some (.ref R),some (.int (i:Int)),a,b])/\az H H2/\H2 D=some (.lst (jz n Rs f))/\H2 R=some (.lst (NV Rs)))
    (fun σ _=>n-Nk σ) ⟨0,[st],fun _=>0,cR _,Af.start hs,⟨none,none,rfl⟩,cK (ai hD) RO,?_,ag⟩ ?_ ?_
   .rw[al P3,ag]
   .rintro σ H2 ⟨i,Rs,f,hi,Bf,⟨a,b,rfl⟩,sm,pO,RP⟩;have hRn:Rs.length<=n:=hV Bf.nd Bf.lt;refine⟨_,rfl,_,rfl,R,_,rfl,.inl (bz.of RP),_,_,rfl,rfl,_,rfl,?_⟩;rw[bF];by_cases nA:i<Rs.length
    .rw[show decide ((i:Int)<((Rs.length:Nat):Int))=true by simp;lia];refine fK ?_;have hu:Rs[i]?=some Rs[i]:=bZ nA;generalize Rs[i]=u at hu;have F3:u<n:=Bf.lt u (cY hu);have YH:(NV Rs)[i]?=some (.int (u:Int)):=by rw[bX,hu];rfl
     refine⟨_,rfl,_,rfl,R,_,_,_,rfl,rfl,bz.of RP,aJ YH,?_⟩;have JA:(bs.map V.ref)[u]?=some (.ref (bs.getD u 0)):=by
      rw[bX,cf,bZ (by rw[RN];exact F3)];rfl
     have P6:=sm _ _ (Lc _ F3);refine⟨_,rfl,_,rfl,ol,_,_,_,rfl,rfl,bz.of (sm _ _ Hh),aJ JA,_,rfl,⟨_,bz.of P6⟩,?_⟩;have nbD:bs.getD u 0≠D:=aq (Lc _ F3) hD;have nbR:bs.getD u 0≠R:=aq (Lc _ F3) RO;refine oU (K:=K) (xs:=NV (dX n ts u)) (fun j σ H3=>∃ (nE:List Nat) (f':Nat->Nat),Af n ts st i nE f'/\nE[i]?=some u/\(∀v∈(dX n ts u).take j,v∈nE/\f' v<=f' u+1)/\
      (∃b,σ=[some (.ref ol),some (.int st),some (.ref D),some (.ref R),some (.int (i:Int)),some (.int (u:Int)),b])/\az H H3/\H3 D=some (.lst (jz n nE f'))/\H3 R=some (.lst (NV nE)))
      ⟨Rs,f,Bf,hu,fun v hv=>by simp at hv,⟨_,rfl⟩,sm,pO,RP⟩ (fun j σ H3 _ ⟨_,_,_,_,_,_,HI,_⟩=>bz.of (HI _ _ (Lc _ F3))) ?_ ?_
     .rintro j x σ H3 hx ⟨nE,f',F4,yo,dn,⟨b',rfl⟩,HI,HJ,EA⟩;rw[bX] at hx;cases hv:(dX n ts u)[j]? with
      |none=>rw[hv] at hx;cases hx
      |some v=>
       rw[hv] at hx;obtain rfl:V.int ((v:Nat):Int)=x:=bS hx;have We:v∈dX n ts u:=cY hv;have P7:v<n:=FK fi F3 We;have YI:T ts u v:=(eS fi F3).mp We;have tk:(dX n ts u).take (j+1)=(dX n ts u).take j++[v]:=by rw[ie,hv];rfl
       have Nl:u∈nE:=cY yo;refine⟨_,rfl,_,rfl,D,_,_,_,rfl,rfl,bz.of HJ,aJ (jb P7),rfl,_,rfl,?_⟩;by_cases JB:v∈nE
       .rw[am JB];refine dP ⟨nE,f',F4,yo,fun x hx=>?_,⟨_,rfl⟩,HI,HJ,EA⟩;rw[tk] at hx;rcases cP.mp hx with z|z
        .exact dn x z
        .simp at z;subst z;exact⟨JB,F4.bd u yo _ JB⟩
       .rw[ao JB];refine fK ?_;have YJ:(jz n nE f')[u]?=some (.int ((f' u:Nat):Int)):=by rw[jb F3,am Nl]
        refine⟨_,rfl,_,rfl,D,_,_,_,rfl,rfl,bz.of HJ,aJ YJ,_,_,rfl,rfl,_,rfl,_,rfl,D,_,_,_,rfl,rfl,HJ,by rw[ja];exact nZ P7,?_⟩;have e1:(jz n nE f').set v (.int (((f' u:Nat):Int)+1))=jz n (nE++[v]) (put f' v (f' u+1)):=by
         rw[show ((f' u:Nat):Int)+1=((f' u+1:Nat):Int) by lia,Di P7]
        rw[e1];have uQ:(upd H3 D (.lst (jz n (nE++[v]) (put f' v (f' u+1))))) R=some (.lst (NV nE)):=by rw[al P3.symm];exact EA
        have Nm:nE.length<=n:=hV F4.nd F4.lt;refine⟨_,rfl,.inl ⟨rfl,_,bz.of uQ⟩,_,rfl,R,_,_,rfl,rfl,uQ,by rw[bF];exact cM (show nE.length<33 by lia) (by decide),?_⟩;have Ho:i<nE.length:=(cV.mp yo).1;have YK:u≠v:=fun z=>JB (z ▸ Nl);refine⟨nE++[v],put f' v (f' u+1),F4.add yo P7 YI JB,by rw[mB Ho];exact yo,fun x hx=>?_,⟨_,rfl⟩,cK (cK HI hD) RO,?_,?_⟩
        .rw[e_ YK];rw[tk] at hx;rcases cP.mp hx with z|z
         .obtain⟨q1,q2⟩:=dn x z;exact⟨ix _ q1,by rw[e_ (fun (z:x=v)=>JB (z ▸ q1))];exact q2⟩
         .simp at z;subst z;exact⟨by simp,by rw[i6];exact aO _⟩
        .rw[al P3,ag]
        .rw[ag];show _=some (HO.lst (NV (nE++[v])));rw[show NV (nE++[v])=NV nE++[.int (v:Int)] by unfold NV;rw[dF];rfl]
     .rintro σ H3 ⟨nE,f',F4,yo,dn,⟨b',rfl⟩,HI,HJ,EA⟩;rw[bF,jA] at dn;have Ho:i<nE.length:=(cV.mp yo).1;have Nm:nE.length<=n:=hV F4.nd F4.lt;refine⟨_,rfl,_,_,rfl,rfl,⟨⟨i+1,nE,f',Ho,F4.next yo (fun v t=>dn v ((eS fi F3).mpr t)),⟨_,_,rfl⟩,HI,HJ,EA⟩,?_⟩⟩;show n-((i:Int)+1).toNat<n-(i:Int).toNat;lia
    .rw[show decide ((i:Int)<((Rs.length:Nat):Int))=false by rw[mC];lia];have e:jz n Rs f=NV ((List.range n).map (Ht ts st)):=by
      unfold jz NV;rw[ij];refine mG fun x hx=>?_;obtain⟨q1,q2⟩:=Bf.done fi (by lia) (cX.mp hx);rw[am q1,q2];rfl
     rw[e] at pO;refine dP ⟨_,rfl,k D H2 sm hD pO⟩
   .rintro σ H2 Q1 Q2 imp ⟨v,e1,v2,e2,p,ys,e3,e4,i1,i2,e5,e6,kk,e7,q⟩;exact⟨v,e1,v2,e2,p,ys,e3,e4,i1,i2,e5,e6,kk,e7,imp _ _ q⟩
end
theorem Nn:(["row"]:List Str).Nodup:=by decide +kernel
section
variable {P:Program} {w:World} {K:PySem.W.Frag} {mg:Str->Option Value} {base:Heap}
theorem F5:aA ["distances"] ["distances"] (ak xJ):=⟨rfl,rfl,rfl,by decide +kernel,rfl,by decide +kernel,by decide +kernel⟩
def sX:Sp:=fun vs H Q _=>∃ (l:Addr) (ds:List Addr) (n:Nat) (o:Nat->List V),vs=[.ref l]/\H l=some (.lst (ds.map V.ref))/\n<=32/\Holds H ds n (fun j=>.lst (o j))/\(∀j,j<n->∀x∈o j,∃i,x=.int i)/\∀H',az H H'->Q .bi H'
theorem Dj(F:dH K "check_reached" "check_reached" xJ f fd)(B:Bl mg):a7 P w K mg base a9 1 f fd ["distances"] sX:=by
 refine F.ok F5 (fun vs H Q E h=>?_) (fun ce A outer s H vs Q E hr h=>?_)
 .obtain⟨l,ds,n,o,rfl,_⟩:=h;rfl
 .obtain⟨l,ds,n,o,rfl,hl,n2,hh,hx,k⟩:=h;refine'⟨_,aj (a8 (bW (au (zT rfl) (by rfl) B.any PyProof.Rows.boot_any (aa ?c af))) cH aI),?_⟩;case c=>
   refine' dQ (g:=cI 0) (te:=mR (QP K false) (tC .bi) (br 0)) (NB:=["row"]) (src:=[none]) (dq (by kernel_rfl)) rfl (dN (pv 0)) ?g ?t ?e;case g=>exact fun cl C s₃ H₃ fp=>aB (i:=0) Nn rfl (Or.inl rfl) (Or.inr rfl)
   case t=>exact fun cl C s₃ H₃ fp=>jr
   case e=>exact fun cl C s₃ H₃ fp=>ft jp dk (pv 0) rfl
  refine⟨_,rfl,l,rfl,⟨_,bz.of hl⟩,fun D hD=>?_⟩;have nl:l≠D:=aq hl hD;refine gz (xs:=ds.map V.ref) (fun i ys σ H2=>(∃a,σ=[a])/\ys=(List.replicate i false).map V.bl/\H2=upd H D (.lst ys)) ⟨⟨_,rfl⟩,rfl,rfl⟩ (fun i ys σ H2 _ ⟨_,_,e⟩=>by rw[e];exact bz.of (by rw[al nl];exact hl)) ?_ ?_
  .rintro i x ys σ H2 Kt Kf YL ⟨⟨a,rfl⟩,rfl,rfl⟩ kt kf;obtain⟨hi,rfl⟩:=HG YL;rw[hh.1] at hi;have hd:=hh.2 i hi;have nd:ds.getD i 0≠D:=aq hd hD;have q1:(o i).all fh=true:=ii.mpr fun x rW=>by obtain⟨z,rfl⟩:=hx i hi x rW;rfl
   have q2:zE .bi (o i)=false:=by
    unfold zE;rw[wa];intro x rW;obtain⟨z,rfl⟩:=hx i hi x rW;exact fun z=>by cases z
   refine⟨_,rfl,_,_,rfl,.inl (bz.of (by rw[al nd];exact hd)),rfl,q1,?_⟩;refine kt _ _ _ ag ?_ ⟨⟨_,rfl⟩,?_,by rw[nP]⟩
   .rw[bp,oj];exact cM hi (bq n2 (by decide))
   .rw[List.replicate_succ',dF,q2];rfl
  .rintro ys σ H2 ⟨_,rfl,rfl⟩;refine⟨D,_,rfl,bz.of ag,_,rfl,?_⟩;have e:(List.replicate (ds.map V.ref).length false).any id=false:=by
    rw[wa];intro x rW;rw[(List.mem_replicate.mp rW).2];decide
   rw[e];exact dP (k _ (ai hD))
end
theorem Wf:(["one","other"]:List Str).Nodup:=by decide +kernel
theorem No:(["house","many","ties"]:List Str).Nodup:=by decide +kernel
theorem RQ:(["house","self"]:List Str).Nodup:=by decide +kernel
def jJ(p Pt:Addr)(H H':Hp):Prop:=∀b o,H b=some o->b≠p->b≠Pt->H' b=some o
theorem eD.mono(h:eD H l n zs)(e:jJ p Pt H H')(hp:H p=some (.ins C dx fs))(tb:kD Pt H):eD H' l n zs:=
 ⟨h.qa,e _ _ h.at_ (ee h.at_ hp (by intro z;cases z)) (tb.not h.at_ (by intro ps z;cases z)),fun z hz=>e _ _ (h.po z hz) (ee (h.po z hz) hp (by intro z;cases z)) (tb.not (h.po z hz) (by intro ps z;cases z))⟩
theorem kD.mono(t:kD Pt H)(e:∀b o,H b=some o->b≠p->H' b=some o)(hp:H p=some (.ins C dx fs)):kD Pt H':=by
 rcases t with z|⟨c,z,y⟩
 .exact .inl (e _ _ z (ee z hp (by intro q;cases q)))
 .exact .inr ⟨c,e _ _ z (ee z hp (by intro q;cases q)),e _ _ y (ee y hp (by intro q;cases q))⟩
theorem kD.full(t:kD Pt H):H Pt≠none:=by
 rcases t with z|⟨c,z,y⟩ <;> rw[z] <;> intro q <;> cases q
theorem jJ.free(s:jJ p Pt H H')(hp:H' p≠none)(tb:kD Pt H')(h:H' r=none):H r=none:=by
 cases z:H r with
 |none=>rfl
 |some o=>
  by_cases e1:r=p
  .subst e1;exact absurd h hp
  .by_cases e2:r=Pt
   .subst e2;exact absurd h tb.full
   .rw[s r o z e1 e2] at h;cases h
theorem Np(h:k [] H):dJ σ H k:=h
theorem jt{H:Hp}{p:Addr}{o:HO}(h:H p=some o):H p≠none:=by rw[h];intro z;cases z
section
variable {P:Program} {w:World} {K:PySem.W.Frag} {mg:Str->Option Value} {base:Heap}
theorem JC:aA ["self","many","ties"] ["self","many","ties"] (ak yT):=⟨rfl,rfl,rfl,by decide +kernel,rfl,by decide +kernel,by decide +kernel⟩
def xL(C Pt:Addr):Sp:=fun vs H Q E=>∃ (p dx:Addr) (n:Nat) (l:Addr) (zs:Zs),vs=[.ref p,.int n,.ref l]/\H p=some (.ins C dx [])/\eD H l n zs/\kD Pt H/\
  ∀H',fq C H' (fun a=>H a=none) p n (zp zs)->kD Pt H'->jJ p Pt H H'->Q .bi H'
theorem F6{f C Pt:Addr}{fd:FuncData}(F:dH K "__init__" "Net.__init__" yT f fd)(T:NT K mg C)(B:Bl mg)(CT:bQ P w K mg base a9 6 "check_ties" ["many","ties"] js)(CB:bQ P w K mg base a9 1 "check_balance" ["many","ties"] js)(YM:bQ P w K mg base a9 1 "houses_out" ["many","ties","house"] (sV Pt))(DF:bQ P w K mg base a9 1 "distances_from" ["out_lists","start"] sW)(CR:bQ P w K mg base a9 1 "check_reached" ["distances"] sX):
  a7 P w K mg base a9 7 f fd ["self","many","ties"] (xL C Pt):=by
 refine F.ok JC (fun vs H Q E h=>?_) (fun ce A outer s H vs Q E hr h=>?_)
 .obtain⟨p,dx,n,l,zs,rfl,_⟩:=h;rfl
 .have vk:bv 1 _:=hr.mono (by decide);refine'⟨_,ah (bL (av CT hr aG (aa (pv 1) (aa (pv 2) af))))
   (ah (bL (av CB vk aG (aa (pv 1) (aa (pv 2) af))))
   (ah (lY (pv 0) (pv 1) rfl)
   (ah (lY (pv 0) (au xB (by rfl) B.sorted Ba (aa ?c1 af)) rfl)
   (ah (lY (pv 0) ?c2 rfl)
   (ah (lY (pv 0) ?c3 rfl)
   (aj (bL (av CR vk aG (aa (gZ (pv 0) rfl) af))))))))),?_⟩
  case c1=>
   refine' dQ (g:=Bo K 2 (kL (cI 0) (kL (cI 1) Bn))) (te:=wT (aY (br 0) (aY (br 1) dJ))) (NB:=["one","other"]) (src:=[none,none]) (dq (by kernel_rfl)) rfl (dN (pv 2)) ?g ?t ?e;case g=>exact fun cl C s₃ H₃ fp=>gb (n:=2) rfl (ba (aB (i:=0) Wf rfl (Or.inl rfl) (Or.inr rfl)) (ba (aB (i:=1) Wf rfl (Or.inl rfl) (Or.inr rfl)) eG))
   case t=>exact fun cl C s₃ H₃ fp=>jr
   case e=>exact fun cl C s₃ H₃ fp=>dB (aa (pv 0) (aa (pv 1) af))
  case c2=>
   refine' dQ (g:=cI 0) (te:=mS (sV Pt) [] E0 (aY (br 1) (aY (br 2) (aY (br 0) dJ)))) (NB:=["house","many","ties"]) (src:=[none,some 1,some 2]) (dq (by kernel_rfl)) rfl (bh rfl B.range (aa (pv 1) af)) ?g ?t ?e;case g=>exact fun cl C s₃ H₃ fp=>aB (i:=0) No rfl (Or.inl rfl) (Or.inr rfl)
   case t=>exact fun cl C s₃ H₃ fp=>jr
   case e=>exact fun cl C s₃ H₃ fp=>av YM vk aG (aa (pv 1) (aa (pv 2) (aa (pv 0) af)))
  case c3=>
   refine' dQ (g:=cI 0) (te:=mS sW [] E0 (aY (LZ K (br 1) "out_lists") (aY (br 0) dJ))) (NB:=["house","self"]) (src:=[none,some 0]) (dq (by kernel_rfl)) rfl (bh rfl B.range (aa (pv 1) af)) ?g ?t ?e;case g=>exact fun cl C s₃ H₃ fp=>aB (i:=0) RQ rfl (Or.inl rfl) (Or.inr rfl)
   case t=>exact fun cl C s₃ H₃ fp=>jr
   case e=>exact fun cl C s₃ H₃ fp=>av DF vk aG (aa (gZ (pv 1) rfl) (aa (pv 0) af))
  obtain⟨p,dx,n,l,zs,rfl,hp,TT,tb,k⟩:=h;have fi:=TT.qa;have n1:=fi.n1;have n2:=fi.n2;have dL:zs.length<=256:=by have:=fi.len;rw[cF] at this;exact this
  refine⟨_,rfl,_,rfl,n,l,zs,rfl,TT,fun H1 s1=>?_⟩;refine⟨_,rfl,_,rfl,n,l,zs,rfl,TT.same s1,fun H2 s2=>?_⟩;have yY:az H H2:=s1.trans s2;refine⟨_,rfl,_,rfl,p,C,dx,[],rfl,yY _ _ hp,T.cl,T.nH,(by show 0<1000;decide),?_⟩
  let G1:Hp:=upd H2 p (.ins C dx (cC "house_count" (.int n) []))
  have d1:jJ p Pt H G1:=fun b o e h1 _=>by show upd _ _ _ _=_;rw[al h1];exact yY _ _ e
  have P8:G1 p=some (.ins C dx (cC "house_count" (.int n) [])):=ag;have RS:eD G1 l n zs:=TT.mono d1 hp tb;have RT:kD Pt G1:=tb.mono (fun b o e h1=>by show upd _ _ _ _=_;rw[al h1];exact yY _ _ e) hp;refine⟨_,rfl,l,rfl,⟨_,bz.of RS.at_⟩,fun D hD=>?_⟩;refine C_ (fun y=>y) (fun σ=>∃a b,σ=[a,b]) RS.at_ RS.po hD (by lia) ⟨_,_,rfl⟩ ?_ ?_
  .rintro z σ H3 R Kf hz ⟨a,b,rfl⟩ ha kk;refine⟨_,_,rfl,bD.of ha,rfl,_,_,rfl,_,_,rfl,rfl,?_⟩;exact⟨_,rfl,_,rfl,by show 2<=sizeLine;decide,fun t ht=>kk _ _ ⟨_,_,rfl⟩ ht⟩
  .intro Wg H3 sm HJ Nq ez YN;rw[List.map_id'] at ez;have Mb:Wg.length=zs.length:=by rw[<-cF,ez,cF]
   refine Np ?_;refine FR HJ Nq (by lia) (fun u hu=>by have:=(fi.rg u (ez ▸ hu)).2;lia) fun tl Lk RU pm YO=>?_;have RV:H tl=none:=d1.free (jt P8) RT (sm.free RU);have Ir:∀z∈Lk,H z.1=none:=fun z hz=>d1.free (jt P8) RT (YN z (pm.mem_iff.mp hz));have RX:H3 p=some (.ins C dx (cC "house_count" (.int n) [])):=sm _ _ P8;have JD:p≠tl:=aq RX RU;refine⟨_,rfl,p,C,dx,_,rfl,by rw[al JD];exact RX,T.cl,T.nT,by show 1<1000;decide,?_⟩
   let G2:Hp:=upd (upd H3 tl (.lst (zr Lk))) p (.ins C dx (cC "tie_list" (.ref tl) (cC "house_count" (.int n) [])))
   have q2:∀b o,H3 b=some o->b≠p->G2 b=some o:=fun b o e h1=>by
    show upd _ _ _ _=_;rw[al h1,al (aq e RU)];exact e
   have d2:jJ p Pt H G2:=fun b o e h1 h2=>q2 _ _ (sm _ _ (d1 _ _ e h1 h2)) h1;have Wi:G2 tl=some (.lst (zr Lk)):=by show upd _ _ _ _=_;rw[al JD.symm,ag]
   have RY:PO G2 Lk:=fun z hz=>q2 _ _ (Nq z (pm.mem_iff.mp hz)) (ee (Nq z (pm.mem_iff.mp hz)) RX (by intro z;cases z));have JE:G2 p=some (.ins C dx (cC "tie_list" (.ref tl) (cC "house_count" (.int n) []))):=ag;have YQ:eD G2 l n zs:=TT.mono d2 hp tb;have JF:kD Pt G2:=RT.mono (fun b o e h1=>q2 _ _ (sm _ _ e) h1) P8;refine⟨_,rfl,n,rfl,by lia,by lia,fun D2 pO=>?_⟩;refine et (n:=n) (lo:=0) (fun i ys σ H4=>(∃a,σ=[a,some (.int n),some (.ref l)])/\∃bs:List Addr,ys=bs.map V.ref/\(∀b∈bs,H b=none)/\Holds H4 bs i (fun h=>.lst (NV (dX n (zp zs) h)))/\qR Pt G2 H4/\kD Pt H4/\H4 D2=some (.lst ys)/\∀b∈bs,b≠D2)
    ⟨⟨_,rfl⟩,[],rfl,(fun _ h=>nomatch h),Holds.nil,qR.of (ai pO),JF.same (ai pO),ag,(fun _ h=>nomatch h)⟩ ?_ ?_
   .rintro i ys σ H4 Kt Kf hi ⟨⟨a,rfl⟩,bs,rfl,RZ,hb,zL,Ll,Lm,R0⟩ kt kf;have YR:eD H4 l n zs:=YQ.mono (p:=p) (fun b o e _ h2=>zL _ _ e h2) JE JF;have Lo:=zL _ _ JE (JF.not JE (by intro ps z;cases z));refine⟨_,rfl,_,rfl,_,rfl,n,l,i,zs,by rw[dv];rfl,hi,YR,Ll,fun r H5 t5 tU EC P9=>?_⟩;have R1:H r=none:=jJ.free (fun b o e h1 h2=>zL _ _ (d2 _ _ e h1 h2) h2) (jt Lo) Ll EC;have P_:H5 D2=some (.lst (bs.map V.ref)):=tU _ _ Lm (Ll.not Lm (by intro ps z;cases z));have Nr:r≠D2:=by rintro rfl;rw[Lm] at EC;cases EC
    have jK:∀b o uB,H5 b=some o->b≠D2->(upd H5 D2 uB) b=some o:=fun b o uB e h=>by rw[al h];exact e
    refine kt _ _ _ P_ (by rw[bp,hb.1];exact cM hi (bq n2 (by decide))) ⟨⟨_,rfl⟩,bs++[r],by rw[dF];rfl,?_,?_,?_,?_,ag,?_⟩
    .intro b ym;rcases cP.mp ym with z|z
     .exact RZ b z
     .rw[dD.mp z];exact R1
    .refine Holds.snoc (hb.mono fun j hj e=>?_) (jK _ _ _ P9 Nr);refine jK _ _ _ (tU _ _ e (Ll.not e (by intro ps z;cases z))) (R0 _ ?_);rw[cf,bZ (by rw[hb.1];exact hj)];exact d7 _
    .intro b o e h;exact jK _ _ _ (tU _ _ (zL _ _ e h) h) (aq e pO)
    .rcases t5 with z|⟨c,z,y⟩
     .exact .inl (jK _ _ _ z (ee z P_ (by intro q;cases q)))
     .exact .inr ⟨c,jK _ _ _ z (ee z P_ (by intro q;cases q)),jK _ _ _ y (ee y P_ (by intro q;cases q))⟩
    .intro b ym;rcases cP.mp ym with z|z
     .exact R0 b z
     .rw[dD.mp z];exact Nr
   .rintro ys σ H4 ⟨_,bs,rfl,RZ,hb,zL,Ll,Lm,R0⟩;have Lo:H4 p=some (.ins C dx (cC "tie_list" (.ref tl) (cC "house_count" (.int n) []))):=zL _ _ JE (JF.not JE (by intro ps z;cases z));have R3:H D2=none:=d2.free (jt JE) JF pO;refine⟨_,rfl,p,C,dx,_,rfl,Lo,T.cl,T.nO,by have h1:=c_ "tie_list" (V.ref tl) (cC "house_count" (V.int n) []);have h2:=c_ "house_count" (V.int n) [];simp at h2;lia,?_⟩
    let G3:Hp:=upd H4 p (.ins C dx (cC "out_lists" (.ref D2) (cC "tie_list" (.ref tl) (cC "house_count" (.int n) []))))
    have q3:∀b o,H4 b=some o->b≠p->G3 b=some o:=fun b o e h1=>by show upd _ _ _ _=_;rw[al h1];exact e
    have JG:G3 p=some (.ins C dx (cC "out_lists" (.ref D2) (cC "tie_list" (.ref tl) (cC "house_count" (.int n) [])))):=ag;have d3:jJ p Pt H G3:=fun b o e h1 h2=>q3 _ _ (zL _ _ (d2 _ _ e h1 h2) h2) h1;have R4:kD Pt G3:=Ll.mono q3 Lo;have Wj:Holds G3 bs n (fun h=>.lst (NV (dX n (zp zs) h))):=hb.mono fun j hj e=>q3 _ _ e (ee e Lo (by intro z;cases z));have R5:G3 D2=some (.lst (bs.map V.ref)):=q3 _ _ Lm (ee Lm Lo (by intro z;cases z));have O3:pj G3 D2 n (zp zs):=⟨bs,R5,Wj⟩
    refine⟨_,rfl,n,rfl,by lia,by lia,fun D3 JI=>?_⟩;refine et (n:=n) (lo:=0) (fun i ys σ H6=>(∃a,σ=[a,some (.ref p)])/\∃ds:List Addr,ys=ds.map V.ref/\(∀b∈ds,H b=none)/\Holds H6 ds i (fun s=>.lst (NV ((List.range n).map (Ht (zp zs) s))))/\az G3 H6/\H6 D3=some (.lst ys)/\∀b∈ds,b≠D3)
     ⟨⟨_,rfl⟩,[],rfl,(fun _ h=>nomatch h),Holds.nil,ai JI,ag,(fun _ h=>nomatch h)⟩ ?_ ?_
    .rintro i ys σ H6 Kt Kf hi ⟨⟨a,rfl⟩,ds,rfl,R6,hd,Cn,AO,LX⟩ kt kf;refine⟨_,rfl,p,C,dx,_,_,rfl,Cn _ _ JG,T.cl,T.nO,by rw[aT,am rfl],_,rfl,D2,n,i,zp zs,by rw[dv];rfl,fi,hi,O3.same Cn,fun r H7 R7 JJ YS=>?_⟩;have YT:H7 D3=some (.lst (ds.map V.ref)):=R7 _ _ AO;have Nr:r≠D3:=by rintro rfl;rw[AO] at JJ;cases JJ
     have R1:H r=none:=jJ.free (fun b o e h1 h2=>Cn _ _ (d3 _ _ e h1 h2)) (jt (Cn _ _ JG)) (R4.same Cn) JJ;have jK:∀b o uB,H7 b=some o->b≠D3->(upd H7 D3 uB) b=some o:=fun b o uB e h=>by rw[al h];exact e
     refine kt _ _ _ YT (by rw[bp,hd.1];exact cM hi (bq n2 (by decide))) ⟨⟨_,rfl⟩,ds++[r],by rw[dF];rfl,?_,?_,?_,ag,?_⟩
     .intro b ym;rcases cP.mp ym with z|z
      .exact R6 b z
      .rw[dD.mp z];exact R1
     .refine Holds.snoc (hd.mono fun j hj e=>?_) (jK _ _ _ YS Nr);refine jK _ _ _ (R7 _ _ e) (LX _ ?_);rw[cf,bZ (by rw[hd.1];exact hj)];exact d7 _
     .intro b o e;exact jK _ _ _ (R7 _ _ (Cn _ _ e)) (aq e JI)
     .intro b ym;rcases cP.mp ym with z|z
      .exact LX b z
      .rw[dD.mp z];exact Nr
    .rintro ys σ H6 ⟨_,ds,rfl,R6,hd,Cn,AO,LX⟩;have Nt:=Cn _ _ JG;refine⟨_,rfl,p,C,dx,_,rfl,Nt,T.cl,T.nD,by have h1:=c_ "tie_list" (V.ref tl) (cC "house_count" (V.int n) []);have h2:=c_ "house_count" (V.int n) [];have h3:=c_ "out_lists" (V.ref D2) (cC "tie_list" (V.ref tl) (cC "house_count" (V.int n) []));simp at h2;lia,?_⟩;have q4:∀b o u,H6 b=some o->b≠p->(upd H6 p u) b=some o:=fun b o u e h1=>by rw[al h1];exact e
     refine⟨_,rfl,p,C,dx,_,_,rfl,ag,T.cl,T.nD,by rw[aT,am rfl],D3,ds,n,fun s=>NV ((List.range n).map (Ht (zp zs) s)),rfl,q4 _ _ _ AO (ee AO Nt (by intro z;cases z)),n2,hd.mono fun j hj e=>q4 _ _ _ e (ee e Nt (by intro z;cases z)),fun j hj x hx=>?_,fun H8 s8=>?_⟩
     .obtain⟨y,hy,rfl⟩:=a_.mp hx;exact⟨_,rfl⟩
     .have up:∀b o,G3 b=some o->b≠p->H8 b=some o:=fun b o e h1=>s8 _ _ (q4 _ _ _ (Cn _ _ e) h1);have R8:H D3=none:=d3.free (jt JG) R4 JI;have Wk:∀b o,G2 b=some o->b≠p->b≠Pt->H8 b=some o:=fun b o e h1 h2=>up _ _ (q3 _ _ (zL _ _ e h2) h1) h1;refine k H8 ⟨fi,dx,tl,D2,D3,s8 _ _ ag,R3,R8,⟨bs,up _ _ R5 (ee R5 JG (by intro z;cases z)),RZ,Wj.mono fun j hj e=>up _ _ e (ee e JG (by intro z;cases z))⟩,
       ⟨ds,s8 _ _ (q4 _ _ _ AO (ee AO Nt (by intro z;cases z))),R6,hd.mono fun j hj e=>s8 _ _ (q4 _ _ _ e (ee e Nt (by intro z;cases z)))⟩,
       ⟨RV,Lk,Wk _ _ Wi JD.symm (JF.not Wi (by intro ps z;cases z)),fun z hz=>Wk _ _ (RY z hz) (ee (RY z hz) JE (by intro z;cases z)) (JF.not (RY z hz) (by intro ps z;cases z)),Ir,((show (zp Lk).Perm (zp Wg) from pm.map _).trans (rH ez)),YO⟩⟩ ?_ fun b o e h1 h2=>up _ _ (d3 _ _ e h1 h2) h1
      exact R4.mono up JG
end
theorem h_:NV xs++[.int (x:Int)]=NV (xs++[x]):=by unfold NV;rw[dF];rfl
theorem qS{xs:List Nat}{i:Nat}{x:V}(h:(NV xs)[i]?=some x):∃y,xs[i]?=some y/\x=.int (y:Int):=by
 unfold NV at h;rw[bX] at h;cases e:xs[i]? with
 |none=>rw[e] at h;cases h
 |some z=>rw[e] at h;exact⟨z,rfl,(bS h).symm⟩
end pi
namespace L2
open PySem PySem.Spec PyProof.Rows
section
variable {X:Cx}
def Nu(X:Cx)(H:Hp)(d:Nat)(x y:V):Prop:=∀ (ae:List (Addr×Obj)) (s:Shared) (σ:St) (A:Around) (u v:Value),aF X ae σ H s->A.units+d<cLine->bj x u->bj y v->SeqAt.EqAt A s u v true
theorem F7:Nu X H 0 (.int i) (.int i):=by
 intro ae s σ A u v I hu rx ry;have h:=sf (A:=A) (s:=s) rx ry rfl rfl;rw[show qy (.int i) (.int i)=true by show decide (i=i)=true;simp] at h;exact h
theorem Ap(I:aF X ae σ H s)(hu:A.units+d<cLine)(rx:aR xs us)(ry:aR ys vs)(he:∀i,i<xs.length->i<ys.length->Nu X H d (xs.getD i .bi) (ys.getD i .bi)):∀j (h1:j<us.toArray.size) (h2:j<vs.toArray.size),SeqAt.EqAt A s us.toArray[j] vs.toArray[j] true:=by
 intro j h1 h2;have j1:j<xs.length:=by rw[rx.length];simpa using h1
 have j2:j<ys.length:=by rw[ry.length];simpa using h2
 have e1:xs[j]?=some (xs.getD j .bi):=by rw[cf,bZ j1];rfl
 have e2:ys[j]?=some (ys.getD j .bi):=by rw[cf,bZ j2];rfl
 obtain⟨u,MJ,ru⟩:=rx.get e1;obtain⟨v,ML,rv⟩:=ry.get e2;have eu:us.toArray[j]=u:=by
  have:us[j]?=some us.toArray[j]:=by simp at h1 |-
  rw[MJ] at this;exact(bS this).symm
 have ev:vs.toArray[j]=v:=by
  have:vs[j]?=some vs.toArray[j]:=by simp at h2 |-
  rw[ML] at this;exact(bS this).symm
 rw[eu,ev];exact he j j1 j2 ae s σ A u v I hu ru rv
theorem Dk:(List.range n).all (fun _=>true)=true:=ii.mpr fun _ _=>rfl
def Nv(X:Cx)(neg:Bool)(d:Nat):R2:=fun x y H Q=>∃p q xs ys,x=.ref p/\y=.ref q/\bz X.K H p xs/\bz X.K H q ys/\xs.length=ys.length/\(∀i,i<xs.length->i<ys.length->Nu X H d (xs.getD i .bi) (ys.getD i .bi))/\Q (.bl (!neg)) H
end
end L2
namespace pi
open PySem L2 iZ
section
variable {P:Program} {w:World} {K:PySem.W.Frag} {mg:Str->Option Value} {base:Heap}
theorem JK:aA ["self"] ["self"] (ak Da):=⟨rfl,rfl,rfl,by decide +kernel,rfl,by decide +kernel,by decide +kernel⟩
def xM(C:Addr):Sp:=fun vs H Q _=>∃ (L:Addr->Prop) (p:Addr) (n:Nat) (ts:Ts),vs=[.ref p]/\fq C H L p n ts/\Q (.int n) H
theorem F8{f C:Addr}{fd:FuncData}(F:dH K "many" "Net.many" Da f fd)(T:NT K mg C):a7 P w K mg base a9 1 f fd ["self"] (xM C):=by
 refine F.ok JK (fun vs H Q E h=>?_) (fun ce A outer s H vs Q E hr h=>?_)
 .obtain⟨L,p,n,ts,rfl,_⟩:=h;rfl
 .obtain⟨L,p,n,ts,rfl,N,k⟩:=h;obtain⟨dx,tl,ol,ds,h1,_⟩:=N.ob;refine⟨_,aj (aE (gZ (pv 0) rfl)),?_⟩;exact⟨_,rfl,p,C,dx,_,_,rfl,h1,T.cl,T.nH,yU _ _ _ _,k⟩
end
end pi
namespace L2
open PySem PySem.Spec PyProof.Rows
theorem Dl{X:Cx}:Px X .Mult (fun x y H Q=>∃i j,x=.int i/\y=.int j/\BG i j/\Q (.int (i*j)) H):=by
 intro ae s σ H x y v u Q I r1 r2 h;obtain⟨i,j,e1,e2,c,q⟩:=h;subst e1;subst e2;obtain⟨t,rfl⟩:=r1;obtain⟨t',rfl⟩:=r2;exact imul_int ⟨.int _,H,I.tok _,⟨_,rfl⟩,q⟩ c.ok
end L2
namespace pi
open PySem L2 iZ
abbrev Dm:Stmt:=fk 50
abbrev sY:Stmt:=fk 51
abbrev sZ:Stmt:=fk 53
abbrev s_:Stmt:=fk 54
abbrev Dn:Stmt:=fk 55
def qT(ns:List Nat):Nat:=ns.foldl (·*·) 1
theorem xN{ns:List Nat}{x:Nat}:qT (ns++[x])=qT ns*x:=by unfold qT;rw[List.foldl_append];rfl
theorem Do{ns:List Nat}:qT ns=pr ns:=by
 have go:∀ (l:List Nat) (a:Nat),l.foldl (·*·) a=a*pr l:=fun l=>by
  induction l with
  |nil=>intro a;exact(lN a).symm
  |cons x l ih=>intro a;rw[rG,ih];show a*x*pr l=a*(x*pr l);rw[rJ]
 unfold qT;rw[go,rP]
theorem gf.weak{H:Hp}{L L':Addr->Prop}{l:Addr}{n:Nat}{r:Nat->List Nat}(R:gf H L l n r)(h:∀a,L a->L' a):gf H L' l n r:=let ⟨bs,a,b,c⟩:=R;⟨bs,a,fun x hx=>h _ (b x hx),c⟩
theorem fq.weak{C:Addr}{H:Hp}{L L':Addr->Prop}{p:Addr}{n:Nat}{ts:Ts}(N:fq C H L p n ts)(h:∀a,L a->L' a):fq C H L' p n ts:=
 let ⟨dx,tl,ol,ds,a,l1,l2,b,c,d1,zs,d2,d3,d4,d5⟩:=N.ob
 ⟨N.qa,dx,tl,ol,ds,a,h _ l1,h _ l2,b.weak h,c.weak h,h _ d1,zs,d2,d3,fun z hz=>h _ (d4 z hz),d5⟩
def m_(H:Hp)(D:Addr)(ts:Ts)(H2:Hp):Prop:=az H H2/\∃zs:Zs,H2 D=some (.lst (zr zs))/\PO H2 zs/\zp zs=ts
theorem m_.add{H H2:Hp}{D t:Addr}{ts:Ts}{u:Int×Int}{zs:Zs}(hD:H D=none)(sm:az H H2)(h1:H2 D=some (.lst (zr zs)))(po:PO H2 zs)(ez:zp zs=ts)(ht:H2 t=none):m_ H D (ts++[u]) (upd (upd H2 t (Hv u)) D (.lst (zr zs++[.ref t]))):=by
 have nD:D≠t:=aq h1 ht;refine⟨cK (sm.trans (ai ht)) hD,zs++[(t,u)],by rw[ag,mn];rfl,?_,?_⟩
 .refine PO.putL (xs:=zr zs) ?_ (by rw[al nD];exact h1);exact(po.putN ht).append (PO.one ag)
 .rw[qP,ez];rfl
section
variable {P:Program} {w:World} {K:PySem.W.Frag} {mg:Str->Option Value} {base:Heap}
abbrev Dp(C Pt:Addr)(H:Hp)(n:Nat)(ts:Ts)(Q:VK):Prop:=∀ (p:Addr) (H':Hp),H p=none->fq C H' (fun a=>H a=none) p n ts->kD Pt H'->qR Pt H H'->Q (.ref p) H'
theorem jc:aA ["many","pairs","ties","pair","one","other"] ["many","pairs"] (ak sY):=⟨rfl,rfl,rfl,by decide +kernel,rfl,by decide +kernel,by decide +kernel⟩
def pk(C Pt:Addr):Sp:=fun vs H Q _=>∃ (n:Nat) (l:Addr) (zs:Zs),vs=[.int n,.ref l]/\H l=some (.lst (zr zs))/\PO H zs/\km n (kC (zp zs))/\kD Pt H/\Dp C Pt H n (kC (zp zs)) Q
theorem Aq{f C Pt fI:Addr}{fd Wl:FuncData}(F:dH K "pairs_net" "pairs_net" sY f fd)(B:Bl mg)(T:NT K mg C)(M:Mk K C fI)(bI:eO K Wl ["self","many","ties"] [])(GI:a7 P w K mg base a9 7 fI Wl ["self","many","ties"] (xL C Pt))(R:bQ P w K mg base a9 1 "is_row" ["thing","length"] (uT K)):
  a7 P w K mg base a9 9 f fd ["many","pairs"] (pk C Pt):=by
 refine F.ok jc (fun vs H Q E h=>?_) (fun ce A outer s H vs Q E hr h=>?_)
 .obtain⟨n,l,zs,rfl,_⟩:=h;rfl
 .obtain⟨n,l,zs,rfl,hl,po,fi,tb,k⟩:=h;have h1:bv 1 _:=hr.mono (by decide);refine⟨_,ah (a8 (cq (bW (au dz (by rfl) B.pN di (aa (pv 1) (aa (eF (v:=.ty "list") rfl B.lst rj rfl) af))))) cH aI)
   (ah (aL (i:=2) jc.nd rfl (Or.inl rfl) (bw af))
   (ah (cr dG rfl (dN (pv 1)) (aB (i:=3) jc.nd rfl (Or.inl rfl))
    (ah (a8 (cq (bW (av R h1 aG (aa (pv 3) (aa ap af))))) cH aI)
    (ah (iO (pv 3) (gb (n:=2) rfl (ba (aB (i:=4) jc.nd rfl (Or.inl rfl)) (ba (aB (i:=5) jc.nd rfl (Or.inl rfl)) eG))))
    (ah (bL (iR ir iq ip cx (pv 2) (aa (dB (aa (pv 4) (aa (pv 5) af))) af)))
    (aj (bL (iR ir iq ip cx (pv 2) (aa (dB (aa (pv 5) (aa (pv 4) af))) af))))))))
   (aj (aE (ye M GI hr rfl T.RM bI .nil aG (aa (pv 0) (aa (pv 2) af))))))),?_⟩
  have dL:2*zs.length<=256:=by have:=fi.len;rw[sK,cF] at this;exact this
  refine⟨_,rfl,_,_,_,.type "list",true,rfl,⟨rfl,uV⟩,.of (.lst hl),_,rfl,dP ?_⟩;refine⟨by show 0<=sizeLine;decide,fun D hD=>?_⟩;refine⟨_,rfl,l,rfl,⟨_,bz.of (ai hD _ _ hl)⟩,oU (K:=K) (xs:=zr zs) (fun i σ H2=>(∃x3 x4 x5,σ=[some (.int n),some (.ref l),some (.ref D),x3,x4,x5])/\m_ H D (kC ((zp zs).take i)) H2) ⟨⟨_,_,_,rfl⟩,ai hD,[],ag,PO.nil,rfl⟩ (fun i σ H2 _ z=>bz.of (z.2.1 _ _ hl)) ?_ ?_⟩
  .rintro i x σ H2 hx ⟨⟨x3,x4,x5,rfl⟩,An,ys,hy,R9,ey⟩;obtain⟨z,hz,rfl⟩:=sS hx;have hi:i<zs.length:=(cV.mp hz).1;have ha:=An _ _ (po z (cY hz));have Nw:ys.length<=256:=by rw[<-cF,ey,sK,kI,cF];lia
   refine⟨_,rfl,_,_,_,rfl,.tup ha,_,rfl,dP ?_⟩;refine⟨_,rfl,_,_,rfl,bD.of ha,rfl,_,_,rfl,_,_,rfl,rfl,?_⟩;refine⟨_,rfl,.inl ⟨rfl,_,bz.of hy⟩,_,rfl,_,rfl,by show 2<=sizeLine;decide,fun t ht=>?_⟩;refine⟨D,_,_,rfl,rfl,ai ht _ _ hy,by rw[i_];exact gi Nw (by decide),?_⟩;obtain⟨HI,YU,R_,Nq,Wm⟩:=m_.add (u:=z.2) hD An hy R9 ey ht;have Sa:YU.length=ys.length+1:=by rw[<-cF,Wm,<-ey,cz,cF];rfl
   generalize upd (upd H2 t _) D _=H3 at *;refine⟨_,rfl,.inl ⟨rfl,_,bz.of R_⟩,_,rfl,_,rfl,by show 2<=sizeLine;decide,fun t2 qU=>?_⟩;refine⟨D,_,_,rfl,rfl,ai qU _ _ R_,by rw[i_,Sa];exact gi (Nat.succ_le_succ Nw) (by decide),⟨_,_,_,rfl⟩,?_⟩;have P4:=m_.add (u:=yM z.2) hD HI R_ Nq Wm qU;have e2:(zp zs)[i]?=some z.2:=by unfold zp;rw[bX,hz];rfl
   rw[ie,e2,Option.toList_some,xE];rw[cN] at P4;exact P4
  .rintro σ H2 ⟨⟨x3,x4,x5,rfl⟩,An,ys,hy,R9,ey⟩;rw[i_,<-cF,jA] at ey;refine⟨_,rfl,_,rfl,fun px dx nx Sb Sc=>?_⟩;have sN:az H2 (upd (upd H2 dx (.own px)) px (.ins C dx [])):=(ai (o:=.own px) Sb).trans (ai (D:=px) (o:=.ins C dx []) (by rw[al Sc.symm];exact nx));have YV:(upd (upd H2 dx (.own px)) px (.ins C dx [])) px=some (.ins C dx []):=ag;have sM:=An.trans sN;generalize upd (upd H2 dx (.own px)) px (.ins C dx [])=HM at *;have TM:eD HM D n ys:=⟨by rw[ey];exact fi,sN _ _ hy,R9.same sN⟩
   refine⟨px,dx,n,D,ys,rfl,YV,TM,tb.same sM,fun H7 N7 t7 s7=>⟨rfl,?_⟩⟩;have Wn:H px=none:=An.free nx;rw[ey] at N7;exact k px H7 Wn (N7.weak fun a ha=>sM.free ha) t7 fun b o e h=>s7 _ _ (sM _ _ e) (aq e Wn) h
theorem qV{o:Option Int}{a b:Nat}(h:aV o a b=true):∃n:Nat,a<=n/\n<=b/\o=some (n:Int):=by
 cases o with
 |none=>cases h
 |some i=>
  unfold aV at h;simp at h;exact⟨i.toNat,by lia,by lia,by congr 1;lia⟩
theorem Dp.same{C Pt:Addr}{H H1:Hp}{n:Nat}{ts:Ts}{Q:VK}(k:Dp C Pt H n ts Q)(s:az H H1):Dp C Pt H1 n ts Q:=fun p H' hp N t st=>k p H' (s.free hp) (N.weak fun a ha=>s.free ha) t fun b o e h=>st _ _ (s _ _ e) h
end
inductive Sd (K:PySem.W.Frag) (H:Hp):V->Option (List (Option Int))->Prop where
 |tup {p:Addr} {xs:List V} {os:List (Option Int)} (h:H p=some (.tup xs)) (hl:xs.length=os.length) (e:∀ (i:Nat) x o,xs[i]?=some x->os[i]?=some o->Wh K H x o):Sd K H (.ref p) (some os)
 |no {x:V} {t:Value} (ty:IQ K H x t) (h:PySem.W.kitOne K t (.type "tuple")=some false):Sd K H x none
def io(os:List (Option Int)):List Nat:=os.map fun o=>(o.getD 0).toNat
def box:Option (List (Option Int))->Option (List Nat)
 |none=>none
 |some os=>if decide (1<=os.length)&&(decide (os.length<=5)&&(os.all (fun o=>aV o 2 8)&&decide (pr (io os)<=32))) then some (io os) else none
theorem Dq{os:List (Option Int)}{ns:List Nat}(h:box (some os)=some ns):ns=io os/\1<=ns.length/\ns.length<=5/\(∀x∈ns,2<=x/\x<=8)/\pr ns<=32/\os=ns.map fun (n:Nat)=>some (n:Int):=by
 unfold box at h;dsimp only at h;by_cases c:(decide (1<=os.length)&&(decide (os.length<=5)&&(os.all (fun o=>aV o 2 8)&&decide (pr (io os)<=32))))=true
 .rw[am c] at h;simp only[gj,lE,ii] at c;obtain⟨c1,c2,c3,c4⟩:=c;obtain rfl:=bS h;have ex:∀o∈os,∃n:Nat,2<=n/\n<=8/\o=some (n:Int):=fun o ho=>qV (a:=2) (b:=8) (c3 o ho);refine⟨rfl,by unfold io;rw[bp];exact c1,by unfold io;rw[bp];exact c2,fun x hx=>?_,c4,?_⟩
  .obtain⟨o,ho,rfl⟩:=a_.mp hx;obtain⟨n,n1,n2,rfl⟩:=ex o ho;exact⟨by show 2<=(n:Int).toNat;lia,by show (n:Int).toNat<=8;lia⟩
  .unfold io;rw[ij];conv=>lhs;rw[<-iG os]
   refine mG fun o ho=>?_;obtain⟨n,n1,n2,rfl⟩:=ex o ho;show some (n:Int)=some (((n:Int).toNat:Nat):Int);exact congrArg some (by lia)
 .rw[ao c] at h;cases h
section
variable {P:Program} {w:World} {K:PySem.W.Frag} {mg:Str->Option Value} {base:Heap}
theorem tf:aA ["numbers","result","number"] ["numbers"] (ak Dn):=⟨rfl,rfl,rfl,by decide +kernel,rfl,by decide +kernel,by decide +kernel⟩
def pq(K:PySem.W.Frag):Sp:=fun vs H Q _=>∃ (a:Addr) (ns:List Nat),vs=[.ref a]/\bD K H a (NV ns)/\(∀x∈ns,x<=1000)/\Q (.int (pr ns)) H
theorem F9{f:Addr}{fd:FuncData}(F:dH K "product" "product" Dn f fd):a7 P w K mg base a9 1 f fd ["numbers"] (pq K):=by
 refine F.ok tf (fun vs H Q E h=>?_) (fun ce A outer s H vs Q E hr h=>?_)
 .obtain⟨a,ns,rfl,_⟩:=h;rfl
 .obtain⟨a,ns,rfl,hS,hx,k⟩:=h;refine⟨_,ah (aL (i:=1) tf.nd rfl (Or.inl rfl) ap)
   (ah (cr dG rfl (lU (pv 0)) (aB (i:=2) tf.nd rfl (Or.inl rfl)) (aj (rX (i:=1) tf.nd rfl (Or.inl rfl) (pv 2) Dl)))
   (aj (aE (pv 1)))),?_⟩
  refine⟨_,rfl,a,rfl,⟨_,hS⟩,jl (K:=K) (xs:=NV ns) (fun i σ H2=>H2=H/\∃x,σ=[some (.ref a),some (.int (qT (ns.take i))),x]) ⟨rfl,_,rfl⟩ (fun i σ H2 _ z=>by rw[z.1];exact hS) ?_ ?_⟩
  .rintro i x σ H2 rW ⟨rfl,y,rfl⟩;obtain⟨v,hv,rfl⟩:=qS rW;have h1:=hx v (cY hv);refine⟨_,rfl,_,rfl,_,_,rfl,rfl,.inr ⟨by lia,by lia⟩,rfl,some (.int v),?_⟩;have tk:ns.take (i+1)=ns.take i++[v]:=by rw[ie,hv];rfl
   rw[tk,xN];rfl
  .rintro σ H2 ⟨rfl,x,rfl⟩;rw[bF,jA,Do];exact⟨_,rfl,k⟩
end
end pi
namespace iZ
def HK(m:Nat)(ns:List Nat)(i:Nat):List (Nat×Nat):=(List.range i).flatMap fun j=>p7 m (pr (ns.take j)) (ns.getD j 0)
theorem jL{α:Type}{f:Nat->List α}{n:Nat}:(List.range (n+1)).flatMap f=(List.range n).flatMap f++f n:=by
 rw[kJ,List.flatMap_append];simp
theorem ju:∀ {ns:List Nat} {x:Nat},pr (ns++[x])=pr ns*x
 |[],x=>by show x*1=1*x;lia
 |n::ns,x=>by show n*pr (ns++[x])=n*pr ns*x;rw[ju,rJ]
theorem Dr{m:Nat}:∀ {ns:List Nat} {st:Nat},bx m st ns=(List.range ns.length).flatMap fun j=>p7 m (st*pr (ns.take j)) (ns.getD j 0)
 |[],st=>rfl
 |n::ns,st=>by
  show p7 m st n++bx m (st*n) ns=_;rw[cZ,rp,List.flatMap_cons,Dr (ns:=ns)];congr 1
  .show p7 m st n=p7 m (st*1) n;rw[lN]
  .rw[List.flatMap_map];congr 1;funext j;show _=p7 m (st*(n*pr (ns.take j))) (ns.getD j 0);rw[rJ]
end iZ
namespace pi
open PySem L2 iZ
section
variable {P:Program} {w:World} {K:PySem.W.Frag} {mg:Str->Option Value} {base:Heap}
theorem pz{os:List (Option Int)}(h:(decide (1<=os.length)&&(decide (os.length<=5)&&(os.all (fun o=>aV o 2 8)&&decide (pr (io os)<=32))))=false):box (some os)=none:=by
 unfold box;dsimp only;rw[h];rfl
theorem JM{os:List (Option Int)}(h:(decide (1<=os.length)&&(decide (os.length<=5)&&(os.all (fun o=>aV o 2 8)&&decide (pr (io os)<=32))))=true):box (some os)=some (io os):=by
 unfold box;dsimp only;rw[h];rfl
theorem Sd.nums{H:Hp}{p:Addr}{os:List (Option Int)}{xs:List V}(h:H p=some (.tup xs))(hl:xs.length=os.length)(e:∀ (i:Nat) x o,xs[i]?=some x->os[i]?=some o->Wh K H x o)(ha:os.all (fun o=>aV o 2 8)=true):xs=NV (io os)/\∀x∈io os,2<=x/\x<=8:=by
 have ex:∀o∈os,∃n:Nat,2<=n/\n<=8/\o=some (n:Int):=fun o ho=>qV (a:=2) (b:=8) (ii.mp ha o ho);refine⟨v_ fun i=>?_,fun x hx=>?_⟩
 .unfold NV io;rw[bX,bX];cases c:xs[i]? with
  |none=>
   have:os[i]?=none:=by
    rw[A_] at c |-;lia
   rw[this];rfl
  |some x=>
   have hi:i<os.length:=by have:=(cV.mp c).1;lia
   have c2:os[i]?=some os[i]:=bZ hi;obtain⟨n,n1,n2,e3⟩:=ex os[i] (d7 hi);have wh:=e i x _ c c2;rw[c2,e3] at *;obtain rfl:=mq wh;show some (V.int (n:Int))=some (V.int (((n:Int).toNat:Nat):Int));rw[wb]
 .obtain⟨o,ho,rfl⟩:=a_.mp hx;obtain⟨n,n1,n2,rfl⟩:=ex o ho;exact⟨by show 2<=(n:Int).toNat;lia,by show (n:Int).toNat<=8;lia⟩
theorem uX:aA ["sides","side"] ["sides"] (ak sZ):=⟨rfl,rfl,rfl,by decide +kernel,rfl,by decide +kernel,by decide +kernel⟩
def pA(K:PySem.W.Frag)(CS:Addr):Sp:=fun vs H Q E=>∃ (x:V) (o:Option (List (Option Int))),vs=[x]/\Sd K H x o/\(box o=none->E (.ref CS) none H)/\(∀ns,box o=some ns->Q .bi H)
theorem Ar{f CS:Addr}{fd:FuncData}(F:dH K "check_sides" "check_sides" sZ f fd)(B:Bl mg)(e:Er K mg "NoShape" CS)(gM:∃t,mg "MOST_SIDES"=some (.int 5 t))(gS:∃t,mg "SHORTEST_SIDE"=some (.int 2 t))(gL:∃t,mg "LONGEST_SIDE"=some (.int 8 t))(gH:∃t,mg "MOST_HOUSES"=some (.int 32 t))(W:bQ P w K mg base a9 2 "is_whole_within" ["thing","least","most"] (i9 K))(PR:bQ P w K mg base a9 1 "product" ["numbers"] (pq K)):a7 P w K mg base (d0 P w) 3 f fd ["sides"] (pA K CS):=by
 obtain⟨tM,gM⟩:=gM;obtain⟨tS,gS⟩:=gS;obtain⟨tL,gL⟩:=gL;obtain⟨tH,gH⟩:=gH;refine F.Ez uX (fun vs H Q E h=>?_) (fun ce A outer s H vs Q E hr h=>?_)
 .obtain⟨x,o,rfl,_⟩:=h;rfl
 .obtain⟨x,o,rfl,sd,k1,k2⟩:=h;have h1:bv 1 _:=hr.mono (by decide);refine⟨_,ah (a8 (PW.pt (oQ (cq (bW (au dz (by rfl) B.pN di (aa (pv 0) (aa (eF (v:=.ty "tuple") rfl B.tup mD rfl) af))))) (j7 (cq (bW (av W hr aG (aa (au aD (by rfl) B.len cG (aa (pv 0) af)) (aa ap (aa (bV (v:=.int 5) rfl gM ⟨_,rfl⟩) af))))))))) (aj (gy (q:=fun H1=>E (.ref CS) none H1) rfl e.ok rfl e.at_ (aa j6 af) (fun _ _ _ _ _ _ _ I m q=>gw I m q))) aI)
   (ah (cr IM rfl (lU (pv 0)) (aB (i:=1) uX.nd rfl (Or.inl rfl)) (aj (a8 (cq (bW (av W hr aG (aa (pv 1) (aa (bV (v:=.int 2) rfl gS ⟨_,rfl⟩) (aa (bV (v:=.int 8) rfl gL ⟨_,rfl⟩) af)))))) (aj (gy (q:=fun H1=>E (.ref CS) none H1) rfl e.ok rfl e.at_ (aa j6 af) (fun _ _ _ _ _ _ _ I m q=>gw I m q))) aI)))
   (aj (a8 (aM qt (av PR h1 aG (aa (pv 0) af)) (bV (v:=.int 32) rfl gH ⟨_,rfl⟩) (aQ _)) (aj (gy (q:=fun H1=>E (.ref CS) none H1) rfl e.ok rfl e.at_ (aa j6 af) (fun _ _ _ _ _ _ _ I m q=>gw I m q))) aI))),?_⟩
  cases sd with
  |no ty h=>exact⟨_,rfl,_,_,_,_,false,rfl,⟨rfl,h⟩,ty,_,rfl,fK ⟨by show 1<=sizeLine;decide,k1 rfl⟩⟩
  |@tup p xs os hp hl ew=>
   refine⟨_,rfl,_,_,_,.type "tuple",true,rfl,⟨rfl,yR⟩,.of (.tup hp),_,rfl,dP ?_⟩;refine⟨_,rfl,p,xs,rfl,.inr (bD.of hp),_,_,1,5,rfl,.int _,_,rfl,?_⟩;cases hw:aV (some ((xs.length:Nat):Int)) 1 5 with
   |false=>
    refine fK ⟨by show 1<=sizeLine;decide,k1 (pz ?_)⟩;unfold aV at hw;simp at hw;by_cases c:1<=os.length
    .rw[bH c,dE (show ¬ os.length<=5 by lia)];rfl
    .rw[dE c];rfl
   |true=>
    have Ag:1<=os.length/\os.length<=5:=by unfold aV at hw;simp at hw;lia
    refine dP ⟨_,rfl,p,rfl,⟨_,bD.of hp⟩,jl (K:=K) (xs:=xs) (fun i σ H2=>H2=H/\(∃v,σ=[some (.ref p),v])/\∀j o,j<i->os[j]?=some o->aV o 2 8=true) ⟨rfl,⟨_,rfl⟩,fun j o hj=>absurd hj (by lia)⟩ (fun i σ H2 _ z=>by rw[z.1];exact bD.of hp) ?_ ?_⟩
    .rintro i v σ H2 hv ⟨rfl,⟨v',rfl⟩,nA⟩;have hi:i<os.length:=by have:=(cV.mp hv).1;lia
     have ho:os[i]?=some os[i]:=bZ hi;refine⟨_,rfl,_,_,2,8,rfl,ew i v _ hv ho,_,rfl,?_⟩;cases hc:aV os[i] 2 8 with
     |false=>
      refine fK ⟨by show 1<=sizeLine;decide,k1 (pz ?_)⟩;have:os.all (fun o=>aV o 2 8)=false:=by
       rw[List.all_eq_false];exact⟨os[i],d7 hi,by rw[hc];decide⟩
      rw[bH Ag.1,bH Ag.2,this];rfl
     |true=>
      refine dP ⟨rfl,⟨_,rfl⟩,fun j o hj Se=>?_⟩;by_cases c:j=i
      .subst c;rw[ho] at Se;obtain rfl:=bS Se;exact hc
      .exact nA j o (by lia) Se
    .rintro σ H2 ⟨rfl,⟨v',rfl⟩,nA⟩;have ha:os.all (fun o=>aV o 2 8)=true:=ii.mpr fun o ho=>by
      obtain⟨j,hj,rfl⟩:=rB.mp ho;exact nA j _ (by lia) (bZ hj)
     obtain⟨ex,hx⟩:=Sd.nums hp hl ew ha;subst ex;refine⟨_,rfl,p,io os,rfl,bD.of hp,fun x rW=>by have:=hx x rW;lia,_,_,rfl,rfl,_,rfl,?_⟩;refine ei (fun c=>?_) (fun c=>?_)
     .have c':(32:Int)<((pr (io os):Nat):Int):=by simpa using c
      refine⟨by show 1<=sizeLine;decide,k1 (pz ?_)⟩;rw[bH Ag.1,bH Ag.2,ha,dE (by lia)];rfl
     .have c':¬ (32:Int)<((pr (io os):Nat):Int):=by simpa using c
      exact k2 _ (JM (by rw[bH Ag.1,bH Ag.2,ha,bH (by lia)];rfl))
end
theorem fN{A B:Prop}{b:Bool}(hb:b=true)(h:A):if b=true then A else B:=by rw[am hb];exact h
theorem eh{A B:Prop}{b:Bool}(hb:b=false)(h:B):if b=true then A else B:=by rw[ao (by rw[hb];decide)];exact h
theorem Ds{m st n:Nat}:p7 (m+1) st n=p7 m st n++(if m / st % n+1<n then [(m,m+st)] else []):=by
 unfold p7;rw[kJ,iy,dF,fF];by_cases c:m / st % n+1<n
 .rw[am (bH c),am c];rfl
 .rw[ao (by simpa using c),ao c];rfl
theorem ku:∀ {ns:List Nat} {i:Nat},(∀x∈ns,1<=x)->pr (ns.take i)<=pr ns
 |[],i,_=>by rw[List.take_nil];exact aO _
 |n::ns,0,h=>by
  show 1<=n*pr ns;have:∀ {l:List Nat},(∀x∈l,1<=x)->1<=pr l:=fun {l}=>by
   induction l with
   |nil=>intro _;exact aO _
   |cons x l ih=>intro hl;exact lM (hl x cg) (ih fun y hy=>hl y (b_ _ hy))
  exact this (l:=n::ns) h
 |n::ns,i+1,h=>by
  show n*pr (ns.take i)<=n*pr ns;exact lB n (ku fun x hx=>h x (b_ _ hx))
section
variable {P:Program} {w:World} {K:PySem.W.Frag} {mg:Str->Option Value} {base:Heap}
theorem gG:aA ["sides","pairs","step","side","house"] ["sides"] (ak s_):=⟨rfl,rfl,rfl,by decide +kernel,rfl,by decide +kernel,by decide +kernel⟩
def pB:Sp:=fun vs H Q _=>∃ (a:Addr) (ns:List Nat),vs=[.ref a]/\H a=some (.tup (NV ns))/\ns.length<=5/\(∀x∈ns,2<=x/\x<=8)/\pr ns<=32/\∀ (r:Addr) (zs:Zs) (H':Hp),az H H'->H r=none->H' r=some (.lst (zr zs))->PO H' zs->zp zs=(hX ns).map n5->Q (.ref r) H'
theorem As{f:Addr}{fd:FuncData}(F:dH K "box_pairs" "box_pairs" s_ f fd)(B:Bl mg)(PR:bQ P w K mg base a9 1 "product" ["numbers"] (pq K)):a7 P w K mg base a9 2 f fd ["sides"] pB:=by
 refine F.ok gG (fun vs H Q E h=>?_) (fun ce A outer s H vs Q E hr h=>?_)
 .obtain⟨a,ns,rfl,_⟩:=h;rfl
 .obtain⟨a,ns,rfl,ha,hl,hn,hm,k⟩:=h;refine⟨_,ah (aL (i:=1) gG.nd rfl (Or.inl rfl) (bw af))
   (ah (aL (i:=2) gG.nd rfl (Or.inl rfl) ap)
   (ah (cr dG rfl (lU (pv 0)) (aB (i:=3) gG.nd rfl (Or.inl rfl))
    (ah (cr dG rfl (bh rfl B.range (aa (av PR hr aG (aa (pv 0) af)) af)) (aB (i:=4) gG.nd rfl (Or.inl rfl))
     (aj (a8 (aM yd (aP cj (aP gY (aP nQ (pv 4) (pv 2)) (pv 3)) ap) (pv 3) (aQ _))
      (aj (bL (iR ir iq ip cx (pv 1) (aa (dB (aa (pv 4) (aa (aP cj (pv 4) (pv 2)) af))) af)))) aI)))
    (aj (rX (i:=2) gG.nd rfl (Or.inl rfl) (pv 3) Dl))))
   (aj (aE (pv 1))))),?_⟩
  refine⟨by show 0<=sizeLine;decide,fun D hD=>?_⟩;have s0:=ai (o:=.lst []) hD;have Wo:∀x∈ns,1<=x:=fun x hx=>by have:=hn x hx;lia
  refine⟨_,rfl,a,rfl,⟨_,bD.of (s0 _ _ ha)⟩,jl (K:=K) (xs:=NV ns) (fun i σ H2=>(∃x3 x4,σ=[some (.ref a),some (.ref D),some (.int ((pr (ns.take i):Nat):Int)),x3,x4])/\m_ H D ((HK (pr ns) ns i).map n5) H2) ⟨⟨_,_,rfl⟩,s0,[],ag,PO.nil,rfl⟩ (fun i σ H2 _ z=>bD.of (z.2.1 _ _ ha)) ?_ ?_⟩
  .rintro i x σ H2 hx ⟨⟨x3,x4,rfl⟩,P2⟩;obtain⟨n,hv,rfl⟩:=qS hx;have hi:i<ns.length:=(cV.mp hv).1;have Wp:=hn n (cY hv);have eV:=ku (ns:=ns) (i:=i) Wo;have YW:1<=pr (ns.take i):=by
    have:=ku (ns:=ns.take i) (i:=0) fun x hx=>Wo x (on hx);exact this
   have gd:ns.getD i 0=n:=by rw[cf,hv];rfl
   have tk:ns.take (i+1)=ns.take i++[n]:=by rw[ie,hv];rfl
   rw[tk,ju];have eB:HK (pr ns) ns (i+1)=HK (pr ns) ns i++p7 (pr ns) (pr (ns.take i)) n:=by unfold HK;rw[jL,gd]
   rw[eB];generalize pr (ns.take i)=st at *;refine⟨_,rfl,a,ns,rfl,bD.of (P2.1 _ _ ha),fun x hx=>by have:=hn x hx;lia,?_⟩;refine⟨((pr ns:Nat):Int),rfl,by lia,by lia,cw (n:=pr ns) (lo:=0) (fun j σ H4=>(∃x4,σ=[some (.ref a),some (.ref D),some (.int (st:Int)),some (.int (n:Int)),x4])/\m_ H D ((HK (pr ns) ns i++p7 j st n).map n5) H4) ⟨⟨_,rfl⟩,by rw[show p7 0 st n=[] from rfl,oG];exact P2⟩ ?_ ?_⟩
   .rintro j σ H4 hj ⟨⟨YX,rfl⟩,zL,Wq,Qa,Wr,Sf⟩;have YY:((0:Int)+(j:Int)) / (st:Int) % (n:Int)+1=(((j / st % n+1:Nat)):Int):=by rw[dv];rfl
    refine⟨_,rfl,_,rfl,_,_,rfl,rfl,⟨by lia,by lia⟩,_,rfl,_,_,rfl,rfl,(by show (0:Int)<(n:Int);lia),_,_,rfl,rfl,_,rfl,_,_,rfl,rfl,_,rfl,?_⟩;rw[YY,Ds];by_cases c:j / st % n+1<n
    .rw[am c];refine fN (bH (by lia)) ?_;rw[dv];refine⟨_,rfl,.inl ⟨rfl,_,bz.of Qa⟩,_,rfl,_,rfl,_,rfl,_,_,rfl,rfl,by show 2<=sizeLine;decide,fun t ht=>?_⟩;have Sg:Wq.length<=1000:=by
      have e:=congrArg List.length Sf;rw[cF,bp,cz] at e;have z1:∀m' s' n',(p7 m' s' n').length<=m':=fun m' s' n'=>by unfold p7;rw[bp];exact bq (mE _ _) (by simp)
      have z2:∀i',(HK (pr ns) ns i').length<=i'*32:=fun i'=>by
       induction i' with
       |zero=>exact aO _
       |succ i' ih=>unfold HK at ih |-;rw[jL,cz,Nat.succ_mul];have:=z1 (pr ns) (pr (ns.take i')) (ns.getD i' 0);lia
      have:=z2 i;have:=z1 j st n;lia
     refine⟨D,_,_,rfl,rfl,ai ht _ _ Qa,by rw[i_];exact gi Sg (by decide),⟨_,rfl⟩,?_⟩;have P5:=m_.add (u:=n5 (j,j+st)) hD zL Qa Wr Sf ht;rw[<-cN,dF (l₂:=[(j,j+st)])];exact P5
    .rw[ao c,oG];refine eh (dE (by lia)) ⟨⟨_,rfl⟩,zL,Wq,Qa,Wr,Sf⟩
   .rintro σ H4 ⟨⟨YX,rfl⟩,P4⟩;exact⟨_,rfl,_,rfl,_,_,rfl,rfl,.inr ⟨by lia,by lia⟩,⟨_,_,rfl⟩,P4⟩
  .rintro σ H2 ⟨⟨x3,x4,rfl⟩,An,zs,hz,po,ez⟩;refine⟨_,rfl,k D zs H2 An hD hz po ?_⟩;rw[ez,bF];unfold hX HK;rw[Dr];simp only[rP]
theorem JN:aA ["sides"] ["sides"] (ak Dm):=⟨rfl,rfl,rfl,by decide +kernel,rfl,by decide +kernel,by decide +kernel⟩
def xO(K:PySem.W.Frag)(C Pt CS:Addr):Sp:=fun vs H Q E=>∃ (x:V) (o:Option (List (Option Int))),vs=[x]/\Sd K H x o/\kD Pt H/\(box o=none->E (.ref CS) none H)/\(∀ns,box o=some ns->Dp C Pt H (pr ns) (kC ((hX ns).map n5)) Q)
theorem F_{f C Pt CS:Addr}{fd:FuncData}(F:dH K "box_net" "box_net" Dm f fd)(YZ:bQ P w K mg base (d0 P w) 3 "check_sides" ["sides"] (pA K CS))(PN:bQ P w K mg base a9 9 "pairs_net" ["many","pairs"] (pk C Pt))(PR:bQ P w K mg base a9 1 "product" ["numbers"] (pq K))(BP:bQ P w K mg base a9 2 "box_pairs" ["sides"] pB):
  a7 P w K mg base (d0 P w) 10 f fd ["sides"] (xO K C Pt CS):=by
 refine F.Ez JN (fun vs H Q E h=>?_) (fun ce A outer s H vs Q E hr h=>?_)
 .obtain⟨x,o,rfl,_⟩:=h;rfl
 .obtain⟨x,o,rfl,sd,tb,k1,k2⟩:=h;have h1:bv 1 _:=hr.mono (by decide);have h2:bv 2 _:=hr.mono (by decide);have h3:bv 3 _:=hr.mono (by decide);refine⟨_,ah (bL (av YZ h3 (o0 (E':=E) fun _ _ _ z=>z) (aa (pv 0) af)))
   (aj (aE (av PN hr aG (aa (av PR h1 aG (aa (pv 0) af)) (aa (av BP h2 aG (aa (pv 0) af)) af))))),?_⟩
  refine⟨_,rfl,x,o,rfl,sd,k1,fun ns hb=>?_⟩;cases sd with
  |no ty h=>cases hb
  |@tup p xs os hp hl ew=>
   obtain⟨e1,l1,l2,hn,hm,eo⟩:=Dq hb;have ha:os.all (fun o=>aV o 2 8)=true:=ii.mpr fun o ho=>by
    rw[eo] at ho;obtain⟨n,K6,rfl⟩:=a_.mp ho;have:=hn n K6;unfold aV;simp;lia
   obtain⟨ex,_⟩:=Sd.nums hp hl ew ha;rw[<-e1] at ex;subst ex;refine⟨_,rfl,p,ns,rfl,bD.of hp,fun x hx=>by have:=hn x hx;lia,?_⟩;refine⟨_,rfl,p,ns,rfl,hp,l2,hn,hm,fun r zs H2 s2 yZ tj po ez=>?_⟩;refine⟨pr ns,r,zs,rfl,tj,po,?_,tb.same s2,?_⟩
   .rw[ez];exact C4 (fun x hx=>(hn x hx).1) (by rintro rfl;simp at l1) hm
   .rw[ez];exact(k2 ns hb).same s2
end
end pi
namespace L2
open PySem PySem.Spec PyProof.Rows
section
variable {X:Cx}
def y4:R2:=fun x y H Q=>∃a b xs ys,x=.ref a/\y=.ref b/\H a=some (.tup xs)/\H b=some (.tup ys)/\xs.length+ys.length<=sizeLine/\∀r H',az H H'->H' r=some (.tup (xs++ys))->Q (.ref r) H'
theorem fz:jm X (binaryOp .Add) y4:=by
 intro ae s σ H x y v u Q I rx ry h;obtain⟨a,b,xs,ys,rfl,rfl,ha,hb,hz,q⟩:=h;cases rx;cases ry;obtain⟨its,r1,p1,_⟩:=I.tuple (bD.of ha);obtain⟨pW,r2,p2,_⟩:=I.tuple (bD.of hb);obtain⟨⟨cls,dd,data,sl⟩,ho,hc,n,hd⟩:=id p1;obtain⟨⟨Y0,Sh,data2,Ha⟩,Lp,Ws,n2,HL⟩:=id p2;simp only at hc hd Ws HL;subst hc hd Ws HL;have e:its.toArray++pW.toArray=(its++pW).toArray:=by simp
 by_cases hv:xs=[]
 .subst hv;have hi:its=[]:=r1.nW.mpr rfl;exact concat_meets ⟨_,ho,rfl⟩ ⟨_,Lp,rfl⟩ wC seq_tuple_add vG vB (vz _ _)
   (tuple_addW0 a b its.toArray pW.toArray n n2 dd Sh sl Ha (by simp[hi])) ⟨ho,Lp,⟨.ref b,H,I,rfl,q b H (az.refl _) hb⟩⟩
 .have hi:its≠[]:=fun z=>hv (r1.nW.mp z);by_cases hw:ys=[]
  .subst hw;have hj:pW=[]:=r2.nW.mpr rfl;exact concat_meets ⟨_,ho,rfl⟩ ⟨_,Lp,rfl⟩ wC seq_tuple_add vG vB (vz _ _)
    (tuple_addW1 a b its.toArray pW.toArray n n2 dd Sh sl Ha (by simpa using hi) (by simp[hj])) ⟨ho,Lp,⟨.ref a,H,I,rfl,q a H (az.refl _) (by rw[oG];exact ha)⟩⟩
  .have hj:pW≠[]:=fun z=>hw (r2.nW.mp z);refine concat_meets ⟨_,ho,rfl⟩ ⟨_,Lp,rfl⟩ wC seq_tuple_add vG vB (vz _ _)
    (tuple_addW2 a b its.toArray pW.toArray n n2 dd Sh sl Ha (by simpa using hi) (by simpa using hj) (by rw[bU,bU,<-r1.length,<-r2.length];exact hz)) ⟨ho,Lp,?_⟩
   rw[e];have nf:=I.bA.fresh (aO s.heap.objs.size);refine⟨.ref s.heap.objs.size,_,I.laid (t':=s.toks) (o:=.tup (xs++ys)) (fun b ob q=>cE _ q) (aO _) ?_,rfl,q _ _ (ai nf) ag⟩;exact⟨by rw[cz];exact hz,_,r1.append r2,iI.new _ _⟩
theorem ll{prog:Program}{w:World}{A:Around}{E:Value->Shared->Prop}{s:Shared}{t sl:Addr}{items:Array Value}{vl vu:Value}{lo hi:Option Int}{Q:Value->Shared->Prop}(ht:IsTup s.heap t items)(hs:s.heap.IsSliceOf sl vl vu .none)(pl:IsPart vl lo)(pu:IsPart vu hi)(hw:HT.eH items.size 0 lo=0/\HT.eH items.size items.size hi=items.size)(h:Q (.ref t) s):wpAny (model prog w) A (getItem (.ref t) (.ref sl)) Q E s:=by
 obtain⟨os,Eu,Py,L6⟩:=id hs;have QL:s.TypeIs (.ref sl) "slice":=⟨os,Eu,Py⟩
 unfold getItem;try with_reducible refine iB ?_
 first|refine aw (wpAny_pure ?_)|skip
 refine aw (wpAny_sequenceKey ht.typeIs (by decide) ?_);refine aw (lw (name:=Str.ofString "__getitem__") ht.typeIs qh
  (jV qh ht.typeIs entry_tuple_getitem ?_ (args_tuple_getitem _ _)))
 show wpAny _ _ (Builtin.Tuple.tupleItemsOf (.ref t) >>= _) _ _ s;refine aw (tupleItemsOf_ ht ?_);refine aw (wpAny_typeOf QL ?_);rw[am (by decide)];refine aw (HT.gv hs pl pu ?_);have Si:(((HT.eH items.size 0 lo:Nat):Int)==0&&(1:Int)==1&&(HT.eH items.size items.size hi-HT.eH items.size 0 lo)==items.size)=true:=by
  rw[hw.1,hw.2];simp
 show wpAny _ _ (if (((HT.eH items.size 0 lo:Nat):Int)==0&&(1:Int)==1&&(HT.eH items.size items.size hi-HT.eH items.size 0 lo)==items.size)=true then _ else _) _ _ s;rw[am Si];refine aw (Q:=_) (m:=Builtin.Tuple.tupleIsExact (.ref t)) ?_;unfold Builtin.Tuple.tupleIsExact;refine aw (wpAny_typeOf ht.typeIs ?_);refine wpAny_pure ?_;rw[am (by decide)];exact aw (f9 (wpAny_pure ⟨_,rfl,wpAny_pure h⟩))
def qc:V->Option Int->Option Int->Hp->VK->Prop:=fun x lo hi H Q=>∃a xs,x=.ref a/\H a=some (.tup xs)/\∀r H',az H H'->H' r=some (.tup (pV xs lo hi))->Q (.ref r) H'
theorem Dt{xs:List V}{lo hi:Option Int}(hw:HT.eH xs.length 0 lo=0/\HT.eH xs.length xs.length hi=xs.length):pV xs lo hi=xs:=by
 unfold pV;rw[hw.1,hw.2,Nat.sub_zero,wA,jA]
theorem dY:QM X qc:=by
 intro ae s σ H x v vl vu lo hi sl Q I rx hs pl pu h;obtain⟨a,xs,rfl,hx,q⟩:=h;by_cases hw:HT.eH xs.length 0 lo=0/\HT.eH xs.length xs.length hi=xs.length
 .cases rx;obtain⟨its,r,ht,hz⟩:=I.tuple (bD.of hx);have dL:its.toArray.size=xs.length:=by rw[bU];exact r.length.symm
  refine⟨"tuple",_,qh.lookup,ht.typeIs,?_⟩;exact ll ht hs pl pu (by rw[dL];exact hw) ⟨.ref a,H,I,rfl,q a H (az.refl _) (by rw[Dt hw];exact hx)⟩
 .exact ID ae s σ H _ v vl vu lo hi sl Q I rx hs pl pu ⟨a,xs,rfl,bD.of hx,hw,fun p hp=>q p _ (ai hp) ag⟩
end
end L2
namespace iZ
def dh:List Nat->Nat->List Nat
 |[],_=>[]
 |n::ns,h=>(h % n)::dh ns (h / n)
theorem fZ:∀ {ns:List Nat} {h:Nat},(dh ns h).length=ns.length
 |[],_=>rfl
 |n::ns,h=>by show (dh ns (h / n)).length+1=ns.length+1;rw[fZ]
theorem pC:∀ {ns:List Nat} {n h:Nat},dh (ns++[n]) h=dh ns h++[h / pr ns % n]
 |[],n,h=>by show [h % n]=[h / 1 % n];rw[lO]
 |m::ns,n,h=>by
  show (h % m)::dh (ns++[n]) (h / m)=(h % m)::(dh ns (h / m)++[h / (m*pr ns) % n]);rw[pC,og]
theorem Du:∀ {ns:List Nat} {h i:Nat},(∀x∈ns,0<x)->i<ns.length->(dh ns h).getD i 0<ns.getD i 0
 |[],_,_,_,hi=>absurd hi (jC _)
 |n::ns,h,0,hn,_=>iH h (hn n cg)
 |n::ns,h,i+1,hn,hi=>Du (ns:=ns) (h:=h / n) (i:=i) (fun x hx=>hn x (b_ _ hx)) (rn hi)
def Sj:List Nat->List Nat->Nat
 |n::ns,d::ds=>d+n*Sj ns ds
 |_,_=>0
theorem tm:∀ {ns:List Nat} {h:Nat},h<pr ns->Sj ns (dh ns h)=h
 |[],h,hh=>by have hh:h<1:=hh;show 0=h;lia
 |n::ns,h,hh=>by
  show h % n+n*Sj ns (dh ns (h / n))=h;rw[tm (vO hh),Nat.mod_add_div]
def qW(ns:List Nat)(a b:Nat):Option Nat:=(List.range ns.length).find? fun i=>decide ((dh ns a).getD i 0≠(dh ns b).getD i 0)
theorem At{n:Nat}{f:Nat->Bool}:(List.range (n+1)).find? f=if f 0=true then some 0 else ((List.range n).find? fun i=>f (i+1)).map (·+1):=by
 rw[rp,List.find?_cons];split
 .next h=>rw[am h]
 .next h=>
  rw[ao (by rw[h];decide),List.find?_map];rfl
theorem y6{n:Nat}{ns:List Nat}{a b:Nat}:qW (n::ns) a b=if a % n=b % n then (qW ns (a / n) (b / n)).map (·+1) else some 0:=by
 unfold qW;rw[cZ,At];show (if decide (a % n≠b % n)=true then _ else _)=_;by_cases c:a % n=b % n
 .rw[ao (by simp[c]),am c];rfl
 .rw[am (by simpa using c),ao c]
def ED:List Nat->Nat->Nat->Nat->Prop
 |[],_,_,_=>False
 |n::_,0,a,b=>a % n+1<n/\b=a+1
 |n::ns,k+1,a,b=>a % n=b % n/\ED ns k (a / n) (b / n)
theorem Au:∀ {ns:List Nat} {a b:Nat},(∀x∈ns,0<x)->(U ns a b↔∃k,ED ns k a b)
 |[],a,b,_=>⟨fun h=>h.elim,fun ⟨k,h⟩=>h.elim⟩
 |n::ns,a,b,hn=>by
  rw[sQ hn,Au fun x hx=>hn x (b_ _ hx)];constructor
  .rintro(h|⟨e,k,h⟩)
   .exact⟨0,h⟩
   .exact⟨k+1,e,h⟩
  .rintro⟨k,h⟩;cases k with
   |zero=>exact .inl h
   |succ k=>exact .inr ⟨h.1,k,h.2⟩
theorem Dv:∀ {ns:List Nat} {k a b:Nat},ED ns k a b->k<ns.length
 |n::ns,0,a,b,_=>rM _
 |n::ns,k+1,a,b,h=>Nat.succ_lt_succ (Dv h.2)
theorem Dw{n a b s:Nat}(hn:0<n):(a % n=b % n/\b / n=a / n+s)↔b=a+n*s:=by
 constructor
 .rintro⟨h1,h2⟩;rw[<-iA b n,h2,<-h1,oK];have:=iA a n;lia
 .rintro rfl;exact⟨by rw[A0],by rw[Nat.add_mul_div_left _ _ hn]⟩
theorem Dx:∀ {ns:List Nat} {k a b:Nat},(∀x∈ns,0<x)->k<ns.length->(ED ns k a b↔(dh ns a).getD k 0+1<ns.getD k 0/\b=a+pr (ns.take k))
 |[],k,_,_,_,h=>absurd h (jC _)
 |n::ns,0,a,b,hn,_=>Iff.rfl
 |n::ns,k+1,a,b,hn,hk=>by
  have ih:=Dx (ns:=ns) (k:=k) (a:=a / n) (b:=b / n) (fun x hx=>hn x (b_ _ hx)) (rn hk);show (a % n=b % n/\ED ns k (a / n) (b / n))↔(dh ns (a / n)).getD k 0+1<ns.getD k 0/\b=a+n*pr (ns.take k);rw[ih,<-Dw (hn n cg)];exact⟨fun ⟨x,y,z⟩=>⟨y,x,z⟩,fun ⟨y,x,z⟩=>⟨x,y,z⟩⟩
theorem pD{b n:Nat}(hn:0<n):(b % n+1<n)↔1<=(b+1) % n:=by
 have e:=iA b n;have l:=iH b hn;constructor
 .intro h;rw[(kq h).2];lia
 .intro h;rcases Nat.lt_or_ge (b % n+1) n with c|c
  .exact c
  .have:b+1=n*(b / n+1):=by rw[oK,lN];lia
   rw[this,Nat.mul_mod_right] at h;exact absurd h (by decide)
theorem xP:∀ {ns:List Nat} {k a b:Nat},(∀x∈ns,0<x)->k<ns.length->(ED ns k b a↔1<=(dh ns a).getD k 0/\a=b+pr (ns.take k))
 |[],k,_,_,_,h=>absurd h (jC _)
 |n::ns,0,a,b,hn,_=>by
  show (b % n+1<n/\a=b+1)↔1<=a % n/\a=b+1;constructor
  .rintro⟨h,rfl⟩;exact⟨(pD (hn n cg)).mp h,rfl⟩
  .rintro⟨h,rfl⟩;exact⟨(pD (hn n cg)).mpr h,rfl⟩
 |n::ns,k+1,a,b,hn,hk=>by
  have ih:=xP (ns:=ns) (k:=k) (a:=a / n) (b:=b / n) (fun x hx=>hn x (b_ _ hx)) (rn hk);show (b % n=a % n/\ED ns k (b / n) (a / n))↔1<=(dh ns (a / n)).getD k 0/\a=b+n*pr (ns.take k);rw[ih,<-Dw (hn n cg)];exact⟨fun ⟨x,y,z⟩=>⟨y,x,z⟩,fun ⟨y,x,z⟩=>⟨x,y,z⟩⟩
theorem Dy:∀ {ns:List Nat} {k a b:Nat},ED ns k a b->qW ns a b=some k
 |n::ns,0,a,b,⟨h,e⟩=>by
  subst e;rw[y6,ao (by rw[(kq h).2];lia)]
 |n::ns,k+1,a,b,⟨e,h⟩=>by rw[y6,am e,Dy h];rfl
theorem Ga{ns:List Nat}{a b:Nat}:qW ns a b=qW ns b a:=by
 unfold qW;congr 1;funext i;exact decide_eq_decide.mpr ⟨ci,ci⟩
theorem y7{ns:List Nat}{a b k:Nat}(h:qW ns a b=some k):k<ns.length/\(dh ns a).getD k 0≠(dh ns b).getD k 0:=
 ⟨cX.mp (List.mem_of_find?_eq_some h),fc (List.find?_some (p:=fun i=>decide ((dh ns a).getD i 0≠(dh ns b).getD i 0)) h)⟩
def JO(ns:List Nat)(a b k:Nat):Prop:=ED ns k a b\/ED ns k b a
theorem Dz{ns:List Nat}{a b k:Nat}(h:JO ns a b k):qW ns a b=some k:=by
 rcases h with h|h
 .exact Dy h
 .rw[Ga];exact Dy h
theorem tq{ns:List Nat}{a b:Nat}(hn:∀x∈ns,0<x)(ha:a<pr ns)(hb:b<pr ns):T (kC ((hX ns).map n5)) a b↔∃k,JO ns a b k:=by
 have Qb:∀ {a b:Nat},(a,b)∈hX ns↔a<pr ns/\U ns a b:=mm;show ((a:Int),(b:Int))∈_↔_;rw[eK];constructor
 .rintro(h|h)
  .obtain⟨q,hq,e⟩:=a_.mp h;have e1:q.1=a:=d9 (congrArg Prod.fst e);have e2:q.2=b:=d9 (congrArg Prod.snd e);obtain⟨k,u⟩:=(Au hn).mp (Qb.mp hq).2;exact⟨k,.inl (by rw[<-e1,<-e2];exact u)⟩
  .obtain⟨q,hq,e⟩:=a_.mp h;have e1:q.1=b:=d9 (congrArg Prod.fst e);have e2:q.2=a:=d9 (congrArg Prod.snd e);obtain⟨k,u⟩:=(Au hn).mp (Qb.mp hq).2;exact⟨k,.inr (by rw[<-e1,<-e2];exact u)⟩
 .rintro⟨k,u|u⟩
  .exact .inl (a_.mpr ⟨(a,b),Qb.mpr ⟨ha,(Au hn).mpr ⟨k,u⟩⟩,rfl⟩)
  .exact .inr (a_.mpr ⟨(b,a),Qb.mpr ⟨hb,(Au hn).mpr ⟨k,u⟩⟩,rfl⟩)
end iZ
namespace L2
open PySem PySem.Spec PyProof.Rows
theorem Gb{X:Cx}:Px X .FloorDiv (fun x y H Q=>∃i j,x=.int i/\y=.int j/\Iw i j/\Q (.int (i / j)) H):=by
 intro ae s σ H x y v u Q I r1 r2 h;exact BH ae s σ H x y v u Q I r1 r2 h
end L2
namespace pi
open PySem L2 iZ
abbrev Gc:Stmt:=fu (fk 57) 0
abbrev JP:Stmt:=fu (fk 57) 3
abbrev JQ:Stmt:=fu (fk 57) 6
abbrev JR:Stmt:=fu (fk 57) 7
abbrev Sk:Stmt:=fk 52
structure Bx(ns:List Nat):Prop where
 l1:1<=ns.length
 l5:ns.length<=5
 sd:∀x∈ns,2<=x/\x<=8
 Nx:pr ns<=32
theorem Bx.pos{ns:List Nat}(B:Bx ns):∀x∈ns,0<x:=fun x hx=>by have:=B.sd x hx;lia
theorem Bx.gd{ns:List Nat}(B:Bx ns){i:Nat}(h:i<ns.length):2<=ns.getD i 0/\ns.getD i 0<=8:=by
 rw[cf,bZ h];exact B.sd _ (d7 _)
abbrev qX(ns:List Nat):Ts:=kC ((hX ns).map n5)
structure HN(K:PySem.W.Frag)(mg:Str->Option Value)(CB:Addr):Prop where
 cl:AL K CB
 nN:eX K CB "tied_net"
 nS:eX K CB "side_row"
 RM:mg "Box"=some (.ref CB)
def DA(pn sr:Addr):List (Str×V):=cC "side_row" (.ref sr) (cC "tied_net" (.ref pn) [])
theorem Y1:¬ (("tied_net":Str)="side_row"):=by decide +kernel
theorem DB{pn sr:Addr}:(DA pn sr).lookup ("tied_net":Str)=some (.ref pn):=by unfold DA;rw[aT,ao Y1,aT,am rfl]
theorem Ny{pn sr:Addr}:(DA pn sr).lookup ("side_row":Str)=some (.ref sr):=by unfold DA;rw[aT,am rfl]
theorem tw {pn sr : Addr} {m : Str} (h1 : ¬ m = "tied_net") (h2 : ¬ m = "side_row") : (DA pn sr).lookup m = none:=by unfold DA; rw [aT,ao h2,aT,ao h1]; rfl
structure eT(C CB:Addr)(H:Hp)(L:Addr->Prop)(b:Addr)(ns:List Nat):Prop where
 bx:Bx ns
 ob:∃dx pn sr,H b=some (.ins CB dx (DA pn sr))/\fq C H L pn (pr ns) (qX ns)/\H sr=some (.tup (NV ns))
theorem eT.same{C CB b:Addr}{H H':Hp}{L:Addr->Prop}{ns:List Nat}(h:eT C CB H L b ns)(s:az H H'):eT C CB H' L b ns:=
 let ⟨dx,pn,sr,a,c,d⟩:=h.ob
 ⟨h.bx,dx,pn,sr,s _ _ a,c.same s,s _ _ d⟩
abbrev tV(K:PySem.W.Frag)(H:Hp)(x:V)(o:Option Int):Prop:=∀H',az H H'->Wh K H' x o
theorem lm{ns:List Nat}{h i:Nat}(hi:i<ns.length):(NV (dh ns h))[i]?=some (.int (((dh ns h).getD i 0:Nat):Int)):=by
 have:i<(dh ns h).length:=by rw[fZ];exact hi
 rw[bX,bZ this,cf,bZ this];rfl
section
variable {P:Program} {w:World} {K:PySem.W.Frag} {mg:Str->Option Value} {base:Heap}
theorem Nz:aA ["self","sides"] ["self","sides"] (ak Gc):=⟨rfl,rfl,rfl,by decide +kernel,rfl,by decide +kernel,by decide +kernel⟩
def DC(C CB Pt:Addr):Sp:=fun vs H Q _=>∃ (b dx sr:Addr) (ns:List Nat),vs=[.ref b,.ref sr]/\H b=some (.ins CB dx [])/\H sr=some (.tup (NV ns))/\Bx ns/\kD Pt H/\
 ∀H',eT C CB H' (fun a=>H a=none) b ns->kD Pt H'->jJ b Pt H H'->Q .bi H'
theorem DD{ns:List Nat}(B:Bx ns):box (some (ns.map fun (n:Nat)=>some (n:Int)))=some ns:=by
 have e:io (ns.map fun (n:Nat)=>some (n:Int))=ns:=by
  unfold io;rw[ij];conv=>rhs;rw[<-iG ns]
  exact mG fun n _=>rfl
 unfold box;dsimp only;rw[e,am];rw[bp,bH B.l1,bH B.l5,bH B.Nx,wD,Bool.true_and,Bool.true_and,ii];intro o ho;obtain⟨n,hn,rfl⟩:=a_.mp ho;have:=B.sd n hn;unfold aV;simp;lia
theorem NA{H:Hp}{a:Addr}{ns:List Nat}(h:H a=some (.tup (NV ns))):Sd K H (.ref a) (some (ns.map fun (n:Nat)=>some (n:Int))):=by
 refine .tup h (by rw[bp,bp]) fun i x o hx ho=>?_;obtain⟨n,hn,rfl⟩:=qS hx;rw[bX,hn] at ho;cases ho;exact .int _
theorem JS{f C CB CS Pt:Addr}{fd:FuncData}(F:dH K "__init__" "Box.__init__" Gc f fd)(B:Bl mg)(TB:HN K mg CB)(BN:bQ P w K mg base (d0 P w) 10 "box_net" ["sides"] (xO K C Pt CS)):a7 P w K mg base a9 11 f fd ["self","sides"] (DC C CB Pt):=by
 refine F.ok Nz (fun vs H Q E h=>?_) (fun ce A outer s H vs Q E hr h=>?_)
 .obtain⟨b,dx,sr,ns,rfl,_⟩:=h;rfl
 .obtain⟨b,dx,sr,ns,rfl,hb,mv,BX,tb,q⟩:=h;refine⟨_,ah (lY (pv 0) (av BN hr mV (aa (pv 1) af)) rfl)
   (aj (lY (pv 0) (cJ cT (by rfl) B.tup mD (aa (pv 1) af)) rfl)),?_⟩
  refine⟨_,rfl,_,_,rfl,NA mv,tb,(fun z=>by rw[DD BX] at z;cases z),fun ns' e pn H1 Wt N1 t1 s1=>?_⟩;rw[DD BX] at e;cases e;have nb:b≠Pt:=tb.not hb (by intro ps z;cases z);have NC:sr≠b:=by rintro rfl;rw[hb] at mv;cases mv
  have JA:=s1 _ _ hb nb;refine⟨_,rfl,b,CB,dx,_,rfl,JA,TB.cl,TB.nN,by show 0<1000;decide,?_⟩;have ND:=s1 _ _ mv (tb.not mv (by intro ps z;cases z));refine⟨_,rfl,sr,_,rfl,.inr ⟨bD.of (by rw[al NC];exact ND),?_⟩⟩;refine⟨_,rfl,b,CB,dx,_,rfl,ag,TB.cl,TB.nS,by show 1<1000;decide,?_⟩;have kp:∀c o,c≠b->H1 c=some o->(upd (upd H1 b (.ins CB dx (cC "tied_net" (.ref pn) []))) b (.ins CB dx (cC "side_row" (.ref sr) (cC "tied_net" (.ref pn) [])))) c=some o:=fun c o n e=>by rw[al n,al n];exact e
  refine q _ ⟨BX,dx,pn,sr,ag,N1.keep (fun c o l e=>kp c o (by rintro rfl;rw[hb] at l;cases l) e) (fun o e=>kp pn o (by rintro rfl;rw[hb] at Wt;cases Wt) e),kp _ _ NC ND⟩ ?_ (fun c o e n1 n2=>kp c o n1 (s1 _ _ e n2));rcases t1 with z|⟨c,z,y⟩
  .exact .inl (kp _ _ nb.symm z)
  .exact .inr ⟨c,kp _ _ nb.symm z,kp _ _ (by rintro rfl;rw[JA] at y;cases y) y⟩
end
theorem uY{pn sr:Addr}:(DA pn sr).lookup ("place":Str)=none:=tw (by decide +kernel) (by decide +kernel)
theorem uZ{pn sr:Addr}:(DA pn sr).lookup ("phase":Str)=none:=tw (by decide +kernel) (by decide +kernel)
theorem JT{ns:List Nat}(h:∀x∈ns,0<x):0<pr ns:=by
 induction ns with
 |nil=>exact Nat.one_pos
 |cons n ns ih=>exact lM (h n cg) (ih fun x hx=>h x (b_ _ hx))
section
variable {P:Program} {w:World} {K:PySem.W.Frag} {mg:Str->Option Value} {base:Heap}
theorem y8:aA ["self","house","numbers","side"] ["self","house"] (ak JP):=⟨rfl,rfl,rfl,by decide +kernel,rfl,by decide +kernel,by decide +kernel⟩
def DE(K:PySem.W.Frag)(C CB CE:Addr):Sp:=fun vs H Q E=>∃ (L:Addr->Prop) (b:Addr) (ns:List Nat) (x:V) (o:Option Int),vs=[.ref b,x]/\eT C CB H L b ns/\Wh K H x o/\(aV o 0 ((pr ns:Int)-1)=false->E (.ref CE) none H)/\∀h:Nat,h<pr ns->o=some (h:Int)->∀ (t:Addr) (H':Hp),az H H'->H' t=some (.tup (NV (dh ns h)))->Q (.ref t) H'
theorem JV{f C CB CE:Addr}{fd:FuncData}(F:dH K "place" "Box.place" JP f fd)(B:Bl mg)(T:NT K mg C)(TB:HN K mg CB)(M:im P w K mg base (d0 P w) 4 C "check_house" ["self","thing"] (n9 K C CE)):a7 P w K mg base (d0 P w) 5 f fd ["self","house"] (DE K C CB CE):=by
 obtain⟨fM,P1,mM,bM,GM⟩:=M.ex;refine F.Ez y8 (fun vs H Q E h=>?_) (fun ce A outer s H vs Q E hr h=>?_)
 .obtain⟨L,b,ns,x,o,rfl,_⟩:=h;rfl
 .obtain⟨L,b,ns,x,o,rfl,⟨BX,dx,pn,sr,hb,N,mv⟩,wh,k1,k2⟩:=h;obtain⟨Sl,tl,ol,ds,h1,_⟩:=N.ob;have l5:=BX.l5;refine⟨_,ah (bL (dO (gZ (pv 0) rfl) T.cl mM GM hr bM .nil (o0 (E':=E) fun _ _ _ z=>z) (aa (pv 1) af)))
   (ah (aL (i:=2) y8.nd rfl (Or.inl rfl) (bw af))
   (ah (cr IM rfl (lU (gZ (pv 0) rfl)) (aB (i:=3) y8.nd rfl (Or.inl rfl))
    (ah (bL (iR ir iq ip cx (pv 2) (aa (aP gY (pv 1) (pv 3)) af)))
    (aj (rX (i:=1) y8.nd rfl (Or.inl rfl) (pv 3) Gb))))
   (aj (aE (cJ cT (by rfl) B.tup mD (aa (pv 2) af)))))),?_⟩
  refine⟨_,rfl,b,CB,dx,_,_,rfl,hb,TB.cl,TB.nN,DB,pn,Sl,_,rfl,h1,Nf _ _ _ _,_,rfl,L,pn,pr ns,_,x,o,rfl,N,wh,k1,fun hw=>?_⟩;obtain⟨h,hh,rfl⟩:=eC hw;obtain rfl:=mq wh;refine⟨by show 0<=sizeLine;decide,fun D hD=>?_⟩;have s0:=ai (o:=.lst []) hD;refine⟨_,rfl,b,CB,dx,_,_,rfl,s0 _ _ hb,TB.cl,TB.nS,Ny,sr,rfl,⟨_,bD.of (s0 _ _ mv)⟩,jl (K:=K) (xs:=NV ns) (fun i σ H2=>(∃x,σ=[some (.ref b),some (.int ((h / pr (ns.take i):Nat):Int)),some (.ref D),x])/\az H H2/\H2 D=some (.lst (NV (dh (ns.take i) h)))) ⟨⟨_,by rw[List.take_zero];show _=[_,some (V.int ((h / 1:Nat):Int)),_,_];rw[lO];rfl⟩,s0,ag⟩ (fun i σ H2 _ z=>bD.of (z.2.1 _ _ mv)) ?_ ?_⟩
  .rintro i x σ H2 hx ⟨⟨x',rfl⟩,sm,pO⟩;obtain⟨n,hv,rfl⟩:=qS hx;have hi:i<ns.length:=(cV.mp hv).1;have Wp:=BX.sd n (cY hv);have tk:ns.take (i+1)=ns.take i++[n]:=by rw[ie,hv];rfl
   rw[tk,pC,ju];have dl:(dh (ns.take i) h).length<=5:=by rw[fZ,kI];lia
   refine⟨_,rfl,.inl ⟨rfl,_,bz.of pO⟩,_,rfl,_,rfl,_,_,rfl,rfl,(by show (0:Int)<(n:Int);lia),D,_,_,rfl,rfl,pO,by rw[bF];exact gi dl (by decide),?_⟩;refine⟨_,rfl,_,rfl,_,_,rfl,rfl,⟨by lia,by lia⟩,⟨some (.int n),?_⟩,cK sm hD,?_⟩
   .rw[<-og];rfl
   .rw[ag,<-h_];rfl
  .rintro σ H2 ⟨⟨x',rfl⟩,sm,pO⟩;rw[bF,jA] at pO;exact⟨_,rfl,D,_,rfl,.inl ⟨bz.of pO,fun t ht=>k2 h hh rfl t _ (sm.trans (ai ht)) ag⟩⟩
end
def oV:Option Nat->V
 |none=>.bi
 |some y=>.int (y:Int)
theorem JW(n:Int)(tl ol ds:Addr):(p_ n tl ol ds).lookup ("out":Str)=none:=sU n tl ol ds (by decide +kernel) (by decide +kernel) (by decide +kernel) (by decide +kernel)
theorem HP(n:Int)(tl ol ds:Addr):(p_ n tl ol ds).lookup ("many":Str)=none:=sU n tl ol ds (by decide +kernel) (by decide +kernel) (by decide +kernel) (by decide +kernel)
def DG(ns:List Nat)(o o':Option Int):Bool:=aV o 0 ((pr ns:Int)-1)&&(aV o' 0 ((pr ns:Int)-1)&&decide ((o.getD 0,o'.getD 0)∈qX ns))
theorem DH{n a b:Nat}{ts:Ts}(F:km n ts)(ha:a<n):zE (.int (b:Int)) (NV (dX n ts a))=decide (((a:Int),(b:Int))∈ts):=by
 rw[gK,jQ];refine Iff.trans ?_ (eS F ha);unfold zE;rw[wn];constructor
 .rintro⟨v,hv,e⟩;obtain⟨y,hy,rfl⟩:=a_.mp hv;have:(((y:Nat):Int)==(b:Int))=true\/((b:Int)==((y:Nat):Int))=true:=by first|exact .inl e|exact .inr e
  have:y=b:=by rcases this with t|t <;> simp at t <;> lia
  rw[<-this];exact hy
 .intro hy;exact⟨.int (b:Int),a_.mpr ⟨b,hy,rfl⟩,by show ((b:Int)==(b:Int))=true;simp⟩
theorem n_{xs:List Nat}:(NV xs).all fh=true:=ii.mpr fun x hx=>by obtain⟨y,_,rfl⟩:=a_.mp hx;rfl
theorem JX{ns:List Nat}{a b:Int}:(a,b)∈qX ns↔(b,a)∈qX ns:=⟨fun h=>by
 rcases eK.mp h with z|z
 .exact eK.mpr (.inr z)
 .exact eK.mpr (.inl z),fun h=>by
 rcases eK.mp h with z|z
 .exact eK.mpr (.inr z)
 .exact eK.mpr (.inl z)⟩
theorem NE{ns:List Nat}{a b k:Nat}(hk:k<ns.length)(hj:∀j,j<k->(dh ns a).getD j 0=(dh ns b).getD j 0)(ne:(dh ns a).getD k 0≠(dh ns b).getD k 0):qW ns a b=some k:=
 List.find?_range_eq_some.mpr ⟨bH ne,cX.mpr hk,fun j h=>by rw[dE (fun z=>z (hj j h))];rfl⟩
theorem NF{ns:List Nat}{a b:Nat}(hj:∀j,j<ns.length->(dh ns a).getD j 0=(dh ns b).getD j 0):qW ns a b=none:=
 vY.mpr fun j h=>by simpa using hj j (cX.mp h)
section
variable {P:Program} {w:World} {K:PySem.W.Frag} {mg:Str->Option Value} {base:Heap}
theorem Sm:aA ["net","one","other"] ["net","one","other"] (ak Sk):=⟨rfl,rfl,rfl,by decide +kernel,rfl,by decide +kernel,by decide +kernel⟩
def JY(K:PySem.W.Frag)(C:Addr):Sp:=fun vs H Q _=>∃ (L:Addr->Prop) (p:Addr) (ns:List Nat) (x y:V) (o o':Option Int),vs=[.ref p,x,y]/\fq C H L p (pr ns) (qX ns)/\tV K H x o/\tV K H y o'/\∀H',az H H'->Q (.bl (DG ns o o')) H'
theorem NG{f C CE:Addr}{fd:FuncData}(F:dH K "are_tied" "are_tied" Sk f fd)(T:NT K mg C)(HO:bQ P w K mg base a9 3 "is_house" ["many","thing"] (lj K))(MM:im P w K mg base a9 1 C "many" ["self"] (xM C))(MO:im P w K mg base (d0 P w) 5 C "out" ["self","house"] (yV K C CE FV)):a7 P w K mg base a9 6 f fd ["net","one","other"] (JY K C):=by
 obtain⟨fM,P1,mM,bM,GM⟩:=MM.ex;obtain⟨fO,Y2,mO,bO,GO⟩:=MO.ex;refine F.ok Sm (fun vs H Q E h=>?_) (fun ce A outer s H vs Q E hr h=>?_)
 .obtain⟨L,p,ns,x,y,o,o',rfl,_⟩:=h;rfl
 .obtain⟨L,p,ns,x,y,o,o',rfl,N,wx,wy,q⟩:=h;have h1:bv 1 _:=hr.mono (by decide);have h3:bv 3 _:=hr.mono (by decide);refine⟨_,(ah (a8 (PW.pt (oQ (cq (bW (av HO h3 aG (aa (ud (pv 0) T.cl mM GM h1 bM .nil aG) (aa (pv 1) af))))) (j7 (cq (bW (av HO h3 aG (aa (ud (pv 0) T.cl mM GM h1 bM .nil aG) (aa (pv 2) af)))))))) (aj (aE dw)) aI)
   (aj (aE (j8 (ft jp (pv 2) (dO (pv 0) T.cl mO GO hr bO .nil mV (aa (pv 1) af)) rfl) (lT (ft jp (pv 1) (dO (pv 0) T.cl mO GO hr bO .nil mV (aa (pv 2) af)) rfl)))))),?_⟩
  obtain⟨dx,tl,ol,ds,hN,_⟩:=N.ob;have Fi:=N.qa;refine⟨_,rfl,p,dx,_,rfl,hN,HP _ _ _ _,L,p,pr ns,_,rfl,N,_,rfl,x,o,_,rfl,wx _ (az.refl _),_,rfl,?_⟩;cases hw:aV o 0 ((pr ns:Int)-1) with
  |false=>exact fK (fK (by have:=q H (az.refl _);unfold DG at this;rw[hw] at this;exact this))
  |true=>
  refine dP ⟨_,rfl,p,dx,_,rfl,hN,HP _ _ _ _,L,p,pr ns,_,rfl,N,_,rfl,y,o',_,rfl,wy _ (az.refl _),_,rfl,?_⟩;cases Ag:aV o' 0 ((pr ns:Int)-1) with
  |false=>exact fK (by have:=q H (az.refl _);unfold DG at this;rw[hw,Ag] at this;exact this)
  |true=>
  refine dP ?_;obtain⟨a,ha,rfl⟩:=eC hw;obtain⟨b,hb,rfl⟩:=eC Ag;obtain rfl:=mq (wx _ (az.refl _));obtain rfl:=mq (wy _ (az.refl _));refine⟨_,rfl,_,rfl,p,dx,_,rfl,hN,JW _ _ _ _,_,rfl,L,p,pr ns,_,_,_,rfl,N,.int _,(fun z=>by rw[hw] at z;cases z),fun i hi e r H1 s1 vk So=>?_⟩;cases e;refine⟨r,_,rfl,.inl (bz.of So),rfl,n_,_,rfl,?_⟩;have e1:(if false=true then !zE (V.int (b:Int)) (NV (dX (pr ns) (qX ns) a)) else zE (V.int (b:Int)) (NV (dX (pr ns) (qX ns) a)))=decide (((a:Int),(b:Int))∈qX ns):=DH Fi ha;rw[e1];have q':∀H',az H H'->Q (.bl (decide (((a:Int),(b:Int))∈qX ns))) H':=fun H' s'=>by have:=q H' s';unfold DG at this;rw[hw,Ag] at this;exact this
  cases ht:decide (((a:Int),(b:Int))∈qX ns) with
  |false=>
   rw[ht] at q';exact dP (q' H1 s1)
  |true=>
   rw[ht] at q';refine fK ⟨_,rfl,_,rfl,p,dx,_,rfl,s1 _ _ hN,JW _ _ _ _,_,rfl,L,p,pr ns,_,_,_,rfl,N.same s1,.int _,(fun z=>by rw[Ag] at z;cases z),fun i hi e r2 H2 s2 yZ tj=>?_⟩;cases e;refine⟨r2,_,rfl,.inl (bz.of tj),rfl,n_,?_⟩;have e2:(if false=true then !zE (V.int (a:Int)) (NV (dX (pr ns) (qX ns) b)) else zE (V.int (a:Int)) (NV (dX (pr ns) (qX ns) b)))=true:=(DH Fi hb).trans (bH (JX.mp (fc ht)));rw[e2];exact q' H2 (s1.trans s2)
theorem y9:aA ["self","house","home","here","there","k"] ["self","house","home"] (ak JR):=⟨rfl,rfl,rfl,by decide +kernel,rfl,by decide +kernel,by decide +kernel⟩
def y_(K:PySem.W.Frag)(C CB CE:Addr):Sp:=fun vs H Q E=>∃ (L:Addr->Prop) (b:Addr) (ns:List Nat) (x y:V) (o o':Option Int),vs=[.ref b,x,y]/\eT C CB H L b ns/\tV K H x o/\tV K H y o'/\(aV o 0 ((pr ns:Int)-1)=false\/aV o' 0 ((pr ns:Int)-1)=false->∀H',az H H'->E (.ref CE) none H')/\∀h g:Nat,h<pr ns->g<pr ns->o=some (h:Int)->o'=some (g:Int)->∀H',az H H'->Q (oV (qW ns h g)) H'
theorem JZ{f C CB CE:Addr}{fd:FuncData}(F:dH K "phase" "Box.phase" JR f fd)(B:Bl mg)(TB:HN K mg CB)(M:im P w K mg base (d0 P w) 5 CB "place" ["self","house"] (DE K C CB CE)):a7 P w K mg base (d0 P w) 6 f fd ["self","house","home"] (y_ K C CB CE):=by
 obtain⟨fM,P1,mM,bM,GM⟩:=M.ex;refine F.Ez y9 (fun vs H Q E h=>?_) (fun ce A outer s H vs Q E hr h=>?_)
 .obtain⟨L,b,ns,x,y,o,o',rfl,_⟩:=h;rfl
 .obtain⟨L,b,ns,x,y,o,o',rfl,BA,wx,wy,k1,k2⟩:=h;obtain⟨dx,pn,sr,hb,N,mv⟩:=BA.ob;have l5:=BA.bx.l5;refine⟨_,ah (aL (i:=3) y9.nd rfl (Or.inl rfl) (dO (pv 0) TB.cl mM GM hr bM .nil (o0 (E':=E) fun _ _ _ z=>z) (aa (pv 1) af)))
   (ah (aL (i:=4) y9.nd rfl (Or.inl rfl) (dO (pv 0) TB.cl mM GM hr bM .nil (o0 (E':=E) fun _ _ _ z=>z) (aa (pv 2) af)))
   (ah (cr IM rfl (bh rfl B.range (aa (au aD (by rfl) B.len cG (aa (pv 3) af)) af)) (aB (i:=5) y9.nd rfl (Or.inl rfl))
    (aj (a8 (aM oW (be bN (pv 3) (pv 5) (fun _ _=>rfl)) (be bN (pv 4) (pv 5) (fun _ _=>rfl)) (aQ _)) (aj (aE (pv 5))) aI)))
   (aj (aE dk)))),?_⟩
  refine⟨_,rfl,b,dx,_,rfl,hb,uY,_,rfl,L,b,ns,x,o,rfl,BA,wx _ (az.refl _),(fun z=>k1 (.inl z) _ (az.refl _)),fun h hh e t1 H1 s1 NH=>?_⟩;subst e;refine⟨_,rfl,b,dx,_,rfl,s1 _ _ hb,uY,_,rfl,L,b,ns,y,o',rfl,BA.same s1,wy _ s1,(fun z=>k1 (.inr z) _ s1),fun g hg e t2 H2 s2 qU=>?_⟩;subst e;have NI:=s2 _ _ NH;have yY:=s1.trans s2;have dl:(NV (dh ns h)).length=ns.length:=by rw[bF,fZ]
  refine⟨_,rfl,t1,_,rfl,.inr (bD.of NI),_,rfl,by lia,by rw[dl];lia,?_⟩;rw[dl];refine cw (n:=ns.length) (lo:=0) (fun k σ H3=>H3=H2/\(∃z,σ=[some (.ref b),some x,some y,some (.ref t1),some (.ref t2),z])/\∀j,j<k->(dh ns h).getD j 0=(dh ns g).getD j 0) ⟨rfl,⟨_,rfl⟩,fun j hj=>absurd hj (jC _)⟩ ?_ ?_
  .rintro k σ _ hk ⟨rfl,⟨z,rfl⟩,hj⟩;rw[dv];refine⟨_,rfl,_,rfl,t1,_,_,_,rfl,rfl,bD.of NI,aJ (lm hk),_,rfl,_,rfl,t2,_,_,_,rfl,rfl,bD.of qU,aJ (lm hk),rfl,_,rfl,?_⟩;by_cases c:(dh ns h).getD k 0=(dh ns g).getD k 0
   .rw[c,bH rfl];exact dP ⟨rfl,⟨_,rfl⟩,fun j Hk=>by
     rcases qj.mp Hk with z|z
     .exact hj j z
     .rw[z];exact c⟩
   .rw[dE (fun z=>c (by injection z with z;exact d9 z))];refine fK ⟨_,rfl,?_⟩;have:=k2 h g hh hg rfl rfl _ yY;rw[NE hk hj c] at this;exact this
  .rintro σ _ ⟨rfl,⟨z,rfl⟩,hj⟩;have:=k2 h g hh hg rfl rfl _ yY;rw[NF hj] at this;exact this
end
end pi
namespace L2
open PySem PySem.Spec PyProof.Rows
end L2
namespace pi
open PySem L2 iZ
theorem Ge{ns:List Nat}{o o':Option Int}(h:DG ns o o'=true):∃a b:Nat,a<pr ns/\b<pr ns/\o=some (a:Int)/\o'=some (b:Int)/\((a:Int),(b:Int))∈qX ns:=by
 unfold DG at h;obtain⟨h1,h2⟩:=vP.mp h;obtain⟨h4,h3⟩:=vP.mp h2;obtain⟨a,ha,rfl⟩:=eC h1;obtain⟨b,hb,rfl⟩:=eC h4;exact⟨a,b,ha,hb,rfl,rfl,fc h3⟩
section
variable {P:Program} {w:World} {K:PySem.W.Frag} {mg:Str->Option Value} {base:Heap}
theorem NJ:aA ["self","one","other"] ["self","one","other"] (ak JQ):=⟨rfl,rfl,rfl,by decide +kernel,rfl,by decide +kernel,by decide +kernel⟩
def DI(K:PySem.W.Frag)(C CB CT:Addr):Sp:=fun vs H Q E=>∃ (L:Addr->Prop) (b:Addr) (ns:List Nat) (x y:V) (o o':Option Int),vs=[.ref b,x,y]/\eT C CB H L b ns/\tV K H x o/\tV K H y o'/\(DG ns o o'=false->∀H',az H H'->E (.ref CT) none H')/\∀h g:Nat,h<pr ns->g<pr ns->o=some (h:Int)->o'=some (g:Int)->DG ns o o'=true->∀H',az H H'->Q (oV (qW ns h g)) H'
theorem J0{f C CB CE CT:Addr}{fd:FuncData}(F:dH K "way" "Box.way" JQ f fd)(TB:HN K mg CB)(e:Er K mg "NoTie" CT)(AT:bQ P w K mg base a9 6 "are_tied" ["net","one","other"] (JY K C))(M:im P w K mg base (d0 P w) 6 CB "phase" ["self","house","home"] (y_ K C CB CE)):a7 P w K mg base (d0 P w) 7 f fd ["self","one","other"] (DI K C CB CT):=by
 obtain⟨fM,P1,mM,bM,GM⟩:=M.ex;refine F.Ez NJ (fun vs H Q E h=>?_) (fun ce A outer s H vs Q E hr h=>?_)
 .obtain⟨L,b,ns,x,y,o,o',rfl,_⟩:=h;rfl
 .obtain⟨L,b,ns,x,y,o,o',rfl,BA,wx,wy,k1,k2⟩:=h;obtain⟨dx,pn,sr,hb,N,mv⟩:=BA.ob;refine⟨_,ah (a8 (cq (bW (av AT hr aG (aa (gZ (pv 0) rfl) (aa (pv 1) (aa (pv 2) af)))))) (aj (gy (q:=fun H1=>E (.ref CT) none H1) rfl e.ok rfl e.at_ (aa j6 af) (fun _ _ _ _ _ _ _ I m q=>gw I m q))) aI)
   (aj (aE (dO (pv 0) TB.cl mM GM hr bM .nil mV (aa (pv 1) (aa (pv 2) af))))),?_⟩
  refine⟨_,rfl,b,CB,dx,_,_,rfl,hb,TB.cl,TB.nN,DB,_,rfl,_,rfl,L,pn,ns,x,y,o,o',rfl,N,wx,wy,fun H1 s1=>⟨_,rfl,?_⟩⟩;cases ha:DG ns o o' with
  |false=>exact fK ⟨by show 1<=sizeLine;decide,k1 ha H1 s1⟩
  |true=>
   refine dP ?_;obtain⟨h,g,hh,hg,rfl,rfl,_⟩:=Ge ha;exact⟨_,rfl,b,dx,_,rfl,s1 _ _ hb,uZ,_,rfl,_,rfl,L,b,ns,x,y,_,_,rfl,BA.same s1,fun H' s'=>wx H' (s1.trans s'),fun H' s'=>wy H' (s1.trans s'),(fun z=>by rcases z with z|z <;> (rw[fA (by assumption)] at z;cases z)),fun h' g' Y3 Y4 e1 e2 H' s'=>k2 h' g' Y3 Y4 e1 e2 ha H' (s1.trans s')⟩
end
abbrev J1:Stmt:=fk 59
abbrev Sq:Stmt:=fk 60
structure Wu(mg:Str->Option Value):Prop where
 abs:mg "abs"=none
 divmod:mg "divmod"=none
 dict:mg "dict"=none
 zip:mg "zip"=none
 repr:mg "repr"=none
def bG(H:Hp)(p:Addr):Prop:=∃a b:Int,H p=some (.lst [.int a,.int b])/\0<=a/\0<=b/\b<4294967296
theorem bG.same{H H':Hp}{p:Addr}(h:bG H p)(s:az H H'):bG H' p:=let ⟨a,b,e,r⟩:=h;⟨a,b,s _ _ e,r⟩
theorem bG.full{H:Hp}{p:Addr}(h:bG H p):H p≠none:=by obtain⟨a,b,e,_⟩:=h;rw[e];intro z;cases z
theorem bG.ne{H:Hp}{p q:Addr}(h:bG H p)(e:H q=none):q≠p:=by rintro rfl;exact h.full e
theorem bG.put{H:Hp}{p q:Addr}{o:HO}(h:bG H p)(n:p≠q):bG (upd H q o) p:=let ⟨a,b,e,r⟩:=h;⟨a,b,by rw[al n];exact e,r⟩
theorem bG.neT{H:Hp}{p q:Addr}{xs:List V}(h:bG H p)(e:H q=some (.tup xs)):q≠p:=by rintro rfl;obtain⟨a,b,z,_⟩:=h;rw[e] at z;cases z
theorem PO.bE{H H':Hp}{p:Addr}{zs:Zs}(h:PO H zs)(s:bf p H H')(hp:bG H p):PO H' zs:=fun z hz=>s _ _ (h z hz) (hp.neT (h z hz))
theorem Sr{j:Int}(h1:0<j)(h2:j<2 ^ 200):Nat.log2 j.natAbs<200:=(Nat.log2_lt (by lia)).mpr (by lia)
theorem tD{X:Cx}:eM X (.builtin "divmod") (fun xs H Q=>∃i j,xs=[.int i,.int j]/\(0<j/\j<2 ^ 200)/\∀p,H p=none->Q (.ref p) (upd H p (.tup [.int (i / j),.int (i % j)]))):=by
 intro ae s σ H xs us Q I r h;obtain⟨i,j,rfl,⟨h1,h2⟩,q⟩:=h;obtain⟨u,w',rfl,⟨t,rfl⟩,⟨t',rfl⟩⟩:=BO r;refine PyProof.Rows.divmod_int (by lia) ?_ (.inl (PyProof.noPylong_of_log2 (Nat.lt_trans (Sr h1 h2) (by decide))));rw[rf i (by lia),vw i (by lia)];have hn:H s.heap.objs.size=none:=I.bA.fresh (aO _);refine⟨.ref s.heap.objs.size,_,?_,rfl,q _ hn⟩;refine I.laid (fun b o e=>cE _ e) (aO _) ⟨by simp only[cZ,wu];rw[gQ];decide,[.int (i / j) s.toks,.int (i % j) (s.toks+1)],.cons ⟨_,rfl⟩ (.cons ⟨_,rfl⟩ .nil),?_⟩;exact⟨_,cW s.heap rfl,rfl,0,rfl,rfl⟩
theorem J2{X:Cx}:jm X (binaryOp .RShift) (rI (fun i j=>0<=j/\((2 ^ j.toNat:Nat):Int)<=i) fun i j=>.int (i / ((2 ^ j.toNat:Nat):Int))):=K8 fun i j _ _ _ _ _ hc q=>by
 have h1:0<=j:=hc.1;have h2:((2 ^ j.toNat:Nat):Int)<=i:=hc.2;have h3:0<2 ^ j.toNat:=Nat.two_pow_pos _;refine PySem.AutoIntOps.rshift_2 (by lia) (fun z=>?_) ?_
 .have n0:i.natAbs≠0:=by lia
  have:¬ i.natAbs.log2<j.toNat:=fun y=>by
   have:=(Nat.log2_lt n0).mp y;lia
  unfold Builtin.Int.intBits at z;rw[ao (by simp;lia)] at z;lia
 .rw[rf i (Int.pow_nonneg (by decide)),show (2:Int) ^ j.toNat=((2 ^ j.toNat:Nat):Int) by rw[Int.natCast_pow];rfl];exact q
section
variable {P:Program} {w:World} {K:PySem.W.Frag} {mg:Str->Option Value} {base:Heap}
theorem DJ:aA ["_law_script","_law_k","_law_cell"] ["_law_script","_law_k"] (ak J1):=⟨rfl,rfl,rfl,by decide +kernel,rfl,by decide +kernel,by decide +kernel⟩
def DK(K:PySem.W.Frag):Sp:=fun vs H Q _=>∃ (a:Addr) (ns:List Int) (k:Nat),vs=[.ref a,.int k]/\bz K H a (ns.map V.int)/\k<64/\∀ (r:Addr) (H':Hp),az H H'->H r=none->bG H' r->Q (.ref r) H'
theorem J3{f:Addr}{fd:FuncData}(F:dH K "_law_pot" "_law_pot" J1 f fd)(B:Bl mg):a7 P w K mg base a9 1 f fd ["_law_script","_law_k"] (DK K):=by
 refine F.ok DJ (fun vs H Q E h=>?_) (fun ce A outer s H vs Q E hr h=>?_)
 .obtain⟨a,ns,k,rfl,_⟩:=h;rfl
 .obtain⟨a,ns,k,rfl,hS,hk,q⟩:=h;refine⟨_,(ah (aL (i:=2) DJ.nd rfl (Or.inl rfl) ap)
   (ah (a8 (aM yd (pv 1) (au aD (by rfl) B.len cG (aa (pv 0) af)) (aQ _)) (aj (aL (i:=2) DJ.nd rfl (Or.inl rfl) (be bC (pv 0) (pv 1) (fun _ _=>rfl)))) aI)
   (aj (aE (bw (aa (au (jn rfl) (by rfl) B.max rA (aa ap (aa (aP j9 (pv 2) (aP wM ap ap)) af))) (aa (aP cj (aP gY (aP wM (aP cj (aP gY (pv 2) ap) (aP lV ap (aP cj (pv 1) ap))) ap) ap) ap) af))))))),?_⟩
  refine fm (fun σ Hc=>H=Hc/\σ=[some (.ref a),some (.int k),some (.int 0)]) ?_ (fun N hN=>hN _ _ ⟨rfl,rfl⟩);rintro σ _ ⟨rfl,rfl⟩;refine fm (fun σ Hc=>H=Hc/\∃c:Int,σ=[some (.ref a),some (.int k),some (.int c)]) ?_ ?_
  rotate_left
  .intro N hN;refine⟨_,rfl,_,rfl,a,_,rfl,.inl hS,_,_,rfl,rfl,_,rfl,ei (fun e=>?_) (fun e=>hN _ _ ⟨rfl,0,rfl⟩)⟩;have e:k<ns.length:=by have:=fc e;rw[bp] at this;lia
   exact⟨_,rfl,_,rfl,a,_,_,_,rfl,rfl,hS,aJ (by rw[bX,bZ e];rfl),hN _ _ ⟨rfl,_,rfl⟩⟩
  rintro σ _ ⟨rfl,c,rfl⟩;have m0:0<=c % 2147483629:=lI _ (by decide);have m1:c % 2147483629<2147483629:=lC _ (by decide);refine⟨_,rfl,_,_,rfl,rfl,⟨by decide,by decide,by decide⟩,_,_,rfl,rfl,0,_,rfl,_,rfl,_,_,rfl,rfl,(by show (0:Int)<2147483629;decide),_,rfl,_,_,rfl,rfl,_,_,rfl,rfl,.inl ⟨by decide,by decide⟩,_,_,rfl,rfl,_,_,rfl,rfl,⟨by decide,by decide,by show (c % 2147483629+40503*((k:Int)+1)).natAbs<2 ^ 64;lia⟩,_,_,rfl,rfl,(by show (0:Int)<2147483563;decide),_,_,rfl,rfl,by show 2<=sizeLine;decide,fun r AM=>?_⟩;have v0:0<=(c % 2147483629+40503*((k:Int)+1)) ^ Int.toNat 3 % 2147483563:=lI _ (by decide);have v1:(c % 2147483629+40503*((k:Int)+1)) ^ Int.toNat 3 % 2147483563<2147483563:=lC _ (by decide);refine q r _ (ai AM) AM ⟨_,_,ag,by split <;> lia,?_,?_⟩
  .show 0<=(c % 2147483629+40503*((k:Int)+1)) ^ Int.toNat 3 % 2147483563+1;generalize (c % 2147483629+40503*((k:Int)+1)) ^ Int.toNat 3 % 2147483563=z at *;lia
  .show (c % 2147483629+40503*((k:Int)+1)) ^ Int.toNat 3 % 2147483563+1<_;generalize (c % 2147483629+40503*((k:Int)+1)) ^ Int.toNat 3 % 2147483563=z at *;lia
theorem NK:aA ["_law_pot_here","_law_many_here","_law_digit"] ["_law_pot_here","_law_many_here"] (ak Sq):=⟨rfl,rfl,rfl,by decide +kernel,rfl,by decide +kernel,by decide +kernel⟩
def u0:Sp:=fun vs H Q _=>∃ (p:Addr) (m:Nat),vs=[.ref p,.int m]/\0<m/\m<2 ^ 200/\bG H p/\∀ (d:Nat) (H':Hp),d<m->bf p H H'->bG H' p->Q (.int d) H'
theorem NL{f:Addr}{fd:FuncData}(F:dH K "_law_draw" "_law_draw" Sq f fd)(B2:Wu mg):a7 P w K mg base a9 1 f fd ["_law_pot_here","_law_many_here"] u0:=by
 refine F.ok NK (fun vs H Q E h=>?_) (fun ce A outer s H vs Q E hr h=>?_)
 .obtain⟨p,m,rfl,_⟩:=h;rfl
 .obtain⟨p,m',rfl,m0',m1',⟨a,b,hp,a0,b0,b1⟩,q'⟩:=h;generalize hm:((m':Nat):Int)=m;have m0:0<m:=by lia
  have m1:m<2 ^ 200:=by lia
  have q:∀ (d a b:Int) (H':Hp),0<=d->d<m->0<=a->0<=b->b<4294967296->bf p H H'->H' p=some (.lst [.int a,.int b])->Q (.int d) H':=fun d a b H' h1 h2 h3 h4 h5 h6 h7=>by
   have:=q' d.toNat H' (by lia) h6 ⟨a,b,h7,h3,h4,h5⟩;rw[Int.toNat_of_nonneg h1] at this;exact this
  refine⟨_,(ah (a8 (aM qt (be bC (pv 0) ap (fun _ _=>rfl)) ap (aQ _)) (ah (iO (au tD (by rfl) B2.divmod PyProof.Rows.boot_divmod (aa (be bC (pv 0) ap (fun _ _=>rfl)) (aa (pv 1) af))) (gb (n:=2) rfl (ba (rV (pv 0) ap kS) (ba (aB (i:=2) NK.nd rfl (Or.inl rfl)) eG))))
    (aj (aE (pv 2)))) aI)
   (ah (iO (aP gY (aP cj (aP lV (be bC (pv 0) ap (fun _ _=>rfl)) ap) ap) ap) (rV (pv 0) ap kS))
   (aj (aE (aP gY (aP nQ (aP gY (aP lV (be bC (pv 0) ap (fun _ _=>rfl)) (be bC (pv 0) ap (fun _ _=>rfl))) ap) ap) (pv 1)))))),?_⟩
  have g0:Ca [V.int a,V.int b] 0=some (.int a):=aJ (j:=0) rfl;have g1:Ca [V.int a,V.int b] 1=some (.int b):=aJ (j:=1) rfl;refine⟨_,rfl,p,_,_,_,rfl,rfl,bz.of hp,g0,_,_,rfl,rfl,_,rfl,?_⟩;refine ei (fun e=>?_) (fun e=>?_)
  .refine⟨_,rfl,p,_,_,_,rfl,rfl,bz.of hp,g0,_,rfl,_,_,rfl,⟨m0,by lia⟩,fun t ht=>?_⟩;have Y5:p≠t:=aq hp ht;refine⟨t,_,rfl,bD.of ag,rfl,_,_,rfl,?_⟩;refine⟨_,rfl,p,_,0,0,rfl,rfl,by rw[al Y5];exact hp,nZ (j:=0) (by show 0<2;decide),_,_,rfl,rfl,_,rfl,?_⟩;exact q _ _ _ _ (lI _ (by lia)) (lC _ m0) (Int.ediv_nonneg a0 (by lia)) b0 b1 (fun c o e n=>by rw[al n,al (aq e ht)];exact e) ag
  .refine⟨_,rfl,p,_,_,_,rfl,rfl,bz.of hp,g1,_,_,rfl,rfl,.inl ⟨by lia,by lia⟩,_,_,rfl,rfl,_,_,rfl,rfl,(by show (0:Int)<2147483629;decide),?_⟩;refine⟨_,rfl,p,_,1,1,rfl,rfl,hp,nZ (j:=1) (by show 1<2;decide),?_⟩;have c0:0<=(b*39373+7919) % 2147483629:=lI _ (by decide);have c1:(b*39373+7919) % 2147483629<2147483629:=lC _ (by decide);refine⟨_,rfl,p,_,_,_,rfl,rfl,bz.of ag,aJ (j:=1) rfl,_,rfl,p,_,_,_,rfl,rfl,bz.of ag,aJ (j:=1) rfl,_,_,rfl,rfl,.inl ⟨by lia,by lia⟩,_,_,rfl,rfl,(by show (0:Int)<2147483587;decide),_,_,rfl,rfl,⟨by decide,by decide⟩,_,rfl,_,_,rfl,rfl,m0,?_⟩;exact q _ _ _ _ (lI _ (by lia)) (lC _ m0) a0 c0 (by lia) bf.upd ag
end
abbrev Ss:Stmt:=fk 61
abbrev Su:Stmt:=fk 62
abbrev Sv:Stmt:=fk 63
abbrev Sw:Stmt:=fk 64
theorem DL{xs:List V}{k:Nat}:pV xs none (some (k:Int))=xs.take k:=by
 have h1:HT.eH xs.length 0 none=0:=rfl;have h2:HT.eH xs.length xs.length (some (k:Int))=min k xs.length:=by
  unfold HT.eH;simp;try lia
 unfold pV;rw[h1,h2,wA,Nat.sub_zero,List.take_eq_take_iff];simp;try lia
theorem DM:∀ {ns:List Nat} {h k:Nat},k<ns.length->(dh ns h).getD k 0=h / pr (ns.take k) % ns.getD k 0
 |[],_,_,hk=>absurd hk (jC _)
 |n::ns,h,0,_=>by show h % n=h / 1 % n;rw[lO]
 |n::ns,h,k+1,hk=>by
  have:=DM (ns:=ns) (h:=h / n) (k:=k) (rn hk);show (dh ns (h / n)).getD k 0=h / (n*pr (ns.take k)) % ns.getD k 0;rw[this,og]
theorem HQ{ns:List Nat}{h k:Nat}(hk:k<ns.length)(h1:1<=(dh ns h).getD k 0):pr (ns.take k)<=h:=by
 rw[DM hk] at h1;rcases Nat.lt_or_ge h (pr (ns.take k)) with c|c
 .rw[wf c,Nat.zero_mod] at h1;exact absurd h1 (by decide)
 .exact c
def vm(ns:List Nat)(h k:Nat)(up:Bool):Option Nat:=if up then (if (dh ns h).getD k 0+1<ns.getD k 0 then some (h+pr (ns.take k)) else none) else if 1<=(dh ns h).getD k 0 then some (h-pr (ns.take k)) else none
section
variable {P:Program} {w:World} {K:PySem.W.Frag} {mg:Str->Option Value} {base:Heap}
theorem xQ:aA ["_law_pot_here","_law_found","_law_left","_law_ways","_law_k","_law_most"] ["_law_pot_here"] (ak Ss):=⟨rfl,rfl,rfl,by decide +kernel,rfl,by decide +kernel,by decide +kernel⟩
def J4:Sp:=fun vs H Q _=>∃ (p:Addr),vs=[.ref p]/\bG H p/\∀ (r:Addr) (ns:List Nat) (H':Hp),bf p H H'->bG H' p->H' r=some (.tup (NV ns))->Bx ns->Q (.ref r) H'
theorem NM{f:Addr}{fd:FuncData}(F:dH K "_law_sides" "_law_sides" Ss f fd)(B:Bl mg)(DR:bQ P w K mg base a9 1 "_law_draw" ["_law_pot_here","_law_many_here"] u0):a7 P w K mg base a9 2 f fd ["_law_pot_here"] J4:=by
 refine F.ok xQ (fun vs H Q E h=>?_) (fun ce A outer s H vs Q E hr h=>?_)
 .obtain⟨p,rfl,_⟩:=h;rfl
 .obtain⟨p,rfl,hp,q⟩:=h;refine⟨_,(ah (aL (i:=1) xQ.nd rfl (Or.inl rfl) (bw af))
   (ah (aL (i:=2) xQ.nd rfl (Or.inl rfl) ap)
   (ah (aL (i:=3) xQ.nd rfl (Or.inl rfl) (aP cj ap (av DR hr aG (aa (pv 0) (aa ap af)))))
   (ah (cr dG rfl (bh rfl B.range (aa (pv 3) af)) (aB (i:=4) xQ.nd rfl (Or.inl rfl))
    (ah (aL (i:=5) xQ.nd rfl (Or.inl rfl) (au (lW rfl) (by rfl) B.min vL (aa ap (aa (aP J2 (pv 2) (aP j9 (aP j9 (pv 3) ap) (pv 4))) af))))
    (ah (bL (iR ir iq ip cx (pv 1) (aa (aP cj ap (av DR hr aG (aa (pv 0) (aa (aP j9 (pv 5) ap) af)))) af)))
    (aj (aL (i:=2) xQ.nd rfl (Or.inl rfl) (aP nQ (pv 2) (be bC (pv 1) (BF wN ap) (fun _ _=>rfl))))))))
   (aj (aE (cJ cT (by rfl) B.tup mD (aa (pv 1) af)))))))),?_⟩
  refine⟨by show 0<=sizeLine;decide,fun Fd hF=>?_⟩;have Sx:Fd≠p:=hp.ne hF;have s0:=ai (o:=.lst []) hF;refine⟨_,rfl,p,5,rfl,by decide,by decide,hp.same s0,fun d H1 hd s1 Rc=>⟨_,_,rfl,rfl,?_⟩⟩;obtain⟨W,hW,w1,w5⟩:∃W:Nat,(1+(d:Int))=(W:Int)/\1<=W/\W<=5:=⟨1+d,by lia,by lia,by lia⟩
  change cI 3 (V.int (1+(d:Int))) _ H1 _;rw[hW];refine⟨_,rfl,_,rfl,by lia,by lia,cw (n:=W) (lo:=0) (fun k σ H2=>∃ (rm:Nat) (fs:List Nat) (x4 x5:Option V),σ=[some (.ref p),some (.ref Fd),some (.int rm),some (.int W),x4,x5]/\bf p H H2/\bG H2 p/\H2 Fd=some (.lst (NV fs))/\fs.length=k/\(∀x∈fs,2<=x/\x<=8)/\pr fs*rm<=32/\2 ^ (W-k)<=rm/\rm<=32) ?_ ?_ ?_⟩
  .refine⟨32,[],_,_,rfl,(bf.of s0).trans s1,Rc,s1 _ _ ag Sx,rfl,(fun x hx=>nomatch hx),by decide,?_,by decide⟩;exact Nat.pow_le_pow_right (by decide) (show W-0<=5 by lia)
  .rintro k σ H2 hk ⟨rm,fs,x4,x5,rfl,s2,p2,Qc,fl,fb,fp,rl,Wv⟩;rw[dv];have e2:2 ^ (W-k)=2 ^ (W-1-k)*2:=by rw[<-Nat.pow_succ];congr 1;lia
   have g1:1<=2 ^ (W-1-k):=Nat.one_le_two_pow;have ej:((W:Int)-1-(k:Int)).toNat=W-1-k:=by lia
   refine⟨_,rfl,_,rfl,_,_,rfl,rfl,_,rfl,_,_,rfl,rfl,_,_,rfl,rfl,⟨by show (0:Int)<=(W:Int)-1-(k:Int);lia,by show ((2 ^ ((W:Int)-1-(k:Int)).toNat:Nat):Int)<=(rm:Int);rw[ej];lia⟩,8,_,rfl,?_⟩;change cI 5 (V.int (if (rm:Int) / ((2 ^ ((W:Int)-1-(k:Int)).toNat:Nat):Int)<8 then (rm:Int) / ((2 ^ ((W:Int)-1-(k:Int)).toNat:Nat):Int) else 8)) _ H2 _;rw[ej];generalize hg:2 ^ (W-1-k)=g at *;obtain⟨tp,QZ,t2,t8,tg⟩:∃tp:Nat,(if (rm:Int) / (g:Int)<8 then (rm:Int) / (g:Int) else 8)=(tp:Int)/\2<=tp/\tp<=8/\tp*g<=rm:=by
    have d1:2<=rm / g:=(Nat.le_div_iff_mul_le (by lia)).mpr (by lia);have d2:rm / g*g<=rm:=Nat.div_mul_le_self _ _;have e:(rm:Int) / (g:Int)=((rm / g:Nat):Int):=rfl;rw[e];by_cases c:rm / g<8
    .exact⟨rm / g,by rw[am (by lia)],d1,by lia,d2⟩
    .refine⟨8,by rw[ao (by lia)];rfl,by lia,by lia,bq (Nat.mul_le_mul_right g (by lia:8<=rm / g)) d2⟩
   rw[QZ];refine⟨_,rfl,.inl ⟨rfl,_,bz.of Qc⟩,_,rfl,_,rfl,_,_,rfl,rfl,p,tp-1,by show [V.ref p,V.int ((tp:Int)-1)]=_;rw[show ((tp:Int)-1)=((tp-1:Nat):Int) by lia],by lia,cM (show tp-1<8 by lia) (by decide),p2,fun e H4 he s4 Y6=>?_⟩;have Y7:=s4 _ _ Qc Sx;refine⟨_,_,rfl,rfl,Fd,_,.int ((2+e:Nat):Int),rfl,by show [V.int (2+(e:Int))]=_;rw[show (2+(e:Int))=((2+e:Nat):Int) by lia],Y7,by rw[bF,fl];exact cM (show k<6 by lia) (by decide),?_⟩;have Ww:(upd H4 Fd (.lst (NV fs++[.int ((2+e:Nat):Int)]))) Fd=some (.lst (NV (fs++[2+e]))):=by rw[ag,h_]
   have s5:bf p H (upd H4 Fd (.lst (NV fs++[.int ((2+e:Nat):Int)]))):=fun b o eq n=>by rw[al (aq eq hF)];exact s4 _ _ (s2 _ _ eq n) n
   have Y8:bG (upd H4 Fd (.lst (NV fs++[.int ((2+e:Nat):Int)]))) p:=Y6.put Sx.symm;generalize upd H4 Fd _=H5 at *;have fe:2+e<=tp:=by lia
   have Y9:Ca (NV (fs++[2+e])) (-1)=some (.int ((2+e:Nat):Int)):=by rw[<-h_];exact Cb _ _
   refine⟨_,rfl,_,rfl,_,rfl,Fd,_,_,_,rfl,rfl,bz.of Ww,Y9,_,_,rfl,rfl,⟨by lia,by lia⟩,rm / (2+e),fs++[2+e],_,_,rfl,s5,Y8,Ww,by rw[cz,fl];rfl,?_,?_,?_,?_⟩
   .intro x hx;rcases cP.mp hx with z|z
    .exact fb x z
    .rw[dD.mp z];lia
   .rw[ju,rJ];exact bq (lB _ (by rw[Nat.mul_comm];exact Nat.div_mul_le_self _ _)) fp
   .rw[show W-(k+1)=W-1-k by lia,hg];refine(Nat.le_div_iff_mul_le (by lia)).mpr ?_;rw[Nat.mul_comm];exact bq (Nat.mul_le_mul_right g fe) tg
   .exact bq (Nat.div_le_self _ _) Wv
  .rintro σ H2 ⟨rm,fs,x4,x5,rfl,s2,p2,Qc,fl,fb,fp,rl,Wv⟩;have r1:1<=rm:=bq Nat.one_le_two_pow rl;exact⟨_,rfl,Fd,_,rfl,.inl ⟨bz.of Qc,fun t ht=>q t fs _ (s2.trans (bf.of (ai ht))) (p2.same (ai ht)) ag ⟨by lia,by lia,fb,bq (vC _ r1) fp⟩⟩⟩
theorem Gf:aA ["_law_sides_here","_law_found","_law_side"] ["_law_sides_here"] (ak Su):=⟨rfl,rfl,rfl,by decide +kernel,rfl,by decide +kernel,by decide +kernel⟩
def Av:Sp:=fun vs H Q _=>∃ (a:Addr) (ns:List Nat),vs=[.ref a]/\H a=some (.tup (NV ns))/\(∀x∈ns,x<=8)/\Q (.int (pr ns:Nat)) H
theorem NN{f:Addr}{fd:FuncData}(F:dH K "_law_many" "_law_many" Su f fd):a7 P w K mg base a9 1 f fd ["_law_sides_here"] Av:=by
 refine F.ok Gf (fun vs H Q E h=>?_) (fun ce A outer s H vs Q E hr h=>?_)
 .obtain⟨a,ns,rfl,_⟩:=h;rfl
 .obtain⟨a,ns,rfl,ha,hx,q⟩:=h;refine⟨_,(ah (aL (i:=1) Gf.nd rfl (Or.inl rfl) ap)
   (ah (cr dG rfl (lU (pv 0)) (aB (i:=2) Gf.nd rfl (Or.inl rfl))
    (aj (aL (i:=1) Gf.nd rfl (Or.inl rfl) (aP lV (pv 1) (pv 2)))))
   (aj (aE (pv 1))))),?_⟩
  refine⟨_,rfl,a,rfl,⟨_,bD.of ha⟩,jl (K:=K) (xs:=NV ns) (fun i σ H2=>H=H2/\∃x,σ=[some (.ref a),some (.int ((pr (ns.take i):Nat):Int)),x]) ⟨rfl,_,rfl⟩ (fun i σ H2 _ z=>by rw[<-z.1];exact bD.of ha) ?_ ?_⟩
  .rintro i x σ _ rW ⟨rfl,y,rfl⟩;obtain⟨v,hv,rfl⟩:=qS rW;have h1:=hx v (cY hv);refine⟨_,rfl,_,rfl,_,_,rfl,rfl,.inr ⟨by lia,by lia⟩,rfl,some (.int v),?_⟩;rw[show ns.take (i+1)=ns.take i++[v] by rw[ie,hv];rfl,ju];rfl
  .rintro σ _ ⟨rfl,x,rfl⟩;rw[bF,jA];exact⟨_,rfl,q⟩
theorem Gg:aA ["_law_sides_here","_law_house","_law_found","_law_side"] ["_law_sides_here","_law_house"] (ak Sv):=⟨rfl,rfl,rfl,by decide +kernel,rfl,by decide +kernel,by decide +kernel⟩
def Aw:Sp:=fun vs H Q _=>∃ (a:Addr) (ns:List Nat) (h:Nat),vs=[.ref a,.int h]/\H a=some (.tup (NV ns))/\Bx ns/\∀ (r:Addr) (H':Hp),az H H'->H r=none->H' r=some (.lst (NV (dh ns h)))->Q (.ref r) H'
theorem NO{f:Addr}{fd:FuncData}(F:dH K "_law_place" "_law_place" Sv f fd):a7 P w K mg base a9 1 f fd ["_law_sides_here","_law_house"] Aw:=by
 refine F.ok Gg (fun vs H Q E h=>?_) (fun ce A outer s H vs Q E hr h=>?_)
 .obtain⟨a,ns,h,rfl,_⟩:=h;rfl
 .obtain⟨a,ns,h,rfl,ha,BX,k⟩:=h;have hl:=BX.l5;have hn:=BX.sd;refine⟨_,(ah (aL (i:=2) Gg.nd rfl (Or.inl rfl) (bw af))
   (ah (cr dG rfl (lU (pv 0)) (aB (i:=3) Gg.nd rfl (Or.inl rfl))
    (ah (bL (iR ir iq ip cx (pv 2) (aa (aP gY (pv 1) (pv 3)) af)))
    (aj (aL (i:=1) Gg.nd rfl (Or.inl rfl) (aP nQ (pv 1) (pv 3))))))
   (aj (aE (pv 2))))),?_⟩
  refine⟨by show 0<=sizeLine;decide,fun D hD=>?_⟩;have s0:=ai (o:=.lst []) hD;refine⟨_,rfl,a,rfl,⟨_,bD.of (s0 _ _ ha)⟩,jl (K:=K) (xs:=NV ns) (fun i σ H2=>(∃x,σ=[some (.ref a),some (.int ((h / pr (ns.take i):Nat):Int)),some (.ref D),x])/\az H H2/\H2 D=some (.lst (NV (dh (ns.take i) h)))) ⟨⟨_,by rw[List.take_zero];show _=[_,some (V.int ((h / 1:Nat):Int)),_,_];rw[lO];rfl⟩,s0,ag⟩ (fun i σ H2 _ z=>bD.of (z.2.1 _ _ ha)) ?_ ?_⟩
  .rintro i x σ H2 hx ⟨⟨x',rfl⟩,sm,pO⟩;obtain⟨n,hv,rfl⟩:=qS hx;have hi:i<ns.length:=(cV.mp hv).1;have Wp:=hn n (cY hv);have tk:ns.take (i+1)=ns.take i++[n]:=by rw[ie,hv];rfl
   rw[tk,pC,ju];have dl:(dh (ns.take i) h).length<=5:=by rw[fZ,kI];lia
   refine⟨_,rfl,.inl ⟨rfl,_,bz.of pO⟩,_,rfl,_,rfl,_,_,rfl,rfl,(by show (0:Int)<(n:Int);lia),D,_,_,rfl,rfl,pO,by rw[bF];exact gi dl (by decide),?_⟩;refine⟨_,rfl,_,rfl,_,_,rfl,rfl,⟨by lia,by lia⟩,⟨some (.int n),?_⟩,cK sm hD,?_⟩
   .rw[<-og];rfl
   .rw[ag,<-h_];rfl
  .rintro σ H2 ⟨⟨x',rfl⟩,sm,pO⟩;rw[bF,jA] at pO;exact⟨_,rfl,k D H2 sm hD pO⟩
theorem NP:aA ["_law_sides_here","_law_house","_law_k","_law_by","_law_place_here"] ["_law_sides_here","_law_house","_law_k","_law_by"] (ak Sw):=⟨rfl,rfl,rfl,by decide +kernel,rfl,by decide +kernel,by decide +kernel⟩
def J5:Sp:=fun vs H Q _=>∃ (a:Addr) (ns:List Nat) (h k:Nat) (up:Bool),vs=[.ref a,.int h,.int k,.int (if up then 1 else -1)]/\H a=some (.tup (NV ns))/\Bx ns/\k<ns.length/\∀H',az H H'->Q (oV (vm ns h k up)) H'
theorem NQ{f:Addr}{fd:FuncData}(F:dH K "_law_step" "_law_step" Sw f fd)(PL:bQ P w K mg base a9 1 "_law_place" ["_law_sides_here","_law_house"] Aw)(MA:bQ P w K mg base a9 1 "_law_many" ["_law_sides_here"] Av):a7 P w K mg base a9 2 f fd ["_law_sides_here","_law_house","_law_k","_law_by"] J5:=by
 refine F.ok NP (fun vs H Q E h=>?_) (fun ce A outer s H vs Q E hr h=>?_)
 .obtain⟨a,ns,h,k,up,rfl,_⟩:=h;rfl
 .obtain⟨a,ns,h,k,up,rfl,ha,BX,hk,q⟩:=h;have h1:bv 1 _:=hr;refine⟨_,(ah (aL (i:=4) NP.nd rfl (Or.inl rfl) (av PL h1 aG (aa (pv 0) (aa (pv 1) af))))
   (ah (a8 (cq (BM BJ yd ap (aP cj (be bC (pv 4) (pv 2) (fun _ _=>rfl)) (pv 3)) (be bN (pv 0) (pv 2) (fun _ _=>rfl)))) (aj (aE dk)) aI)
   (aj (aE (aP cj (pv 1) (aP lV (pv 3) (av MA h1 aG (aa (de dY (pv 0) eI (dA (pv 2))) af)))))))),?_⟩
  generalize J6:(if up=true then (1:Int) else -1)=u;have gk:=BX.gd hk;have gd:(NV ns)[k]?=some (.int ((ns.getD k 0:Nat):Int)):=by
   rw[bX,bZ hk,cf,bZ hk];rfl
  refine⟨_,rfl,_,rfl,a,ns,h,rfl,ha,BX,fun r H1 s1 Y_ vk=>?_⟩;have dl:=Du (h:=h) BX.pos hk;have key:(0<=(((dh ns h).getD k 0:Nat):Int)+u/\(((dh ns h).getD k 0:Nat):Int)+u<((ns.getD k 0:Nat):Int))/\(∃y:Nat,vm ns h k up=some y/\(h:Int)+u*((pr (ns.take k):Nat):Int)=(y:Int))\/¬ (0<=(((dh ns h).getD k 0:Nat):Int)+u/\(((dh ns h).getD k 0:Nat):Int)+u<((ns.getD k 0:Nat):Int))/\vm ns h k up=none:=by
   unfold vm;cases up with
   |true=>
    have J6:(1:Int)=u:=J6;rw[<-J6,am rfl];by_cases c:(dh ns h).getD k 0+1<ns.getD k 0
    .exact .inl ⟨⟨by lia,by lia⟩,h+pr (ns.take k),am c,by lia⟩
    .exact .inr ⟨fun z=>c (by lia),ao c⟩
   |false=>
    have J6:(-1:Int)=u:=J6;rw[<-J6,ao (by decide)];by_cases c:1<=(dh ns h).getD k 0
    .have:=HQ hk c;exact .inl ⟨⟨by lia,by lia⟩,h-pr (ns.take k),am c,by lia⟩
    .exact .inr ⟨fun z=>c (by lia),ao c⟩
  have Za:-(2 ^ 64)<u/\u<2 ^ 64:=by rw[<-J6];split <;> decide
  have q1:=q H1 s1;have dt:∀y:Nat,vm ns h k up=some y->(h:Int)+u*((pr (ns.take k):Nat):Int)=(y:Int)->Im (mR (ER fun i j=>.int (i+j)) (br 1) (mR (rI BG fun i j=>.int (i*j)) (br 3) (mS Av [] E0 (aY (Pz qc (br 0) fU (yh (br 2))) dJ)))) { nx:=fun _ H'=>Q .bi H',rt:=Q } [some (.ref a),some (.int (h:Int)),some (.int (k:Int)),some (.int u),some (.ref r)] H1:=fun y hy e=>by
   refine⟨_,rfl,_,rfl,_,rfl,_,rfl,_,rfl,a,_,rfl,s1 _ _ ha,fun t H2 s2 ht=>?_⟩;rw[DL,show (NV ns).take k=NV (ns.take k) from (List.map_take).symm] at ht;refine⟨t,ns.take k,rfl,ht,fun x hx=>(BX.sd x (on hx)).2,_,_,rfl,rfl,.inl Za,_,_,rfl,rfl,?_⟩;have:=q H2 (s1.trans s2);rw[hy] at this;have e':(fun (i j:Int)=>i+j) (h:Int) ((fun (i j:Int)=>i*j) u ((pr (ns.take k):Nat):Int))=(y:Int):=e;show Q (.int _) _;rw[e];exact this
  refine⟨_,rfl,_,rfl,r,_,_,_,rfl,rfl,bz.of vk,aJ (lm hk),_,rfl,_,_,rfl,rfl,_,_,rfl,rfl,_,rfl,?_⟩;rcases key with ⟨⟨c1,c2⟩,y,hy,e⟩|⟨c,hy⟩
  .refine fN (bH c1) ⟨_,rfl,_,rfl,a,_,_,_,rfl,rfl,bD.of (s1 _ _ ha),aJ gd,_,_,rfl,rfl,_,rfl,eh (by rw[bH c2];rfl) (dt y hy e)⟩
  .rw[hy] at q1;refine ei (fun c1=>⟨_,rfl,_,rfl,a,_,_,_,rfl,rfl,bD.of (s1 _ _ ha),aJ gd,_,_,rfl,rfl,_,rfl,fN (by rw[dE fun c2=>c ⟨fc c1,c2⟩];rfl) q1⟩) (fun c1=>⟨_,rfl,fK q1⟩)
end
abbrev Sy:Stmt:=fk 65
abbrev Sz:Stmt:=fk 66
theorem DN:(["_law_other"]:List Str).Nodup:=by decide +kernel
theorem fQ:(["_law_k","_law_sides_here","_law_house","_law_home"]:List Str).Nodup:=by decide +kernel
theorem zc{β:Type}{K:PySem.W.Frag}{a D:Addr}{g:TG}{tt:TT}{te:TE}{dt:Hp->Prop}{σB:St}{H0:Hp}(ms:List β)(e:β->V)(c:β->Bool)(G:β->V)(dj:St->Prop)(ha:H0 a=some (.lst (ms.map e)))(hD:H0 D=none)(hn:ms.length<=1000)(h0:dj σB)(hs:∀m σ H (Kt:V->St->Hp->Prop) (Kf:St->Hp->Prop),m∈ms->dj σ->az H0 H->(∀σ2 H2,dj σ2->az H H2->c m=true->Kt (G m) σ2 H2)->(∀σ2 H2,dj σ2->az H H2->c m=false->Kf σ2 H2)->
   g (e m) σ H fun σ2 H2=>tt σ2 H2 fun b H3=>if b=true then te σ2 H3 fun v H4=>Kt v σ2 H4 else Kf σ2 H3)(hd:∀H,az H0 H->H D=some (.lst ((ms.filter c).map G))->dt H):jE (EQ K a) g tt te D dt σB (upd H0 D (.lst [])):=by
 refine gz (xs:=ms.map e) (fun i ys σ H=>dj σ/\az H0 H/\H D=some (.lst ys)/\ys=((ms.take i).filter c).map G) ⟨h0,ai hD,ag,rfl⟩ (fun i ys σ H _ z=>bz.of (z.2.1 _ _ ha)) ?_ ?_
 .rintro i x ys σ H Kt Kf hx ⟨sh,sm,p8,rfl⟩ kt kf;rw[bX] at hx;obtain⟨y,hy,rfl⟩:=Option.map_eq_some_iff.mp hx;have tk:ms.take (i+1)=ms.take i++[y]:=by rw[ie,hy];rfl
  refine hs y σ H Kt Kf (cY hy) sh sm (fun σ2 H2 Am s2 e=>?_) (fun σ2 H2 Am s2 e=>?_)
  .refine kt _ _ _ (s2 _ _ p8) ?_ ⟨Am,cK (sm.trans s2) hD,ag,?_⟩
   .rw[bp];exact gi (bq (mE _ _) (List.length_take_le' _ _)) (gi hn (by decide))
   .rw[tk,iy,dF,fF,e];rfl
  .refine kf _ _ ⟨Am,sm.trans s2,s2 _ _ p8,?_⟩;rw[tk,iy,fF,e];simp
 .rintro ys σ H ⟨_,sm,p8,rfl⟩;rw[bp,jA] at p8;exact hd H sm p8
theorem zd{lo:Int}{n:Nat}{D:Addr}{g:TG}{tt:TT}{te:TE}{dt:Hp->Prop}{σB:St}{H0:Hp}(c:Nat->Bool)(dj:St->Prop)(hD:H0 D=none)(hn:n<=1000)(h0:dj σB)(hs:∀x σ H (Kt:V->St->Hp->Prop) (Kf:St->Hp->Prop),x<n->dj σ->az H0 H->(∀σ2 H2,dj σ2->az H H2->c x=true->Kt (.int (lo+(x:Nat))) σ2 H2)->(∀σ2 H2,dj σ2->az H H2->c x=false->Kf σ2 H2)->
   g (.int (lo+(x:Nat))) σ H fun σ2 H2=>tt σ2 H2 fun b H3=>if b=true then te σ2 H3 fun v H4=>Kt v σ2 H4 else Kf σ2 H3)(hd:∀H,az H0 H->H D=some (.lst (((List.range n).filter c).map fun (x:Nat)=>V.int (lo+(x:Int))))->dt H):jE (By lo n) g tt te D dt σB (upd H0 D (.lst [])):=by
 refine et (fun i ys σ H=>dj σ/\az H0 H/\H D=some (.lst ys)/\ys=((List.range i).filter c).map fun (x:Nat)=>V.int (lo+(x:Int))) ⟨h0,ai hD,ag,rfl⟩ ?_ ?_
 .rintro i ys σ H Kt Kf hi ⟨sh,sm,p8,rfl⟩ kt kf;refine hs i σ H Kt Kf hi sh sm (fun σ2 H2 Am s2 e=>?_) (fun σ2 H2 Am s2 e=>?_)
  .refine kt _ _ _ (s2 _ _ p8) ?_ ⟨Am,cK (sm.trans s2) hD,ag,?_⟩
   .rw[bp];refine gi (mE _ _) ?_;rw[kH];exact cM (show i<1000 by lia) (by decide)
   .rw[kJ,iy,dF];simp[fF,e]
  .refine kf _ _ ⟨Am,sm.trans s2,s2 _ _ p8,?_⟩;rw[kJ,iy];simp[fF,e]
 .rintro ys σ H ⟨_,sm,p8,rfl⟩;exact hd H sm p8
theorem mw{e:V->V->Bool}:∀ {xs:List V},fV e xs []=decide (xs=[])
 |[]=>rfl
 |x::xs=>by simp[fV]
def xR(ns:List Nat)(h k:Nat):List Nat:=(vm ns h k false).toList++(vm ns h k true).toList
theorem xS{ns:List Nat}{h g k:Nat}(hp:∀x∈ns,0<x)(hk:k<ns.length):g∈xR ns h k↔JO ns h g k:=by
 unfold xR JO;rw[cP,Option.mem_toList,Option.mem_toList,Dx hp hk,xP hp hk,or_comm];refine or_congr ?_ ?_
 .unfold vm;rw[am rfl];by_cases c:(dh ns h).getD k 0+1<ns.getD k 0
  .rw[am c];exact⟨fun z=>⟨c,(bS z).symm⟩,fun z=>by rw[z.2]⟩
  .rw[ao c];exact⟨fun z=>(nomatch z),fun z=>absurd z.1 c⟩
 .unfold vm;rw[ao (by decide)];by_cases c:1<=(dh ns h).getD k 0
  .have:=HQ hk c;rw[am c];exact⟨fun z=>⟨c,by have:=bS z;lia⟩,fun z=>congrArg some (by lia)⟩
  .rw[ao c];exact⟨fun z=>(nomatch z),fun z=>absurd z.1 c⟩
theorem Ax{a b:Option Nat}:([a,b].filter Option.isSome).map oV=NV (a.toList++b.toList):=by cases a <;> cases b <;> rfl
theorem Gh{n:Nat}{c:Nat->Bool}:(NV ((List.range n).filter c))[0]?=((List.range n).find? c).map fun (k:Nat)=>V.int (k:Int):=by
 rw[bX,<-List.head?_eq_getElem?,List.head?_filter]
section
variable {P:Program} {w:World} {K:PySem.W.Frag} {mg:Str->Option Value} {base:Heap}
theorem SA:aA ["_law_sides_here","_law_house","_law_k"] ["_law_sides_here","_law_house","_law_k"] (ak Sy):=⟨rfl,rfl,rfl,by decide +kernel,rfl,by decide +kernel,by decide +kernel⟩
def DO:Sp:=fun vs H Q _=>∃ (a:Addr) (ns:List Nat) (h k:Nat),vs=[.ref a,.int h,.int k]/\H a=some (.tup (NV ns))/\Bx ns/\k<ns.length/\∀ (r:Addr) (H':Hp),az H H'->H r=none->H' r=some (.lst (NV (xR ns h k)))->Q (.ref r) H'
theorem NR{f:Addr}{fd:FuncData}(F:dH K "_law_ties" "_law_ties" Sy f fd)(ST:bQ P w K mg base a9 2 "_law_step" ["_law_sides_here","_law_house","_law_k","_law_by"] J5):a7 P w K mg base a9 3 f fd ["_law_sides_here","_law_house","_law_k"] DO:=by
 refine F.ok SA (fun vs H Q E h=>?_) (fun ce A outer s H vs Q E hr h=>?_)
 .obtain⟨a,ns,h,k,rfl,_⟩:=h;rfl
 .obtain⟨a,ns,h,k,rfl,ha,BX,hk,q⟩:=h;refine'⟨_,(aj (aE ?c1)),?_⟩;case c1=>
   refine' dQ (g:=(cI 0)) (tt:=(kO (mR (fun x y H Q=>y=.bi/\Q (.bl (!decide (x=.bi))) H) (br 0) (tC .bi)))) (te:=(br 0)) (NB:=["_law_other"]) (src:=[none]) (dq (by kernel_rfl)) rfl (dN (bw (aa (av ST hr aG (aa (pv 0) (aa (pv 1) (aa (pv 2) (aa (BF wN ap) af))))) (aa (av ST hr aG (aa (pv 0) (aa (pv 1) (aa (pv 2) (aa ap af))))) af)))) ?g ?t ?e;case g=>exact fun cl C s₃ H₃ fp=>(aB (i:=0) DN rfl (Or.inl rfl) (Or.inr rfl))
   case t=>exact fun cl C s₃ H₃ fp=>fv (aM nR (pv 0) dk (aQ _))
   case e=>exact fun cl C s₃ H₃ fp=>(pv 0)
  refine⟨_,rfl,_,rfl,_,rfl,_,rfl,a,ns,h,k,false,rfl,ha,BX,hk,fun H1 s1=>⟨_,rfl,_,rfl,_,rfl,a,ns,h,k,true,rfl,s1 _ _ ha,BX,hk,fun H2 s2=>⟨by show 2<=sizeLine;decide,fun L hL=>⟨_,rfl,⟨_,bz.of ag⟩,fun D hD=>?_⟩⟩⟩⟩;have s3:=(s1.trans s2).trans (ai (o:=.lst [oV (vm ns h k false),oV (vm ns h k true)]) hL);refine zc [vm ns h k false,vm ns h k true] oV Option.isSome oV (fun σ=>∃b,σ=[b]) ag hD (by show 2<=1000;decide) ⟨_,rfl⟩ ?_ ?_
  .rintro m σ H5 Kt Kf hm ⟨b',rfl⟩ s5 kt kf;refine⟨_,rfl,rfl,_,rfl,?_⟩;cases m with
   |none=>exact dP (kf _ _ ⟨_,rfl⟩ (az.refl _) rfl)
   |some y=>exact fN rfl ⟨_,rfl,kt _ _ ⟨_,rfl⟩ (az.refl _) rfl⟩
  .intro H5 s5 vn;rw[Ax] at vn;exact q D H5 (s3.trans s5) (s3.free hD) vn
theorem NS:aA ["_law_sides_here","_law_house","_law_home","_law_unlike"] ["_law_sides_here","_law_house","_law_home"] (ak Sz):=⟨rfl,rfl,rfl,by decide +kernel,rfl,by decide +kernel,by decide +kernel⟩
def Gi:Sp:=fun vs H Q _=>∃ (a:Addr) (ns:List Nat) (h g:Nat),vs=[.ref a,.int h,.int g]/\H a=some (.tup (NV ns))/\Bx ns/\∀H',az H H'->Q (oV (qW ns h g)) H'
theorem NU{f:Addr}{fd:FuncData}(F:dH K "_law_phase" "_law_phase" Sz f fd)(B:Bl mg)(PL:bQ P w K mg base a9 1 "_law_place" ["_law_sides_here","_law_house"] Aw):a7 P w K mg base a9 2 f fd ["_law_sides_here","_law_house","_law_home"] Gi:=by
 refine F.ok NS (fun vs H Q E h=>?_) (fun ce A outer s H vs Q E hr h=>?_)
 .obtain⟨a,ns,h,g,rfl,_⟩:=h;rfl
 .obtain⟨a,ns,h,g,rfl,ha,BX,q⟩:=h;have l5:=BX.l5;refine'⟨_,(ah (kh (i:=3) (g:=(cI 0)) (tt:=(kO (mR (Vp) (mR (E5 K) (mS Aw [] E0 (aY (br 1) (aY (br 2) dJ))) (br 0)) (mR (E5 K) (mS Aw [] E0 (aY (br 1) (aY (br 3) dJ))) (br 0))))) (te:=(br 0)) (NB:=["_law_k","_law_sides_here","_law_house","_law_home"]) (src:=[none,some 0,some 1,some 2]) (dq (by kernel_rfl)) rfl (bh rfl B.range (aa (au aD (by rfl) B.len cG (aa (pv 0) af)) af)) ?g1 ?t1 ?e1 NS.nd rfl rfl rfl)
   (aj (aE (Bj (aM (CD (e:=qy) hr.u) (pv 3) (bw af) (aQ _)) (be bC (pv 3) ap (fun _ _=>rfl)) dk)))),?_⟩
  case g1=>exact fun cl C s₃ H₃ fp=>(aB (i:=0) fQ rfl (Or.inl rfl) (Or.inr rfl))
  case t1=>exact fun cl C s₃ H₃ fp=>fv (aM oW (be bC (av PL hr aG (aa (pv 1) (aa (pv 2) af))) (pv 0) (fun _ _=>rfl)) (be bC (av PL hr aG (aa (pv 1) (aa (pv 3) af))) (pv 0) (fun _ _=>rfl)) (aQ _))
  case e1=>exact fun cl C s₃ H₃ fp=>(pv 0)
  refine⟨_,rfl,a,_,rfl,.inr (bD.of ha),_,rfl,by lia,by rw[bF];lia,fun D hD=>?_⟩;rw[bF];refine zd (lo:=0) (n:=ns.length) (fun i=>decide ((dh ns h).getD i 0≠(dh ns g).getD i 0)) (fun σ=>∃b,σ=[b,some (.ref a),some (.int (h:Int)),some (.int (g:Int))]) hD (by lia) ⟨_,rfl⟩ ?_ ?_
  .rintro j σ H5 Kt Kf hj ⟨b',rfl⟩ s5 kt kf;rw[dv] at kt |-;refine⟨_,rfl,_,rfl,a,ns,h,rfl,s5 _ _ ha,BX,fun r1 H6 s6 _ vk=>⟨_,rfl,r1,_,_,_,rfl,rfl,bz.of vk,aJ (lm hj),?_⟩⟩;refine⟨_,rfl,_,rfl,a,ns,g,rfl,s6 _ _ (s5 _ _ ha),BX,fun r2 H7 s7 _ yZ=>⟨_,rfl,r2,_,_,_,rfl,rfl,bz.of yZ,aJ (lm hj),rfl,_,rfl,?_⟩⟩;have Wx:=s6.trans s7;by_cases c:(dh ns h).getD j 0=(dh ns g).getD j 0
   .rw[c,bH rfl];exact dP (kf _ _ ⟨_,rfl⟩ Wx (dE fun z=>z c))
   .rw[dE (fun z=>c (by injection z with z;exact d9 z))];exact fK ⟨_,rfl,kt _ _ ⟨_,rfl⟩ Wx (bH c)⟩
  intro H5 s5 vn;rw[show (((List.range ns.length).filter fun i=>decide ((dh ns h).getD i 0≠(dh ns g).getD i 0)).map fun (x:Nat)=>V.int (0+(x:Int)))=NV ((List.range ns.length).filter fun i=>decide ((dh ns h).getD i 0≠(dh ns g).getD i 0)) from mG fun x _=>by rw[dv]] at vn;have hf:=Gh (n:=ns.length) (c:=fun i=>decide ((dh ns h).getD i 0≠(dh ns g).getD i 0));refine⟨_,rfl,by show 0<=sizeLine;decide,fun E1 NW=>?_⟩;have sE:=ai (o:=.lst []) NW;refine⟨D,E1,_,[],rfl,rfl,bz.of (sE _ _ vn),bz.of ag,fun i h1 h2=>absurd h2 (by simp),_,rfl,?_⟩;rw[am rfl,mw];have q1:=q _ (s5.trans sE);unfold qW at q1;cases hp:(List.range ns.length).find? fun i=>decide ((dh ns h).getD i 0≠(dh ns g).getD i 0) with
  |none=>
   rw[hp] at q1 hf;have e:NV ((List.range ns.length).filter fun i=>decide ((dh ns h).getD i 0≠(dh ns g).getD i 0))=[]:=AV (by have:=A_.mp hf;lia);rw[bH e];exact dP q1
  |some k=>
   rw[hp] at q1 hf;rw[dE (fun z=>by rw[z] at hf;cases hf)];exact fK ⟨_,rfl,D,_,_,_,rfl,rfl,bz.of (sE _ _ vn),aJ (j:=0) hf,q1⟩
end
end pi
namespace L2
open PySem PySem.Spec PyProof.Rows
def NX(K:PySem.W.Frag)(Dc:Addr)(i:Nat)(tb:(St->XK)->TS)(th:Addr->TS):TS:=fun D σ H=>∃E,Mt K Dc i E (tb E) th D σ H
theorem Gj{X:Cx}{body ul:List Stmt}{b₀:Stmt}{x n:Str}{np um pos:Pos}{Dc:Addr}{i:Nat}{tb:(St->XK)->TS}{th:Addr->TS}(TD:iS X.K Dc)(hg:Gl X x)(hm:X.mg x=some (.ref Dc))(eV:X.stack=X.env::X.outer)(Bd:X.env.frame=some X.env.locals)(hN:X.N.Nodup)(hi:X.N[i]?=some n)(hn:X.env.scope.names.lookup n=some .local)(hb:∀E pn xe,kX (d0 X.prog X.w) (X.eZ pn xe) E->pL (X.eZ pn xe) body (tb E))(hh:∀pn p,pL (X.dR pn p) (b₀::ul) (th p))(nk:(x==("__debug__":Str))=false:=by decide):
  PS X (.Try body [.ExceptHandler (some (.Name x np)) (some n) (b₀::ul) um] [] [] pos) (NX X.K Dc i tb th):=by
 intro ae s σ H D I h;obtain⟨E,h⟩:=h;exact IS (E:=E) TD hg hm eV Bd hN hi hn (hb E) hh nk ae s σ H D I h
theorem u8{G:Hp->Prop}{lo:Int}{n:Nat}{D:Addr}{g:TG}{tt:TT}{te:TE}{dt:Hp->Prop}{σB:St}{H0:Hp}(Pv:Nat->List V->St->Hp->Prop)(h0:Pv 0 [] σB H0)(hG:∀i ys σ H,Pv i ys σ H->G H)(hs:∀i ys σ H (Kt:V->St->Hp->Prop) (Kf:St->Hp->Prop),i<n->Pv i ys σ H->
   (∀v σ2 H4,H4 D=some (.lst ys)->ys.length<sizeLine->Pv (i+1) (ys++[v]) σ2 (upd H4 D (.lst (ys++[v])))->Kt v σ2 H4)->(∀σ2 H3,Pv (i+1) ys σ2 H3->Kf σ2 H3)->
   g (.int (lo+i)) σ H fun σ2 H2=>tt σ2 H2 fun b H3=>if b=true then te σ2 H3 fun v H4=>Kt v σ2 H4 else Kf σ2 H3)(hd:∀ys σ H,Pv n ys σ H->dt H):oZ G (By lo n) g tt te D dt σB H0:=by
 obtain⟨W,w0,st⟩:=et (lo:=lo) (n:=n) (fun i ys σ H=>Pv i ys σ H) h0 hs hd;refine⟨fun i m σ H=>m=n-i/\i<=n/\∃ys,Pv i ys σ H,⟨n,by simp,cR _,[],h0⟩,?_⟩;rintro i m σ H ⟨rfl,hi,ys,p⟩;refine⟨hG _ _ _ _ p,?_⟩;by_cases eW:i<n
 .refine .inr ⟨eW,?_⟩;rintro x H' ⟨rfl,rfl⟩;exact hs i ys σ _ (fun v σ2 H4=>∃ys,H4 D=some (.lst ys)/\ys.length<sizeLine/\∃m',m'<n-i/\m'=n-(i+1)/\i+1<=n/\∃uB,Pv (i+1) uB σ2 (upd H4 D (.lst (ys++[v]))))
   (fun σ2 H3=>∃m',m'<n-i/\m'=n-(i+1)/\i+1<=n/\∃uB,Pv (i+1) uB σ2 H3) eW p
   (fun v σ2 H4 z1 z2 z3=>⟨ys,z1,z2,_,by lia,rfl,eW,_,z3⟩) (fun σ2 H3 z=>⟨_,by lia,rfl,eW,_,z⟩)
 .obtain rfl:i=n:=by lia
  exact .inl ⟨aO _,hd ys σ H p⟩
end L2
namespace pi
open PySem L2 iZ
abbrev SB:Stmt:=fk 71
theorem Ay:(["_law_k","_law_some"]:List Str).Nodup:=by decide +kernel
theorem SC:∀j,j<12->(List.range 12).filter (fun k=>decide (k=j))=[j]:=by decide +kernel
theorem NY:bootBuiltins "ValueError"=some (.type "ValueError"):=by decide +kernel
structure Wy(mg:Str->Option Value)(c:Nat->Addr):Prop where
 e0:mg "NoNet"=some (.ref (c 0))
 e1:mg "NoShape"=some (.ref (c 1))
 e2:mg "NoTie"=some (.ref (c 2))
 e3:mg "NoText"=some (.ref (c 3))
 e4:mg "NoHouse"=some (.ref (c 4))
 e5:mg "NoRanks"=some (.ref (c 5))
 e6:mg "NoStand"=some (.ref (c 6))
 e7:mg "NoBerth"=some (.ref (c 7))
 e8:mg "NoHanding"=some (.ref (c 8))
 e9:mg "NoPlan"=some (.ref (c 9))
 Zb:mg "TooMany"=some (.ref (c 10))
 Zc:mg "NoRow"=some (.ref (c 11))
structure Wz(K:PySem.W.Frag)(c:Nat->Addr)(CE:Addr)(j:Nat):Prop where
 ok:iS K CE
 Zd:j<12
 kv:PySem.W.kitOne K (.ref CE) (.type "ValueError")=some true
 k0:PySem.W.kitOne K (.ref CE) (.ref (c 0))=some (decide (0=j))
 k1:PySem.W.kitOne K (.ref CE) (.ref (c 1))=some (decide (1=j))
 k2:PySem.W.kitOne K (.ref CE) (.ref (c 2))=some (decide (2=j))
 k3:PySem.W.kitOne K (.ref CE) (.ref (c 3))=some (decide (3=j))
 k4:PySem.W.kitOne K (.ref CE) (.ref (c 4))=some (decide (4=j))
 k5:PySem.W.kitOne K (.ref CE) (.ref (c 5))=some (decide (5=j))
 k6:PySem.W.kitOne K (.ref CE) (.ref (c 6))=some (decide (6=j))
 k7:PySem.W.kitOne K (.ref CE) (.ref (c 7))=some (decide (7=j))
 k8:PySem.W.kitOne K (.ref CE) (.ref (c 8))=some (decide (8=j))
 k9:PySem.W.kitOne K (.ref CE) (.ref (c 9))=some (decide (9=j))
 Ze:PySem.W.kitOne K (.ref CE) (.ref (c 10))=some (decide (10=j))
 Zf:PySem.W.kitOne K (.ref CE) (.ref (c 11))=some (decide (11=j))
section
variable {P:Program} {w:World} {K:PySem.W.Frag} {mg:Str->Option Value} {base:Heap}
theorem Gk:aA ["_law_e","_law_some"] ["_law_e"] (ak SB):=⟨rfl,rfl,rfl,by decide +kernel,rfl,by decide +kernel,by decide +kernel⟩
def Gm(K:PySem.W.Frag)(c:Nat->Addr):Sp:=fun vs H Q _=>∃ (x CE:Addr) (j:Nat),vs=[.ref x]/\Wz K c CE j/\H x=some (sq x (.ref CE))/\∀ (r:Addr) (H':Hp),az H H'->H' r=some (.lst [.int (j:Int)])->Q (.ref r) H'
theorem NZ{f:Addr}{c:Nat->Addr}{fd:FuncData}(F:dH K "_law_kinds" "_law_kinds" SB f fd)(B:Bl mg)(R:Wy mg c):qD P w K mg base (d0 P w) 1 f fd ["_law_e"] (Gm K c):=by
 refine F.XD Gk (fun vs H Q E h=>?_) (fun ce A outer s H vs Q E hr hd h=>?_)
 .obtain⟨x,CE,j,rfl,_⟩:=h;rfl
 .obtain⟨x,CE,j,rfl,kd,hx,q⟩:=h;refine'⟨_,(ah (aL (i:=1) Gk.nd rfl (Or.inr rfl) (bw (aa (au cy (by rfl) B.pN di (aa (pv 0) (aa (bV (v:=.ref (c 0)) rfl R.e0 rfl) af))) (aa (au cy (by rfl) B.pN di (aa (pv 0) (aa (bV (v:=.ref (c 1)) rfl R.e1 rfl) af))) (aa (au cy (by rfl) B.pN di (aa (pv 0) (aa (bV (v:=.ref (c 2)) rfl R.e2 rfl) af))) (aa (au cy (by rfl) B.pN di (aa (pv 0) (aa (bV (v:=.ref (c 3)) rfl R.e3 rfl) af))) af))))))
   (ah (aL (i:=1) Gk.nd rfl (Or.inr rfl) (aP l8 (pv 1) (bw (aa (au cy (by rfl) B.pN di (aa (pv 0) (aa (bV (v:=.ref (c 4)) rfl R.e4 rfl) af))) (aa (au cy (by rfl) B.pN di (aa (pv 0) (aa (bV (v:=.ref (c 5)) rfl R.e5 rfl) af))) (aa (au cy (by rfl) B.pN di (aa (pv 0) (aa (bV (v:=.ref (c 6)) rfl R.e6 rfl) af))) (aa (au cy (by rfl) B.pN di (aa (pv 0) (aa (bV (v:=.ref (c 7)) rfl R.e7 rfl) af))) af)))))))
   (ah (aL (i:=1) Gk.nd rfl (Or.inr rfl) (aP l8 (pv 1) (bw (aa (au cy (by rfl) B.pN di (aa (pv 0) (aa (bV (v:=.ref (c 8)) rfl R.e8 rfl) af))) (aa (au cy (by rfl) B.pN di (aa (pv 0) (aa (bV (v:=.ref (c 9)) rfl R.e9 rfl) af))) (aa (au cy (by rfl) B.pN di (aa (pv 0) (aa (bV (v:=.ref (c 10)) rfl R.Zb rfl) af))) (aa (au cy (by rfl) B.pN di (aa (pv 0) (aa (bV (v:=.ref (c 11)) rfl R.Zc rfl) af))) af)))))))
   (aj (aE ?c1))))),?_⟩
  case c1=>
   refine' Ch (g:=(cI 0)) (tt:=(tB (mR (E5 K) (br 1) (br 0)))) (te:=(br 0)) (NB:=["_law_k","_law_some"]) (src:=[none,some 1]) (dq (by kernel_rfl)) (bh rfl B.range (aa ap af)) ?g ?t ?e;case g=>exact fun cl C s₃ H₃ fp=>(aB (i:=0) Ay rfl (Or.inl rfl) (Or.inr rfl))
   case t=>exact fun cl C s₃ H₃ fp=>fv (bW (be bC (pv 1) (pv 0) (fun _ _=>rfl)))
   case e=>exact fun cl C s₃ H₃ fp=>(pv 0)
  refine⟨_,rfl,_,_,_,_,rfl,kd.k0,.exc kd.ok hx,_,rfl,_,_,_,_,rfl,kd.k1,.exc kd.ok hx,_,rfl,_,_,_,_,rfl,kd.k2,.exc kd.ok hx,_,rfl,_,_,_,_,rfl,kd.k3,.exc kd.ok hx,by show 4<=sizeLine;decide,fun l1 Le=>?_⟩;have s1:=ai (o:=.lst [V.bl (decide (0=j)),.bl (decide (1=j)),.bl (decide (2=j)),.bl (decide (3=j))]) Le;have g1:(upd H l1 (.lst [V.bl (decide (0=j)),.bl (decide (1=j)),.bl (decide (2=j)),.bl (decide (3=j))])) l1=some (.lst ((List.range 4).map fun i=>V.bl (decide (i=j)))):=ag;have x1:=s1 _ _ hx;generalize upd H l1 _=H1 at *;refine⟨_,rfl,_,rfl,_,_,_,_,rfl,kd.k4,.exc kd.ok x1,_,rfl,_,_,_,_,rfl,kd.k5,.exc kd.ok x1,_,rfl,_,_,_,_,rfl,kd.k6,.exc kd.ok x1,_,rfl,_,_,_,_,rfl,kd.k7,.exc kd.ok x1,by show 4<=sizeLine;decide,fun l2 Mb=>?_⟩;have s2:=ai (o:=.lst [V.bl (decide (4=j)),.bl (decide (5=j)),.bl (decide (6=j)),.bl (decide (7=j))]) Mb;refine⟨l1,l2,_,_,rfl,rfl,s2 _ _ g1,ag,by show 8<=sizeLine;decide,fun l3 Qd=>?_⟩;have s3:=s2.trans (ai (o:=.lst (((List.range 4).map fun i=>V.bl (decide (i=j)))++[V.bl (decide (4=j)),.bl (decide (5=j)),.bl (decide (6=j)),.bl (decide (7=j))])) Qd);have g3:(upd (upd H1 l2 (.lst [V.bl (decide (4=j)),.bl (decide (5=j)),.bl (decide (6=j)),.bl (decide (7=j))])) l3 (.lst (((List.range 4).map fun i=>V.bl (decide (i=j)))++[V.bl (decide (4=j)),.bl (decide (5=j)),.bl (decide (6=j)),.bl (decide (7=j))]))) l3=some (.lst ((List.range 8).map fun i=>V.bl (decide (i=j)))):=ag;have x3:=s3 _ _ x1;have qY:=s1.trans s3;generalize upd (upd H1 l2 _) l3 _=H3 at *;refine⟨_,rfl,_,rfl,_,_,_,_,rfl,kd.k8,.exc kd.ok x3,_,rfl,_,_,_,_,rfl,kd.k9,.exc kd.ok x3,_,rfl,_,_,_,_,rfl,kd.Ze,.exc kd.ok x3,_,rfl,_,_,_,_,rfl,kd.Zf,.exc kd.ok x3,by show 4<=sizeLine;decide,fun l4 Zg=>?_⟩;have s4:=ai (o:=.lst [V.bl (decide (8=j)),.bl (decide (9=j)),.bl (decide (10=j)),.bl (decide (11=j))]) Zg;refine⟨l3,l4,_,_,rfl,rfl,s4 _ _ g3,ag,by show 12<=sizeLine;decide,fun l5 Zh=>?_⟩;have s5:=s4.trans (ai (o:=.lst (((List.range 8).map fun i=>V.bl (decide (i=j)))++[V.bl (decide (8=j)),.bl (decide (9=j)),.bl (decide (10=j)),.bl (decide (11=j))])) Zh);have g5:(upd (upd H3 l4 (.lst [V.bl (decide (8=j)),.bl (decide (9=j)),.bl (decide (10=j)),.bl (decide (11=j))])) l5 (.lst (((List.range 8).map fun i=>V.bl (decide (i=j)))++[V.bl (decide (8=j)),.bl (decide (9=j)),.bl (decide (10=j)),.bl (decide (11=j))]))) l5=some (.lst ((List.range 12).map fun i=>V.bl (decide (i=j)))):=ag;have EE:=qY.trans s5;generalize upd (upd H3 l4 _) l5 _=H5 at *;have Lq:=hd.same EE;refine⟨(12:Int),rfl,by decide,by decide,fun D hD=>?_⟩;refine u8 (lo:=0) (n:=12) (fun i ys σ H6=>(∃u,σ=[u,some (.ref l5)])/\az H5 H6/\H6 D=some (.lst ys)/\ys=NV ((List.range i).filter fun k=>decide (k=j))) ⟨⟨_,rfl⟩,ai hD,ag,rfl⟩ (fun i ys σ H6 z=>(Lq.same z.2.1).EO) ?_ ?_
  .rintro i ys σ H6 Kt Kf hi ⟨⟨u,rfl⟩,sm,AO,rfl⟩ kt kf;rw[dv];refine⟨_,rfl,_,rfl,l5,_,_,_,rfl,rfl,bz.of (sm _ _ g5),aJ (j:=i) (by rw[bX,List.getElem?_range hi];rfl),_,rfl,?_⟩;refine ei (fun e=>?_) (fun e=>?_)
   .refine⟨_,rfl,kt _ _ _ AO ?_ ⟨⟨_,rfl⟩,cK sm ?_,ag,?_⟩⟩
    .rw[bF];exact gi (mE _ _) (by rw[kH];exact cM (show i<12 from hi) (by decide))
    .exact hD
    .rw[kJ,iy,fF,am e,List.filter_nil];exact h_
   .refine kf _ _ ⟨⟨_,rfl⟩,sm,AO,?_⟩;rw[kJ,iy,fF,ao e,List.filter_nil,oG]
  .rintro ys σ H6 ⟨_,sm,AO,rfl⟩;refine q D H6 (EE.trans sm) ?_;rw[AO];congr 2;rw[SC j kd.Zd];rfl
end
abbrev SD:Stmt:=fu (fk 57) 5
abbrev SE:Stmt:=fk 25
abbrev SF:Stmt:=fk 26
abbrev SG:Stmt:=fk 27
abbrev SH:Stmt:=fk 28
abbrev SJ:Stmt:=fk 29
abbrev SK:Stmt:=fk 33
theorem Gn:(["letter","came","stand","house"]:List Str).Nodup:=by decide +kernel
theorem J7{pn sr:Addr}:(DA pn sr).lookup ("way":Str)=none:=tw (by decide +kernel) (by decide +kernel)
theorem Go{pn sr:Addr}:(DA pn sr).lookup ("tied":Str)=none:=tw (by decide +kernel) (by decide +kernel)
theorem lq{K:PySem.W.Frag}{H:Hp}{i:Int}:tV K H (.int i) (some i):=fun _ _=>.int i
theorem J8{ns:List Nat}{h g:Nat}(BX:Bx ns)(hh:h<pr ns)(hg:g<pr ns):DG ns (some (h:Int)) (some (g:Int))=true↔∃k,JO ns h g k:=by
 rw[<-tq BX.pos hh hg];unfold DG;rw[fA hh,fA hg];show decide _=true↔_;rw[jQ];exact Iff.rfl
theorem J9{ns:List Nat}{h y k:Nat}(BX:Bx ns)(F:km (pr ns) (qX ns))(hh:h<pr ns)(hk:k<ns.length)(t:JO ns h y k):y<pr ns:=by
 rcases t with t|t
 .have m:((h:Int),(y:Int))∈qX ns:=eK.mpr (.inl (a_.mpr ⟨(h,y),mm.mpr ⟨hh,(Au BX.pos).mpr ⟨k,t⟩⟩,rfl⟩));have:=(F.rg _ m).2.2;exact Int.ofNat_lt.mp this
 .have:=((xP BX.pos hk).mp t).2;lia
theorem DP{lo:Int}{n:Nat}{D:Addr}{g:TG}{tt:TT}{te:TE}{dt:Hp->Prop}{σB:St}{H0:Hp}(c:Nat->Bool)(G:Nat->V)(dj:St->Prop)(hD:H0 D=none)(hn:n<=1000)(h0:dj σB)(hs:∀x σ H (Kt:V->St->Hp->Prop) (Kf:St->Hp->Prop),x<n->dj σ->az H0 H->(∀σ2 H2,dj σ2->az H H2->c x=true->Kt (G x) σ2 H2)->(∀σ2 H2,dj σ2->az H H2->c x=false->Kf σ2 H2)->
   g (.int (lo+(x:Nat))) σ H fun σ2 H2=>tt σ2 H2 fun b H3=>if b=true then te σ2 H3 fun v H4=>Kt v σ2 H4 else Kf σ2 H3)(hd:∀H,az H0 H->H D=some (.lst (((List.range n).filter c).map G))->dt H):jE (By lo n) g tt te D dt σB (upd H0 D (.lst [])):=by
 refine et (fun i ys σ H=>dj σ/\az H0 H/\H D=some (.lst ys)/\ys=((List.range i).filter c).map G) ⟨h0,ai hD,ag,rfl⟩ ?_ ?_
 .rintro i ys σ H Kt Kf hi ⟨sh,sm,p8,rfl⟩ kt kf;refine hs i σ H Kt Kf hi sh sm (fun σ2 H2 Am s2 e=>?_) (fun σ2 H2 Am s2 e=>?_)
  .refine kt _ _ _ (s2 _ _ p8) ?_ ⟨Am,cK (sm.trans s2) hD,ag,?_⟩
   .rw[bp];refine gi (mE _ _) ?_;rw[kH];exact cM (show i<1000 by lia) (by decide)
   .rw[kJ,iy,dF];simp[fF,e]
  .refine kf _ _ ⟨Am,sm.trans s2,s2 _ _ p8,?_⟩;rw[kJ,iy];simp[fF,e]
 .rintro ys σ H ⟨_,sm,p8,rfl⟩;exact hd H sm p8
theorem qZ{st:List (Option Nat)}{i:Nat}(h:i<st.length):(st.map oV)[i]?=some (oV (st.getD i none)):=by
 rw[bX,cf,bZ h];rfl
theorem jM{xs:List V}{i:Nat}(h:i<xs.length):xs[i]?=some (xs.getD i .bi):=by
 rw[cf,bZ h];rfl
theorem q0{ns:List Nat}{k:Nat}(hk:k<ns.length):(NV ns)[k]?=some (.int ((ns.getD k 0:Nat):Int)):=by
 rw[bX,bZ hk,cf,bZ hk];rfl
theorem DQ{o:Option Nat}{h:Nat}:Ix (oV o) (.int (h:Int))=true:=by cases o <;> rfl
theorem HR{o:Option Nat}{h:Nat}:decide (oV o=V.int (h:Int))=decide (o=some h):=by
 cases o with
 |none=>rfl
 |some y=>
  refine decide_eq_decide.mpr ⟨fun e=>?_,fun e=>by rw[bS e];rfl⟩;injection e with e;rw[d9 e]
theorem pE{i:Int}{xs:List V}(f:∀v∈xs,∃j:Int,v=.int j):zE (.int i) xs=true↔V.int i∈xs:=by
 unfold zE;rw[wn];constructor
 .rintro⟨v,hv,e⟩;obtain⟨j,rfl⟩:=f v hv;have:(j==i)=true\/(i==j)=true:=by first|exact .inl e|exact .inr e
  have:j=i:=by rcases this with t|t <;> simp at t <;> lia
  rw[<-this];exact hv
 .intro hv;exact⟨_,hv,by show (i==i)=true;simp⟩
theorem N0{xs:List V}(f:∀v∈xs,∃j:Int,v=.int j):xs.all fh=true:=ii.mpr fun x hx=>by obtain⟨y,rfl⟩:=f x hx;rfl
theorem oa{xs:List Nat}:∀v∈NV xs,∃j:Int,v=.int j:=fun v hv=>by obtain⟨y,_,rfl⟩:=a_.mp hv;exact⟨_,rfl⟩
theorem ze{K:PySem.W.Frag}{H:Hp}{i:Int}(h:Wh K H (.int i) none):False:=by
 cases h with
 |no h=>
  obtain⟨t,ty,z⟩:=h;cases ty with
  |of ty=>
   cases ty;rcases z with z|⟨_,z⟩
   .rw[i8] at z;cases z
   .rw[hZ] at z;cases z
theorem DS{ns:List Nat}{h g:Nat}(hh:h<pr ns)(hg:g<pr ns)(ne:h≠g):∃p,qW ns h g=some p:=by
 cases e:qW ns h g with
 |some p=>exact⟨p,rfl⟩
 |none=>
  refine absurd ?_ ne;have ed:dh ns h=dh ns g:=List.ext_getElem (fZ.trans fZ.symm) fun i h1 h2=>by
   have hi:i<ns.length:=by rw[<-fZ (ns:=ns) (h:=h)];exact h1
   have:=vY.mp e i (cX.mpr hi);simp only[lE,wc] at this;rw[cf,cf,bZ h1,bZ h2] at this;exact this
  rw[<-tm hh,<-tm hg,ed]
structure Sn(ns homes:List Nat)(st:List (Option Nat)):Prop where
 l:homes.length=st.length
 ok:∀i h,st.getD i none=some h->h<pr ns/\homes.getD i 0<pr ns/\h≠homes.getD i 0
 qd:st.length<=16
def Ln(ns:List Nat)(h g y:Nat):Prop:=∃k p,qW ns h g=some p/\JO ns h y k/\k<=p
def Bt(ns homes:List Nat)(st:List (Option Nat))(xs:List V)(i:Nat):Prop:=(st.getD i none=none->xs.getD i .bi=.bi)/\∀h,st.getD i none=some h->∃y:Nat,xs.getD i .bi=.int (y:Int)/\Ln ns h (homes.getD i 0) y/\∀j,j<i->st.getD j none=some h->xs.getD j .bi≠.int (y:Int)
def HU(ns homes:List Nat)(st:List (Option Nat))(xs:List V):Prop:=xs.length=st.length/\∀i,i<st.length->Bt ns homes st xs i
theorem xT{ns homes:List Nat}{st:List (Option Nat)}{xs:List V}{i:Nat}(e:st.getD i none=none):Bt ns homes st xs i↔xs.getD i .bi=.bi:=
 ⟨fun h=>h.1 e,fun h=>⟨fun _=>h,fun h' z=>by rw[e] at z;cases z⟩⟩
theorem zf{ns homes:List Nat}{st:List (Option Nat)}{xs:List V}{i h:Nat}(e:st.getD i none=some h):Bt ns homes st xs i↔∃y:Nat,xs.getD i .bi=.int (y:Int)/\Ln ns h (homes.getD i 0) y/\∀j,j<i->st.getD j none=some h->xs.getD j .bi≠.int (y:Int):=
 ⟨fun b=>b.2 h e,fun b=>⟨fun z=>(by rw[e] at z;cases z),fun h' z=>(by rw[e] at z;cases z;exact b)⟩⟩
section
variable {P:Program} {w:World} {K:PySem.W.Frag} {mg:Str->Option Value} {base:Heap}
theorem SL:aA ["self","house"] ["self","house"] (ak SD):=⟨rfl,rfl,rfl,by decide +kernel,rfl,by decide +kernel,by decide +kernel⟩
def J_(C CB:Addr):Sp:=fun vs H Q _=>∃ (L:Addr->Prop) (b:Addr) (ns:List Nat) (h:Nat),vs=[.ref b,.int h]/\eT C CB H L b ns/\h<pr ns/\∀ (r:Addr) (H':Hp),az H H'->H' r=some (.lst (NV (dX (pr ns) (qX ns) h)))->Q (.ref r) H'
theorem N2{f C CB CE:Addr}{fd:FuncData}(F:dH K "tied" "Box.tied" SD f fd)(T:NT K mg C)(TB:HN K mg CB)(MO:im P w K mg base (d0 P w) 5 C "out" ["self","house"] (yV K C CE FV)):a7 P w K mg base a9 6 f fd ["self","house"] (J_ C CB):=by
 obtain⟨fO,Y2,mO,bO,GO⟩:=MO.ex;refine F.ok SL (fun vs H Q E h=>?_) (fun ce A outer s H vs Q E hr h=>?_)
 .obtain⟨L,b,ns,h,rfl,_⟩:=h;rfl
 .obtain⟨L,b,ns,h,rfl,⟨BX,dx,pn,sr,hb,N,mv⟩,hh,q⟩:=h;obtain⟨Sl,tl,ol,ds,hN,_⟩:=N.ob;refine⟨_,aj (aE (dO (gZ (pv 0) rfl) T.cl mO GO hr bO .nil mV (aa (pv 1) af))),?_⟩;refine⟨_,rfl,b,CB,dx,_,_,rfl,hb,TB.cl,TB.nN,DB,pn,Sl,_,rfl,hN,JW _ _ _ _,_,rfl,L,pn,pr ns,_,_,_,rfl,N,.int _,(fun z=>by rw[fA hh] at z;cases z),fun i hi e r H1 s1 Y_ vk=>?_⟩;cases e;exact q r H1 s1 vk
theorem SO:aA ["stand","came","house"] ["stand","came","house"] (ak SG):=⟨rfl,rfl,rfl,by decide +kernel,rfl,by decide +kernel,by decide +kernel⟩
def Ka:Sp:=fun vs H Q _=>∃ (sa ca:Addr) (st:List (Option Nat)) (ys:List V) (h:Nat),vs=[.ref sa,.ref ca,.int h]/\H sa=some (.tup (st.map oV))/\H ca=some (.tup ys)/\ys.length<=st.length/\st.length<=16/\
 ∀ (r:Addr) (H':Hp),az H H'->H' r=some (.lst (((List.range ys.length).filter fun j=>decide (st.getD j none=some h)).map fun j=>ys.getD j .bi))->Q (.ref r) H'
theorem N3{f:Addr}{fd:FuncData}(F:dH K "came_by_at" "came_by_at" SG f fd)(B:Bl mg):a7 P w K mg base a9 1 f fd ["stand","came","house"] Ka:=by
 refine F.ok SO (fun vs H Q E h=>?_) (fun ce A outer s H vs Q E hr h=>?_)
 .obtain⟨sa,ca,st,ys,h,rfl,_⟩:=h;rfl
 .obtain⟨sa,ca,st,ys,h,rfl,ky,N4,ly,qd,q⟩:=h;refine'⟨_,(aj (aE ?c1)),?_⟩;case c1=>
   refine' dQ (g:=(cI 0)) (tt:=(kO (mR LW (mR (zD K) (br 2) (br 0)) (br 3)))) (te:=(mR (zD K) (br 1) (br 0))) (NB:=["letter","came","stand","house"]) (src:=[none,some 1,some 0,some 2]) (dq (by kernel_rfl)) rfl (bh rfl B.range (aa (au aD (by rfl) B.len cG (aa (pv 1) af)) af)) ?g ?t ?e;case g=>exact fun cl C s₃ H₃ fp=>(aB (i:=0) Gn rfl (Or.inl rfl) (Or.inr rfl))
   case t=>exact fun cl C s₃ H₃ fp=>fv (aM eN (be bN (pv 2) (pv 0) (fun _ _=>rfl)) (pv 3) (aQ _))
   case e=>exact fun cl C s₃ H₃ fp=>(be bN (pv 1) (pv 0) (fun _ _=>rfl))
  refine⟨_,rfl,ca,_,rfl,.inr (bD.of N4),_,rfl,by lia,by lia,fun D hD=>?_⟩;refine DP (lo:=0) (n:=ys.length) (fun j=>decide (st.getD j none=some h)) (fun j=>ys.getD j .bi) (fun σ=>∃u,σ=[u,some (.ref ca),some (.ref sa),some (.int (h:Int))]) hD (by lia) ⟨_,rfl⟩ ?_ ?_
  .rintro j σ H5 Kt Kf hj ⟨u,rfl⟩ s5 kt kf;rw[dv];refine⟨_,rfl,_,rfl,sa,_,_,_,rfl,rfl,bD.of (s5 _ _ ky),aJ (qZ (by lia)),_,rfl,DQ,_,rfl,?_⟩;rw[HR];refine ei (fun c=>⟨_,rfl,_,rfl,ca,_,_,_,rfl,rfl,bD.of (s5 _ _ N4),aJ (jM hj),kt _ _ ⟨_,rfl⟩ (az.refl _) c⟩) (fun c=>kf _ _ ⟨_,rfl⟩ (az.refl _) (mK.mpr c))
  .intro H5 s5 vn;exact q D H5 s5 vn
theorem N5:aA ["box","homes","stand","came","letter","house"] ["box","homes","stand","came","letter"] (ak SF):=⟨rfl,rfl,rfl,by decide +kernel,rfl,by decide +kernel,by decide +kernel⟩
def Kb(K:PySem.W.Frag)(C CB:Addr):Sp:=fun vs H Q _=>∃ (L:Addr->Prop) (b ha sa xa:Addr) (ns homes:List Nat) (st:List (Option Nat)) (xs:List V) (i:Nat),vs=[.ref b,.ref ha,.ref sa,.ref xa,.int i]/\eT C CB H L b ns/\H ha=some (.tup (NV homes))/\H sa=some (.tup (st.map oV))/\H xa=some (.tup xs)/\Sn ns homes st/\xs.length=st.length/\i<st.length/\(∀x∈xs,∃o,tV K H x o)/\(∀j,j<i->Bt ns homes st xs j)/\
 ∀ (H':Hp) (bb:Bool),az H H'->(bb=true↔Bt ns homes st xs i)->Q (.bl bb) H'
theorem N6{f C CB CE CT:Addr}{fd:FuncData}(F:dH K "is_berth" "is_berth" SF f fd)(TB:HN K mg CB)(W:bQ P w K mg base a9 1 "is_whole" ["thing"] (n6 K))(MT:im P w K mg base a9 6 CB "tied" ["self","house"] (J_ C CB))(MY:im P w K mg base (d0 P w) 7 CB "way" ["self","one","other"] (DI K C CB CT))(MP:im P w K mg base (d0 P w) 6 CB "phase" ["self","house","home"] (y_ K C CB CE))(CY:bQ P w K mg base a9 1 "came_by_at" ["stand","came","house"] Ka):
  a7 P w K mg base a9 8 f fd ["box","homes","stand","came","letter"] (Kb K C CB):=by
 obtain⟨fT,fdT,mT,bT,GT⟩:=MT.ex;obtain⟨fY,fdY,mY,bY,GY⟩:=MY.ex;obtain⟨fP,fdP,mP,bP,GP⟩:=MP.ex;refine F.ok N5 (fun vs H Q E h=>?_) (fun ce A outer s H vs Q E hr h=>?_)
 .obtain⟨L,b,ha,sa,xa,ns,homes,st,xs,i,rfl,_⟩:=h;rfl
 .obtain⟨L,b,ha,sa,xa,ns,homes,st,xs,i,rfl,BA,tW,ky,kF,SN,xl,hi,hW,hB,q⟩:=h;have h1:bv 1 _:=hr.mono (by decide);have h6:bv 6 _:=hr.mono (by decide);have h7:bv 7 _:=hr.mono (by decide);have BX:=BA.bx;obtain⟨dx,pn,sr,hb,N,mv⟩:=id BA.ob;have FI:=N.qa;refine⟨_,(ah (aL (i:=5) N5.nd rfl (Or.inl rfl) (be bN (pv 2) (pv 4) (fun _ _=>rfl)))
   (ah (a8 (aM rY (pv 5) dk (aQ _)) (aj (aE (ft rY (be bN (pv 3) (pv 4) (fun _ _=>rfl)) dk (aQ _)))) aI)
   (ah (a8 (PW.pt (oQ (cq (bW (av W h1 aG (aa (be bN (pv 3) (pv 4) (fun _ _=>rfl)) af)))) (j7 (aM kU (be bN (pv 3) (pv 4) (fun _ _=>rfl)) (dO (pv 0) TB.cl mT GT h6 bT .nil aG (aa (pv 5) af)) rfl)))) (aj (aE dw)) aI)
   (ah (a8 (aM qt (dO (pv 0) TB.cl mY GY h7 bY .nil mV (aa (pv 5) (aa (be bN (pv 3) (pv 4) (fun _ _=>rfl)) af))) (dO (pv 0) TB.cl mP GP h6 bP .nil mV (aa (pv 5) (aa (be bN (pv 1) (pv 4) (fun _ _=>rfl)) af))) (aQ _)) (aj (aE dw)) aI)
   (aj (aE (ft kU (be bN (pv 3) (pv 4) (fun _ _=>rfl)) (av CY h1 aG (aa (pv 2) (aa (de dY (pv 3) eI (dA (pv 4))) (aa (pv 5) af)))) rfl))))))),?_⟩
  have w4:i<xs.length:=by rw[xl];exact hi
  have gx:∀ {H':Hp},az H H'->bD K H' xa xs:=fun s=>bD.of (s _ _ kF);refine⟨_,rfl,_,rfl,sa,_,_,_,rfl,rfl,bD.of ky,aJ (qZ hi),?_⟩;cases ho:st.getD i none with
  |none=>
   refine⟨_,rfl,rfl,_,rfl,fK ⟨_,rfl,_,rfl,xa,_,_,_,rfl,rfl,gx (az.refl _),aJ (jM w4),rfl,?_⟩⟩;exact q H _ (az.refl _) (by rw[jQ,xT ho])
  |some h=>
  obtain⟨hh,hg,ka⟩:=SN.ok i h ho;obtain⟨p,hp⟩:=DS hh hg ka;have BS:=zf (ns:=ns) (homes:=homes) (xs:=xs) ho;obtain⟨o,wo⟩:=hW _ (show xs.getD i .bi∈xs by rw[cf,bZ w4];exact d7 w4);refine⟨_,rfl,rfl,_,rfl,eh rfl ?_⟩;refine⟨_,rfl,_,rfl,xa,_,_,_,rfl,rfl,gx (az.refl _),aJ (jM w4),_,o,rfl,wo _ (az.refl _),_,rfl,?_⟩;generalize hx:xs.getD i .bi=x at *;cases o with
  |none=>
   exact fK (fK (q H _ (az.refl _) (by rw[BS];exact⟨fun z=>(nomatch z),fun ⟨y,e,_⟩=>by rw[e] at wo;exact(ze (wo _ (az.refl _))).elim⟩)))
  |some v=>
  obtain rfl:=mq (wo _ (az.refl _));refine dP ⟨_,rfl,_,rfl,xa,_,_,_,rfl,rfl,gx (az.refl _),aJ (by rw[jM w4,hx]),_,rfl,b,dx,_,rfl,hb,Go,_,rfl,L,b,ns,h,rfl,BA,hh,fun r H1 s1 vk=>⟨r,_,rfl,.inl (bz.of vk),rfl,n_,_,rfl,?_⟩⟩;by_cases nA:V.int v∈NV (dX (pr ns) (qX ns) h)
  .obtain⟨y,hy,rfl⟩:∃y:Nat,y∈dX (pr ns) (qX ns) h/\v=(y:Int):=by
    obtain⟨y,hy,e⟩:=a_.mp nA;injection e with e;exact⟨y,hy,e.symm⟩
   rw[am rfl,(pE oa).mpr nA];refine dP ?_;have ht:((h:Int),(y:Int))∈qX ns:=(eS FI hh).mp hy;have Qe:y<pr ns:=Int.ofNat_lt.mp (FI.rg _ ht).2.2;have PP:=(J8 BX hh Qe)
   obtain⟨k,tk⟩:=(tq BX.pos hh Qe).mp ht;have SS:=PP.mpr ⟨k,tk⟩;refine⟨_,rfl,b,dx,_,rfl,s1 _ _ hb,J7,_,rfl,_,rfl,_,rfl,xa,_,_,_,rfl,rfl,gx s1,aJ (by rw[jM w4,hx]),L,b,ns,_,_,some (h:Int),some (y:Int),rfl,BA.same s1,lq,lq,(fun z=>by rw[SS] at z;cases z),fun h' y' _ _ e1 e2 _ H2 s2=>?_⟩;obtain rfl:h=h':=d9 (bS e1);obtain rfl:y=y':=d9 (bS e2);have yY:=s1.trans s2;refine⟨_,rfl,b,dx,_,rfl,yY _ _ hb,uZ,_,rfl,_,rfl,_,rfl,ha,_,_,_,rfl,rfl,bD.of (yY _ _ tW),aJ (q0 (by rw[SN.l];exact hi)),L,b,ns,_,_,some (h:Int),some (homes.getD i 0:Nat),rfl,BA.same yY,lq,lq,(fun z=>by rw[fA hh,fA hg] at z;rcases z with z|z <;> cases z),fun h' g' _ _ e1 e2 H3 s3=>?_⟩;obtain rfl:h=h':=d9 (bS e1);obtain rfl:homes.getD i 0=g':=d9 (bS e2);have qY:=yY.trans s3;refine⟨(k:Int),(p:Int),by rw[Dz tk];rfl,by rw[hp];rfl,_,rfl,ei (fun c=>?_) (fun c=>?_)⟩
   .have c:=fc c;refine q H3 _ qY ?_;rw[BS];refine⟨fun z=>(nomatch z),fun ⟨y',e,⟨k',p',e1,t',l⟩,_⟩=>?_⟩;injection e with e;obtain rfl:=d9 e;have a1:=bS ((Dz tk).symm.trans (Dz t'));have a2:=bS (hp.symm.trans e1);lia
   .have c:k<=p:=by
     by_cases z:k<=p
     .exact z
     .exact absurd (bH (by lia)) c
    refine⟨_,rfl,_,rfl,xa,_,_,_,rfl,rfl,gx qY,aJ (by rw[jM w4,hx]),_,rfl,_,rfl,_,rfl,_,rfl,xa,_,rfl,qY _ _ kF,fun t H4 s4 EF=>?_⟩;rw[DL] at EF;have lt:(xs.take i).length=i:=by rw[kI];lia
    refine⟨_,rfl,sa,t,st,xs.take i,h,rfl,s4 _ _ (qY _ _ ky),EF,by lia,SN.qd,fun r2 H5 s5 yZ=>?_⟩;rw[lt] at yZ;have qm:∀v∈((List.range i).filter fun j=>decide (st.getD j none=some h)).map fun j=>(xs.take i).getD j .bi,∃j:Int,v=.int j:=by
     intro v hv;obtain⟨j,hj,rfl⟩:=a_.mp hv;obtain⟨Gp,SU⟩:=eL.mp hj;have Gp:=cX.mp Gp;obtain⟨y',e,_⟩:=(hB j Gp).2 h (fc SU);refine⟨y',?_⟩;rw[<-e,cf,cf,ot Gp]
    refine⟨r2,_,rfl,.inl (bz.of yZ),rfl,N0 qm,?_⟩;rw[am rfl];refine q H5 _ ((qY.trans s4).trans s5) ?_;rw[BS,mJ,mK,Ne,pE qm];constructor
    .intro z;refine⟨y,rfl,⟨k,p,hp,tk,c⟩,fun j hj hs e=>z (a_.mpr ⟨j,eL.mpr ⟨cX.mpr hj,bH hs⟩,?_⟩)⟩;rw[<-e,cf,cf,ot hj]
    .rintro⟨y',e,_,z⟩ hm;injection e with e;obtain rfl:=d9 e;obtain⟨j,hj,e'⟩:=a_.mp hm;obtain⟨Gp,SU⟩:=eL.mp hj;have Gp:=cX.mp Gp;refine z j Gp (fc SU) ?_;rw[<-e',cf,cf,ot Gp]
  .have e0:zE (.int v) (NV (dX (pr ns) (qX ns) h))=false:=mK.mpr fun z=>nA ((pE oa).mp z);rw[am rfl,e0];refine fK (q H1 _ s1 ?_);rw[BS];refine⟨fun z=>(nomatch z),fun ⟨y,e,⟨k,p',e1,t,l⟩,_⟩=>?_⟩;injection e with e;subst e;have hk:k<ns.length:=by rcases t with z|z <;> exact Dv z
   have Qe:=J9 BX FI hh hk t;exact absurd (a_.mpr ⟨y,(eS FI hh).mpr ((tq BX.pos hh Qe).mpr ⟨k,t⟩),rfl⟩) nA
theorem u9{H H':Hp}{xs:List V}(h:∀x∈xs,∃o,tV K H x o)(s:az H H'):∀x∈xs,∃o,tV K H' x o:=fun x hx=>let ⟨o,w⟩:=h x hx;⟨o,fun H2 s2=>w H2 (s.trans s2)⟩
theorem N8:aA ["box","homes","stand","came","letter"] ["box","homes","stand","came"] (ak SE):=⟨rfl,rfl,rfl,by decide +kernel,rfl,by decide +kernel,by decide +kernel⟩
def Gq(K:PySem.W.Frag)(C CB:Addr):Sp:=fun vs H Q _=>∃ (L:Addr->Prop) (b ha sa xa:Addr) (ns homes:List Nat) (st:List (Option Nat)) (xs:List V),vs=[.ref b,.ref ha,.ref sa,.ref xa]/\eT C CB H L b ns/\H ha=some (.tup (NV homes))/\H sa=some (.tup (st.map oV))/\H xa=some (.tup xs)/\Sn ns homes st/\(∀x∈xs,∃o,tV K H x o)/\∀ (H':Hp) (bb:Bool),az H H'->(bb=true↔HU ns homes st xs)->Q (.bl bb) H'
theorem N9{f C CB:Addr}{fd:FuncData}(F:dH K "is_berthed" "is_berthed" SE f fd)(B:Bl mg)(RW:bQ P w K mg base a9 1 "is_row" ["thing","length"] (uT K))(BE:bQ P w K mg base a9 8 "is_berth" ["box","homes","stand","came","letter"] (Kb K C CB)):a7 P w K mg base a9 9 f fd ["box","homes","stand","came"] (Gq K C CB):=by
 refine F.ok N8 (fun vs H Q E h=>?_) (fun ce A outer s H vs Q E hr h=>?_)
 .obtain⟨L,b,ha,sa,xa,ns,homes,st,xs,rfl,_⟩:=h;rfl
 .obtain⟨L,b,ha,sa,xa,ns,homes,st,xs,rfl,BA,tW,ky,kF,SN,hW,q⟩:=h;have h1:bv 1 _:=hr.mono (by decide);have qd:=SN.qd;refine⟨_,(ah (a8 (cq (bW (av RW h1 aG (aa (pv 3) (aa (au aD (by rfl) B.len cG (aa (pv 2) af)) af))))) (aj (aE dw)) aI)
   (ah (cr dG rfl (bh rfl B.range (aa (au aD (by rfl) B.len cG (aa (pv 2) af)) af)) (aB (i:=4) N8.nd rfl (Or.inl rfl))
    (aj (a8 (cq (bW (av BE hr aG (aa (pv 0) (aa (pv 1) (aa (pv 2) (aa (pv 3) (aa (pv 4) af)))))))) (aj (aE dw)) aI)))
   (aj (aE dw)))),?_⟩
  refine⟨_,rfl,_,rfl,sa,_,rfl,.inr (bD.of ky),.ref xa,some xs,_,rfl,.tup kF,?_⟩;rw[bp];by_cases hl:xs.length=st.length
  .rw[show C9 (some xs) ((st.length:Nat):Int)=true from bH (by rw[hl])];refine⟨_,rfl,eh rfl ?_⟩;refine⟨_,rfl,sa,_,rfl,.inr (bD.of ky),_,rfl,by rw[bp];lia,by rw[bp];lia,?_⟩;rw[bp];refine cw (n:=st.length) (lo:=0) (fun i σ H1=>(∃u,σ=[some (.ref b),some (.ref ha),some (.ref sa),some (.ref xa),u])/\az H H1/\∀j,j<i->Bt ns homes st xs j) ⟨⟨_,rfl⟩,az.refl _,fun j hj=>absurd hj (jC _)⟩ ?_ ?_
   .rintro i σ H1 hi ⟨⟨u,rfl⟩,s1,hB⟩;refine⟨_,rfl,_,rfl,_,rfl,_,rfl,_,rfl,L,b,ha,sa,xa,ns,homes,st,xs,i,by rw[dv];rfl,BA.same s1,s1 _ _ tW,s1 _ _ ky,s1 _ _ kF,SN,hl,hi,u9 hW s1,hB,fun H2 bb s2 hb=>⟨_,rfl,?_⟩⟩;cases bb with
    |false=>exact fN rfl (q H2 _ (s1.trans s2) ⟨fun z=>(nomatch z),fun z=>hb.mpr (z.2 i hi)⟩)
    |true=>
     refine eh rfl ⟨⟨_,rfl⟩,s1.trans s2,fun j hj=>?_⟩;rcases qj.mp hj with z|z
     .exact hB j z
     .rw[z];exact hb.mp rfl
   .rintro σ H1 ⟨⟨u,rfl⟩,s1,hB⟩;exact q H1 _ s1 ⟨fun _=>⟨hl,hB⟩,fun _=>rfl⟩
  .rw[show C9 (some xs) ((st.length:Nat):Int)=false from dE (fun z=>hl (by lia))];exact⟨_,rfl,fN rfl (q H _ (az.refl _) ⟨fun z=>(nomatch z),fun z=>absurd z.1 hl⟩)⟩
theorem SV:aA ["box","homes","stand","came"] ["box","homes","stand","came"] (ak SH):=⟨rfl,rfl,rfl,by decide +kernel,rfl,by decide +kernel,by decide +kernel⟩
def u_(K:PySem.W.Frag)(C CB CN:Addr):Sp:=fun vs H _ E=>∃ (L:Addr->Prop) (b ha sa xa:Addr) (ns homes:List Nat) (st:List (Option Nat)) (xs:List V),vs=[.ref b,.ref ha,.ref sa,.ref xa]/\eT C CB H L b ns/\H ha=some (.tup (NV homes))/\H sa=some (.tup (st.map oV))/\H xa=some (.tup xs)/\Sn ns homes st/\(∀x∈xs,∃o,tV K H x o)/\¬ HU ns homes st xs/\∀ (H':Hp),az H H'->E (.ref CN) none H'
theorem N_{f C CB CN:Addr}{fd:FuncData}(F:dH K "check_berthed" "check_berthed" SH f fd)(e:Er K mg "NoBerth" CN)(IB:bQ P w K mg base a9 9 "is_berthed" ["box","homes","stand","came"] (Gq K C CB)):a7 P w K mg base (d0 P w) 10 f fd ["box","homes","stand","came"] (u_ K C CB CN):=by
 refine F.Ez SV (fun vs H Q E h=>?_) (fun ce A outer s H vs Q E hr h=>?_)
 .obtain⟨L,b,ha,sa,xa,ns,homes,st,xs,rfl,_⟩:=h;rfl
 .obtain⟨L,b,ha,sa,xa,ns,homes,st,xs,rfl,BA,tW,ky,kF,SN,hW,nb,k⟩:=h;refine⟨_,aj (a8 (cq (bW (av IB hr aG (aa (pv 0) (aa (pv 1) (aa (pv 2) (aa (pv 3) af))))))) (aj (gy (q:=fun H1=>E (.ref CN) none H1) rfl e.ok rfl e.at_ (aa j6 af) (fun _ _ _ _ _ _ _ I m q=>gw I m q))) aI),?_⟩;refine⟨_,rfl,_,rfl,_,rfl,_,rfl,L,b,ha,sa,xa,ns,homes,st,xs,rfl,BA,tW,ky,kF,SN,hW,fun H1 bb s1 hb=>⟨_,rfl,?_⟩⟩;cases bb with
  |true=>exact absurd (hb.mp rfl) nb
  |false=>exact fN rfl ⟨by show 1<=sizeLine;decide,k H1 s1⟩
theorem SW:aA ["box","homes","stand","came","goes","house"] ["box","homes","stand","came"] (ak SJ):=⟨rfl,rfl,rfl,by decide +kernel,rfl,by decide +kernel,by decide +kernel⟩
theorem Oa{f C CB CN:Addr}{fd:FuncData}(F:dH K "lane_hand" "lane_hand" SJ f fd)(CK:bQ P w K mg base (d0 P w) 10 "check_berthed" ["box","homes","stand","came"] (u_ K C CB CN)):a7 P w K mg base (d0 P w) 11 f fd ["box","homes","stand","came"] (u_ K C CB CN):=by
 refine F.Ez SW (fun vs H Q E h=>?_) (fun ce A outer s H vs Q E hr h=>?_)
 .obtain⟨L,b,ha,sa,xa,ns,homes,st,xs,rfl,_⟩:=h;rfl
 .obtain⟨L,b,ha,sa,xa,ns,homes,st,xs,rfl,BA,tW,ky,kF,SN,hW,nb,k⟩:=h;refine⟨_,ah (bL (av CK hr (o0 (E':=E) fun _ _ _ z=>z) (aa (pv 0) (aa (pv 1) (aa (pv 2) (aa (pv 3) af)))))) cH,?_⟩;exact⟨_,rfl,_,rfl,_,rfl,_,rfl,L,b,ha,sa,xa,ns,homes,st,xs,rfl,BA,tW,ky,kF,SN,hW,nb,k⟩
theorem Ob:aA ["box","homes","stand","came","letter","handing","found","house"] ["box","homes","stand","came","letter"] (ak SK):=⟨rfl,rfl,rfl,by decide +kernel,rfl,by decide +kernel,by decide +kernel⟩
def Gr(K:PySem.W.Frag)(C CB CN:Addr):Sp:=fun vs H _ E=>∃ (L:Addr->Prop) (b ha sa xa:Addr) (ns homes:List Nat) (st:List (Option Nat)) (xs:List V) (v:V),vs=[.ref b,.ref ha,.ref sa,.ref xa,v]/\eT C CB H L b ns/\H ha=some (.tup (NV homes))/\H sa=some (.tup (st.map oV))/\H xa=some (.tup xs)/\Sn ns homes st/\(∀x∈xs,∃o,tV K H x o)/\¬ HU ns homes st xs/\∀ (H':Hp),az H H'->E (.ref CN) none H'
theorem Oc{f C CB CN:Addr}{fd:FuncData}(F:dH K "reason" "reason" SK f fd)(LH:bQ P w K mg base (d0 P w) 11 "lane_hand" ["box","homes","stand","came"] (u_ K C CB CN)):a7 P w K mg base (d0 P w) 12 f fd ["box","homes","stand","came","letter"] (Gr K C CB CN):=by
 refine F.Ez Ob (fun vs H Q E h=>?_) (fun ce A outer s H vs Q E hr h=>?_)
 .obtain⟨L,b,ha,sa,xa,ns,homes,st,xs,v,rfl,_⟩:=h;rfl
 .obtain⟨L,b,ha,sa,xa,ns,homes,st,xs,v,rfl,BA,tW,ky,kF,SN,hW,nb,k⟩:=h;refine⟨_,ah (aL (i:=5) Ob.nd rfl (Or.inl rfl) (av LH hr (o0 (E':=E) fun _ _ _ z=>z) (aa (pv 0) (aa (pv 1) (aa (pv 2) (aa (pv 3) af)))))) cH,?_⟩;exact⟨_,rfl,_,rfl,_,rfl,_,rfl,L,b,ha,sa,xa,ns,homes,st,xs,rfl,BA,tW,ky,kF,SN,hW,nb,k⟩
end
end pi
namespace L2
open PySem PySem.Spec PyProof.Rows
section
variable {X:Cx} {pos:Pos}
end
end L2
namespace pi
open PySem L2 iZ
abbrev SX:Stmt:=fk 68
abbrev SY:Stmt:=fk 69
abbrev SZ:Stmt:=fk 72
theorem Kc:(["_law_tie","_law_house","_law_used"]:List Str).Nodup:=by decide +kernel
theorem Kd:(["_law_k","_law_pot_here","_law_many_here"]:List Str).Nodup:=by decide +kernel
theorem DT{a b:List Nat}:NV a++NV b=NV (a++b):=dF.symm
theorem tE{ns:List Nat}{h k:Nat}:(xR ns h k).length<=2:=by
 unfold xR;rw[cz];cases vm ns h k false <;> cases vm ns h k true <;> simp
theorem Od{ns:List Nat}{h k:Nat}(BX:Bx ns)(hk:k<ns.length):xR ns h k≠[]:=by
 have g:=BX.gd hk;unfold xR vm;rw[ao (by decide),am rfl];by_cases c:1<=(dh ns h).getD k 0
 .rw[am c];intro z;cases z
 .rw[ao c,am (by lia)];intro z;cases z
section
variable {P:Program} {w:World} {K:PySem.W.Frag} {mg:Str->Option Value} {base:Heap}
theorem Gs:aA ["_law_sides_here","_law_house","_law_home","_law_used","_law_found","_law_k"] ["_law_sides_here","_law_house","_law_home","_law_used"] (ak SX):=⟨rfl,rfl,rfl,by decide +kernel,rfl,by decide +kernel,by decide +kernel⟩
def Ke:Sp:=fun vs H Q _=>∃ (a ua:Addr) (ns:List Nat) (h g p:Nat) (zs:Zs),vs=[.ref a,.int h,.int g,.ref ua]/\H a=some (.tup (NV ns))/\Bx ns/\qW ns h g=some p/\H ua=some (.lst (zr zs))/\PO H zs/\
 ∀ (r:Addr) (ys:List Nat) (H':Hp),az H H'->H r=none->H' r=some (.lst (NV ys))->ys.length<=20->(∀y∈ys,Ln ns h g y/\((h:Int),(y:Int))∉zp zs)->Q (.ref r) H'
theorem Oe{f:Addr}{fd:FuncData}(F:dH K "_law_lane_ties" "_law_lane_ties" SX f fd)(B:Bl mg)(PH:bQ P w K mg base a9 2 "_law_phase" ["_law_sides_here","_law_house","_law_home"] Gi)(TI:bQ P w K mg base a9 3 "_law_ties" ["_law_sides_here","_law_house","_law_k"] DO):a7 P w K mg base a9 4 f fd ["_law_sides_here","_law_house","_law_home","_law_used"] Ke:=by
 refine F.ok Gs (fun vs H Q E h=>?_) (fun ce A outer s H vs Q E hr h=>?_)
 .obtain⟨a,ua,ns,h,g,p,zs,rfl,_⟩:=h;rfl
 .obtain⟨a,ua,ns,h,g,p,zs,rfl,ha,BX,hp,q9,po,q⟩:=h;have h2:bv 2 _:=hr.mono (by decide);have l5:=BX.l5;have pl:=(y7 hp).1;refine'⟨_,(ah (aL (i:=4) Gs.nd rfl (Or.inl rfl) (bw af))
   (ah (cr dG rfl (bh rfl B.range (aa (aP cj (av PH h2 aG (aa (pv 0) (aa (pv 1) (aa (pv 2) af)))) ap) af)) (aB (i:=5) Gs.nd rfl (Or.inl rfl))
    (aj (aL (i:=4) Gs.nd rfl (Or.inl rfl) (aP l8 (pv 4) ?c1))))
   (aj (aE (pv 4))))),?_⟩
  case c1=>
   refine' dQ (g:=(cI 0)) (tt:=(kO (mR (Jm K true) (wT (aY (br 1) (aY (br 0) dJ))) (br 2)))) (te:=(br 0)) (NB:=["_law_tie","_law_house","_law_used"]) (src:=[none,some 1,some 3]) (dq (by kernel_rfl)) rfl (dN (av TI hr aG (aa (pv 0) (aa (pv 1) (aa (pv 5) af))))) ?g ?t ?e;case g=>exact fun cl C s₃ H₃ fp=>(aB (i:=0) Kc rfl (Or.inl rfl) (Or.inr rfl))
   case t=>exact fun cl C s₃ H₃ fp=>fv (aM (Ac hr.u) (dB (aa (pv 1) (aa (pv 0) af))) (pv 2) rfl)
   case e=>exact fun cl C s₃ H₃ fp=>(pv 0)
  refine⟨by show 0<=sizeLine;decide,fun F0 Of=>?_⟩;have s0:=ai (o:=.lst []) Of;have g0:(upd H F0 (.lst [])) F0=some (.lst (NV [])):=ag;generalize upd H F0 (.lst [])=H0 at *;refine⟨_,rfl,_,rfl,_,rfl,a,ns,h,g,rfl,s0 _ _ ha,BX,fun H1 s1=>?_⟩;refine⟨(p:Int),1,by rw[hp];rfl,rfl,(p:Int)+1,rfl,by lia,by lia,?_⟩;rw[show ((p:Int)+1).toNat=p+1 by lia];refine cw (n:=p+1) (lo:=0) (fun k σ H2=>∃ (r:Addr) (ys:List Nat) (z:Option V),σ=[some (.ref a),some (.int (h:Int)),some (.int (g:Int)),some (.ref ua),some (.ref r),z]/\az H H2/\H r=none/\H2 r=some (.lst (NV ys))/\ys.length<=2*k/\∀y∈ys,Ln ns h g y/\((h:Int),(y:Int))∉zp zs) ⟨F0,[],_,rfl,s0.trans s1,Of,s1 _ _ g0,cR _,fun y z=>(nomatch z)⟩ ?_ ?_
  .rintro k σ H2 hk ⟨r,ys,z,rfl,s2,nr,yZ,yl,hy⟩;have Kg:k<ns.length:=by lia
   rw[dv];refine⟨_,rfl,_,rfl,_,rfl,_,rfl,a,ns,h,k,rfl,s2 _ _ ha,BX,Kg,fun t H3 s3 nt EG=>⟨t,rfl,⟨_,bz.of EG⟩,fun D hD=>?_⟩⟩;refine zc (xR ns h k) (fun (y:Nat)=>V.int (y:Int)) (fun (y:Nat)=>decide (((h:Int),(y:Int))∉zp zs)) (fun (y:Nat)=>V.int (y:Int)) (fun σ=>∃u,σ=[u,some (.int (h:Int)),some (.ref ua)]) EG hD (bq tE (by decide)) ⟨_,rfl⟩ ?_ ?_
   .rintro y σ H4 Kt Kf hy4 ⟨u,rfl⟩ s4 kt kf;refine⟨_,rfl,_,rfl,by show 2<=sizeLine;decide,fun t4 EF=>?_⟩;have sT:=ai (o:=.tup [.int (h:Int),.int (y:Int)]) EF;have WA:=(s2.trans s3).trans s4;refine⟨_,rfl,Jq (u:=((h:Int),(y:Int))) ag (sT _ _ (WA _ _ q9)) ((po.same WA).same sT) ⟨_,rfl,?_⟩⟩;rw[am rfl];refine ei (fun e=>⟨_,rfl,kt _ _ ⟨_,rfl⟩ sT ?_⟩) (fun e=>kf _ _ ⟨_,rfl⟩ sT ?_)
    .rw[mJ,mC] at e;exact bH e
    .rw[mJ,mC] at e;exact dE e
   .intro H5 s5 vn;have WB:=(s2.trans s3).trans s5;refine⟨r,D,_,_,rfl,rfl,s5 _ _ (s3 _ _ yZ),vn,?_,fun r2 tj=>?_⟩
    .have:=mE (fun (y:Nat)=>decide (((h:Int),(y:Int))∉zp zs)) (xR ns h k);have t2:=tE (ns:=ns) (h:=h) (k:=k);rw[bF,bp];exact bq (show _<=30 by lia) (by decide)
    have s6:=ai (o:=.lst (NV ys++((xR ns h k).filter fun (y:Nat)=>decide (((h:Int),(y:Int))∉zp zs)).map fun (y:Nat)=>V.int (y:Int))) tj;refine⟨r2,ys++(xR ns h k).filter fun (y:Nat)=>decide (((h:Int),(y:Int))∉zp zs),_,rfl,WB.trans s6,WB.free tj,by rw[ag,<-DT],?_,fun y Zi=>?_⟩
    .have:=mE (fun (y:Nat)=>decide (((h:Int),(y:Int))∉zp zs)) (xR ns h k);have t2:=tE (ns:=ns) (h:=h) (k:=k);rw[cz];lia
    .rcases cP.mp Zi with z|z
     .exact hy y z
     .obtain⟨m1,m2⟩:=eL.mp z;exact⟨⟨k,p,hp,(xS BX.pos Kg).mp m1,by lia⟩,fc m2⟩
  .rintro σ H2 ⟨r,ys,z,rfl,s2,nr,yZ,yl,hy⟩;exact⟨_,rfl,q r ys H2 s2 nr yZ (by lia) hy⟩
theorem S0:aA ["_law_pot_here","_law_many_here"] ["_law_pot_here","_law_many_here"] (ak SY):=⟨rfl,rfl,rfl,by decide +kernel,rfl,by decide +kernel,by decide +kernel⟩
def Kh:Sp:=fun vs H Q _=>∃ (p:Addr) (n:Nat),vs=[.ref p,.int n]/\2<=n/\n<=32/\bG H p/\∀ (r:Addr) (hs:List Nat) (H':Hp),bf p H H'->bG H' p->H r=none->H' r=some (.lst (NV hs))->hs≠[]->hs.length<=32->(∀x∈hs,x<n)->Q (.ref r) H'
theorem Og{f:Addr}{fd:FuncData}(F:dH K "_law_houses" "_law_houses" SY f fd)(B:Bl mg)(DR:bQ P w K mg base a9 1 "_law_draw" ["_law_pot_here","_law_many_here"] u0):a7 P w K mg base a9 2 f fd ["_law_pot_here","_law_many_here"] Kh:=by
 refine F.ok S0 (fun vs H Q E h=>?_) (fun ce A outer s H vs Q E hr h=>?_)
 .obtain⟨p,n,rfl,_⟩:=h;rfl
 .obtain⟨p,n,rfl,n1,n2,hp,q⟩:=h;have h1:bv 1 _:=hr.mono (by decide);refine'⟨_,(ah (a8 (aM eN (av DR h1 aG (aa (pv 0) (aa ap af))) ap (aQ _)) (aj (aE (cJ (xo rfl) (by rfl) B.lst rj (aa (cJ uy (by rfl) B.range PyProof.Rows.boot_range (aa (pv 1) af)) af)))) aI)
   (aj (aE ?c1))),?_⟩
  case c1=>
   refine' dQ (g:=(cI 0)) (te:=(mS u0 [] E0 (aY (br 1) (aY (br 2) dJ)))) (NB:=["_law_k","_law_pot_here","_law_many_here"]) (src:=[none,some 0,some 1]) (dq (by kernel_rfl)) rfl (bh rfl B.range (aa (aP cj ap (av DR h1 aG (aa (pv 0) (aa ap af)))) af)) ?g ?t ?e;case g=>exact fun cl C s₃ H₃ fp=>(aB (i:=0) Kd rfl (Or.inl rfl) (Or.inr rfl))
   case t=>exact fun cl C s₃ H₃ fp=>jr
   case e=>exact fun cl C s₃ H₃ fp=>(av DR h1 aG (aa (pv 1) (aa (pv 2) af)))
  refine⟨_,rfl,p,3,rfl,by decide,by decide,hp,fun d H1 hd s1 p1=>⟨rfl,_,rfl,ei (fun e=>?_) (fun e=>?_)⟩⟩
  .refine⟨_,rfl,n,rfl,fun x hx=>⟨x,n,rfl,ag,by lia,fun l hl=>?_⟩⟩;have sx:=(ai (o:=.Em 0 (n:Int)) hx).trans (ai (o:=.lst ((List.range n).map fun (i:Nat)=>V.int i)) hl);refine q l (List.range n) _ (s1.trans (bf.of sx)) (p1.same sx) ?_ ag (by intro z;have:=congrArg List.length z;rw[kH] at this;simp at this;lia) (by rw[kH];exact n2) fun x hx=>cX.mp hx;exact s1.free p1.full ((ai (o:=.Em 0 (n:Int)) hx).free hl)
  .refine⟨_,rfl,p,4,rfl,by decide,by decide,p1,fun d2 H2 HL s2 p2=>⟨_,_,rfl,rfl,_,rfl,by lia,by lia,fun D hD=>?_⟩⟩;rw[show ((1:Int)+(d2:Int)).toNat=1+d2 by lia];have yY:=s1.trans s2;have nD:=p2.ne hD;refine et (lo:=0) (n:=1+d2) (fun i ys σ H5=>(∃u,σ=[u,some (.ref p),some (.int (n:Int))])/\bf p H2 H5/\bG H5 p/\H5 D=some (.lst ys)/\∃hs:List Nat,ys=NV hs/\hs.length=i/\∀x∈hs,x<n) ⟨⟨_,rfl⟩,bf.of (ai hD),p2.same (ai hD),ag,[],rfl,rfl,fun x z=>(nomatch z)⟩ ?_ ?_
   .rintro i ys σ H5 Kt Kf hi ⟨⟨u,rfl⟩,s5,p5,vn,hs,rfl,hl,hx⟩ kt kf;refine⟨_,rfl,_,rfl,p,n,rfl,by lia,by lia,p5,fun d3 H6 Ki s6 p6=>kt _ _ _ (s6 _ _ vn nD) (by rw[bF,hl];exact cM (show i<5 by lia) (by decide)) ⟨⟨_,rfl⟩,?_,p6.put nD.symm,ag,hs++[d3],h_,by rw[cz,hl];rfl,fun x rW=>?_⟩⟩
    .exact fun b o e n=>by
      by_cases z:b=D
      .rw[z,hD] at e;cases e
      .rw[al z];exact(s5.trans s6) b o e n
    .rcases cP.mp rW with z|z
     .exact hx x z
     .rw[dD.mp z];exact Ki
   .rintro ys σ H5 ⟨_,s5,p5,vn,hs,rfl,hl,hx⟩;exact q D hs H5 (yY.trans s5) p5 (yY.free p2.full hD) vn (by intro z;rw[z] at hl;simp at hl;lia) (by lia) hx
theorem Gu:aA ["_law_sides_here","_law_house","_law_found","_law_k"] ["_law_sides_here","_law_house"] (ak SZ):=⟨rfl,rfl,rfl,by decide +kernel,rfl,by decide +kernel,by decide +kernel⟩
def Kj:Sp:=fun vs H Q _=>∃ (a:Addr) (ns:List Nat) (h:Nat),vs=[.ref a,.int h]/\H a=some (.tup (NV ns))/\Bx ns/\∀ (r:Addr) (ys:List Nat) (H':Hp),az H H'->H r=none->H' r=some (.lst (NV ys))->0<ys.length->ys.length<=20->Q (.ref r) H'
theorem Oh{f:Addr}{fd:FuncData}(F:dH K "_law_out" "_law_out" SZ f fd)(B:Bl mg)(TI:bQ P w K mg base a9 3 "_law_ties" ["_law_sides_here","_law_house","_law_k"] DO):a7 P w K mg base a9 4 f fd ["_law_sides_here","_law_house"] Kj:=by
 refine F.ok Gu (fun vs H Q E h=>?_) (fun ce A outer s H vs Q E hr h=>?_)
 .obtain⟨a,ns,h,rfl,_⟩:=h;rfl
 .obtain⟨a,ns,h,rfl,ha,BX,q⟩:=h;have l5:=BX.l5;have l1:=BX.l1;refine⟨_,(ah (aL (i:=2) Gu.nd rfl (Or.inl rfl) (bw af))
   (ah (cr dG rfl (bh rfl B.range (aa (au aD (by rfl) B.len cG (aa (pv 0) af)) af)) (aB (i:=3) Gu.nd rfl (Or.inl rfl))
    (aj (aL (i:=2) Gu.nd rfl (Or.inl rfl) (aP l8 (pv 2) (av TI hr aG (aa (pv 0) (aa (pv 1) (aa (pv 3) af))))))))
   (aj (aE (pv 2))))),?_⟩
  refine⟨by show 0<=sizeLine;decide,fun F0 Of=>?_⟩;have s0:=ai (o:=.lst []) Of;have g0:(upd H F0 (.lst [])) F0=some (.lst (NV [])):=ag;generalize upd H F0 (.lst [])=H0 at *;refine⟨_,rfl,a,_,rfl,.inr (bD.of (s0 _ _ ha)),_,rfl,by rw[bF];lia,by rw[bF];lia,?_⟩;rw[bF];refine cw (n:=ns.length) (lo:=0) (fun k σ H2=>∃ (r:Addr) (ys:List Nat) (z:Option V),σ=[some (.ref a),some (.int (h:Int)),some (.ref r),z]/\az H H2/\H r=none/\H2 r=some (.lst (NV ys))/\ys.length<=2*k/\k<=ys.length) ⟨F0,[],_,rfl,s0,Of,g0,cR _,cR _⟩ ?_ ?_
  .rintro k σ H2 hk ⟨r,ys,z,rfl,s2,nr,yZ,yl,ly⟩;rw[dv];refine⟨_,rfl,_,rfl,_,rfl,_,rfl,a,ns,h,k,rfl,s2 _ _ ha,BX,hk,fun t H3 s3 nt EG=>?_⟩;have t2:=tE (ns:=ns) (h:=h) (k:=k);have t1:0<(xR ns h k).length:=vT.mpr (Od BX hk);refine⟨r,t,_,_,rfl,rfl,s3 _ _ yZ,EG,by rw[bF,bF];exact bq (show _<=30 by lia) (by decide),fun r2 tj=>?_⟩;refine⟨r2,ys++xR ns h k,_,rfl,(s2.trans s3).trans (ai tj),(s2.trans s3).free tj,by rw[ag,<-DT],by rw[cz];lia,by rw[cz];lia⟩
  .rintro σ H2 ⟨r,ys,z,rfl,s2,nr,yZ,yl,ly⟩;exact⟨_,rfl,q r ys H2 s2 nr yZ (by lia) (by lia)⟩
end
abbrev S4:Stmt:=fk 70
theorem Kk{n h e:Nat}(hh:h<n)(h1:1<=e)(h2:e<n):(h+e) % n≠h:=by
 by_cases c:h+e<n
 .rw[iC c];lia
 .rw[Nat.mod_eq_sub_mod (by lia),iC (by lia)];lia
theorem Gv{α:Type}{l:List α}{x d:α}{j:Nat}(h:j<l.length):(l++[x]).getD j d=l.getD j d:=by
 rw[cf,cf,mB h]
theorem S5{α:Type}{l:List α}{x d:α}:(l++[x]).getD l.length d=x:=by
 rw[cf,oo (aO _),Nat.sub_self];rfl
theorem Kl{α:Type}{l:List α}{x d:α}{k:Nat}(e:l.length=k):(l++[x]).getD k d=x:=by rw[<-e];exact S5
structure Gd(ns homes:List Nat)(st cs:List (Option Nat))(zs:Zs):Prop where
 lh:homes.length=st.length
 lc:cs.length=st.length
 lz:zs.length<=st.length
 bi:∀j,j<st.length->st.getD j none=none->cs.getD j none=none
 ok:∀j h,j<st.length->st.getD j none=some h->h<pr ns/\homes.getD j 0<pr ns/\h≠homes.getD j 0/\∃y,cs.getD j none=some y/\Ln ns h (homes.getD j 0) y/\((h:Int),(y:Int))∈zp zs/\∀j',j'<j->st.getD j' none=some h->cs.getD j' none≠some y
theorem DU{a b:Zs}:zp (a++b)=zp a++zp b:=dF
theorem Gd.snoc{ns homes:List Nat}{st cs:List (Option Nat)}{zs qQ:Zs}{g:Nat}{o o':Option Nat}(G:Gd ns homes st cs zs)(hz:∀u∈zp zs,u∈zp qQ)(WC:qQ.length<=zs.length+1)(hn:o=none->o'=none)(hs:∀h,o=some h->h<pr ns/\g<pr ns/\h≠g/\∃y,o'=some y/\Ln ns h g y/\((h:Int),(y:Int))∈zp qQ/\((h:Int),(y:Int))∉zp zs):Gd ns (homes++[g]) (st++[o]) (cs++[o']) qQ:=by
 have lh:=G.lh;have lc:=G.lc;have lz:=G.lz;refine⟨by rw[cz,cz,lh];rfl,by rw[cz,cz,lc];rfl,by rw[cz];show _<=_+1;lia,fun j hj e=>?_,fun j h hj e=>?_⟩
 .rw[cz] at hj;rcases qj.mp hj with z|z
  .rw[Gv z] at e;rw[Gv (by lia)];exact G.bi j z e
  .rw[z,S5] at e;rw[Kl (by lia)];exact hn e
 .rw[cz] at hj;rcases qj.mp hj with z|z
  .rw[Gv z] at e;obtain⟨a,b,c,y,e1,e2,e3,e4⟩:=G.ok j h z e;rw[Gv (by lia),Gv (by lia)];refine⟨a,b,c,y,e1,e2,hz _ e3,fun j' Hk q=>?_⟩;rw[Gv (by lia)] at q;rw[Gv (by lia)];exact e4 j' Hk q
  .rw[z,S5] at e;obtain⟨a,b,c,y,e1,e2,e3,e4⟩:=hs h e;rw[Kl (by lia),Kl (by lia)];refine⟨a,b,c,y,e1,e2,e3,fun j' Hk q q'=>e4 ?_⟩;rw[Gv (by lia)] at q;rw[Gv (by lia)] at q';obtain⟨_,_,_,y',f1,_,f3,_⟩:=G.ok j' h (by lia) q;rw[f1] at q';rw[<-bS q'];exact f3
theorem DV{cs:List (Option Nat)}{j:Nat}:(cs.map oV).getD j .bi=oV (cs.getD j none):=by
 rw[cf,bX,cf];cases cs[j]? <;> rfl
theorem Km{o:Option Nat}{y:Nat}(h:oV o=.int (y:Int)):o=some y:=by
 cases o with
 |none=>cases h
 |some z=>injection h with h;rw[d9 h]
theorem Gd.sn{ns homes:List Nat}{st cs:List (Option Nat)}{zs:Zs}(G:Gd ns homes st cs zs)(l:st.length<=16):Sn ns homes st:=by
 refine⟨G.lh,fun i h e=>?_,l⟩;have hi:i<st.length:=by
  by_cases c:i<st.length
  .exact c
  .rw[cf,om (by lia)] at e;cases e
 obtain⟨a,b,c,_⟩:=G.ok i h hi e;exact⟨a,b,c⟩
theorem Gd.Zj{ns homes:List Nat}{st cs:List (Option Nat)}{zs:Zs}(G:Gd ns homes st cs zs):HU ns homes st (cs.map oV):=by
 refine⟨by rw[bp];exact G.lc,fun i hi=>⟨fun e=>by rw[DV,G.bi i hi e];rfl,fun h e=>?_⟩⟩;obtain⟨_,_,_,y,e1,e2,_,e4⟩:=G.ok i h hi e;refine⟨y,by rw[DV,e1];rfl,e2,fun j hj q=>?_⟩;rw[DV];exact fun z=>e4 j hj q (Km z)
theorem tG{H:Hp}{zs:Zs}{D:Addr}{xs:List V}{o:HO}(h:PO H zs)(e:H D=some (.lst xs)):PO (upd H D o) zs:=fun z hz=>by
 have:=h z hz;rw[al (by rintro rfl;rw[e] at this;cases this)];exact this
theorem jv{p D:Addr}{H H':Hp}{o:HO}(s:bf p H H')(n:H D=none):bf p H (upd H' D o):=fun b u e hb=>by
 by_cases z:b=D
 .rw[z,n] at e;cases e
 .rw[al z];exact s b u e hb
structure Ad(H:Hp)(p sr gl hm fR cm ua:Addr):Prop where
 nd:[p,sr,gl,hm,fR,cm,ua].Nodup
 nh:H hm=none
 ns:H fR=none
 nc:H cm=none
 nu:H ua=none
structure Bs(p sd sr gl hm fR cm ua:Addr)(ns bR cS:List Nat)(homes:List Nat)(st cs:List (Option Nat))(zs:Zs)(H0 H:Hp):Prop where
 gg:bG H p
 s0:bf p H0 H
 mv:H sr=some (.lst (NV bR))
 zg:H gl=some (.lst (NV cS))
 xU:H hm=some (.lst (NV homes))
 eV:H fR=some (.lst (st.map oV))
 va:H cm=some (.lst (cs.map oV))
 q9:H ua=some (.lst (zr zs))
 po:PO H zs
section
variable {p sd sr gl hm fR cm ua:Addr} {ns bR cS homes:List Nat} {st cs:List (Option Nat)} {zs:Zs} {H0 H H':Hp}
theorem Bs.bE(h:Bs p sd sr gl hm fR cm ua ns bR cS homes st cs zs H0 H)(A:Ad H0 p sr gl hm fR cm ua)(s:bf p H H')(hp:bG H' p):Bs p sd sr gl hm fR cm ua ns bR cS homes st cs zs H0 H':=by
 have nd:=A.nd;simp only[d8,bu,not_or,iD,lJ,jZ,gN] at nd;obtain⟨⟨a1,a2,a3,a4,a5,a6⟩,_⟩:=nd;exact⟨hp,h.s0.trans s,s _ _ h.mv (ci a1),s _ _ h.zg (ci a2),s _ _ h.xU (ci a3),s _ _ h.eV (ci a4),s _ _ h.va (ci a5),s _ _ h.q9 (ci a6),h.po.bE s h.gg⟩
theorem Bs.same(h:Bs p sd sr gl hm fR cm ua ns bR cS homes st cs zs H0 H)(A:Ad H0 p sr gl hm fR cm ua)(s:az H H'):Bs p sd sr gl hm fR cm ua ns bR cS homes st cs zs H0 H':=h.bE A (bf.of s) (h.gg.same s)
theorem Bs.aH(h:Bs p sd sr gl hm fR cm ua ns bR cS homes st cs zs H0 H)(A:Ad H0 p sr gl hm fR cm ua){g:Nat}:Bs p sd sr gl hm fR cm ua ns bR cS (homes++[g]) st cs zs H0 (upd H hm (.lst (NV homes++[.int (g:Int)]))):=by
 have nd:=A.nd;simp only[d8,bu,not_or,iD,lJ,jZ,gN] at nd;obtain⟨⟨a1,a2,a3,a4,a5,a6⟩,⟨b2,b3,b4,b5,b6⟩,⟨c3,c4,c5,c6⟩,⟨d4,d5,d6⟩,⟨e5,e6⟩,f6⟩:=nd;exact⟨h.gg.put a3,jv h.s0 A.nh,by rw[al b3];exact h.mv,by rw[al c3];exact h.zg,by rw[ag,<-h_],by rw[al (ci d4)];exact h.eV,by rw[al (ci d5)];exact h.va,by rw[al (ci d6)];exact h.q9,tG h.po h.xU⟩
theorem Bs.aS(h:Bs p sd sr gl hm fR cm ua ns bR cS homes st cs zs H0 H)(A:Ad H0 p sr gl hm fR cm ua){o:Option Nat}:Bs p sd sr gl hm fR cm ua ns bR cS homes (st++[o]) cs zs H0 (upd H fR (.lst (st.map oV++[oV o]))):=by
 have nd:=A.nd;simp only[d8,bu,not_or,iD,lJ,jZ,gN] at nd;obtain⟨⟨a1,a2,a3,a4,a5,a6⟩,⟨b2,b3,b4,b5,b6⟩,⟨c3,c4,c5,c6⟩,⟨d4,d5,d6⟩,⟨e5,e6⟩,f6⟩:=nd;exact⟨h.gg.put a4,jv h.s0 A.ns,by rw[al b4];exact h.mv,by rw[al c4];exact h.zg,by rw[al d4];exact h.xU,by rw[ag,dF];rfl,by rw[al (ci e5)];exact h.va,by rw[al (ci e6)];exact h.q9,tG h.po h.eV⟩
theorem Bs.aC(h:Bs p sd sr gl hm fR cm ua ns bR cS homes st cs zs H0 H)(A:Ad H0 p sr gl hm fR cm ua){o:Option Nat}:Bs p sd sr gl hm fR cm ua ns bR cS homes st (cs++[o]) zs H0 (upd H cm (.lst (cs.map oV++[oV o]))):=by
 have nd:=A.nd;simp only[d8,bu,not_or,iD,lJ,jZ,gN] at nd;obtain⟨⟨a1,a2,a3,a4,a5,a6⟩,⟨b2,b3,b4,b5,b6⟩,⟨c3,c4,c5,c6⟩,⟨d4,d5,d6⟩,⟨e5,e6⟩,f6⟩:=nd;exact⟨h.gg.put a5,jv h.s0 A.nc,by rw[al b5];exact h.mv,by rw[al c5];exact h.zg,by rw[al d5];exact h.xU,by rw[al e5];exact h.eV,by rw[ag,dF];rfl,by rw[al (ci f6)];exact h.q9,tG h.po h.va⟩
theorem Bs.aU(h:Bs p sd sr gl hm fR cm ua ns bR cS homes st cs zs H0 H)(A:Ad H0 p sr gl hm fR cm ua){t:Addr}{u:Int×Int}(ht:H t=some (Hv u)):Bs p sd sr gl hm fR cm ua ns bR cS homes st cs (zs++[(t,u)]) H0 (upd H ua (.lst (zr zs++[.ref t]))):=by
 have nd:=A.nd;simp only[d8,bu,not_or,iD,lJ,jZ,gN] at nd;obtain⟨⟨a1,a2,a3,a4,a5,a6⟩,⟨b2,b3,b4,b5,b6⟩,⟨c3,c4,c5,c6⟩,⟨d4,d5,d6⟩,⟨e5,e6⟩,f6⟩:=nd;refine⟨h.gg.put a6,jv h.s0 A.nu,by rw[al b6];exact h.mv,by rw[al c6];exact h.zg,by rw[al d6];exact h.xU,by rw[al e6];exact h.eV,by rw[al f6];exact h.va,by rw[ag,mn];rfl,tG (fun z hz=>?_) h.q9⟩;rcases cP.mp hz with z'|z'
 .exact h.po z z'
 .rw[dD.mp z'];exact ht
end
section
variable {P:Program} {w:World} {K:PySem.W.Frag} {mg:Str->Option Value} {base:Heap}
theorem kA:aA ["_law_pot_here","_law_sides_here","_law_many_here","_law_starts","_law_goals","_law_homes","_law_stand","_law_came","_law_used","_law_i","_law_house","_law_home","_law_ties_here","_law_tie"] ["_law_pot_here","_law_sides_here"] (ak S4):=⟨rfl,rfl,rfl,by decide +kernel,rfl,by decide +kernel,by decide +kernel⟩
def Kn:Sp:=fun vs H Q _=>∃ (p sd:Addr) (ns:List Nat),vs=[.ref p,.ref sd]/\bG H p/\H sd=some (.tup (NV ns))/\Bx ns/\2<=pr ns/\
 ∀ (t ha sa xa:Addr) (homes:List Nat) (st cs:List (Option Nat)) (H':Hp),bf p H H'->bG H' p->H' t=some (.tup [.ref ha,.ref sa,.ref xa])->H' ha=some (.tup (NV homes))->H' sa=some (.tup (st.map oV))->H' xa=some (.tup (cs.map oV))->Sn ns homes st->cs.length=st.length->HU ns homes st (cs.map oV)->Q (.ref t) H'
theorem Oi{f:Addr}{fd:FuncData}(F:dH K "_law_berthed" "_law_berthed" S4 f fd)(B:Bl mg)(MA:bQ P w K mg base a9 1 "_law_many" ["_law_sides_here"] Av)(DR:bQ P w K mg base a9 1 "_law_draw" ["_law_pot_here","_law_many_here"] u0)(HS:bQ P w K mg base a9 2 "_law_houses" ["_law_pot_here","_law_many_here"] Kh)(LT:bQ P w K mg base a9 4 "_law_lane_ties" ["_law_sides_here","_law_house","_law_home","_law_used"] Ke):a7 P w K mg base a9 5 f fd ["_law_pot_here","_law_sides_here"] Kn:=by
 refine F.ok kA (fun vs H Q E h=>?_) (fun ce A outer s H vs Q E hr h=>?_)
 .obtain⟨p,sd,ns,rfl,_⟩:=h;rfl
 .obtain⟨p,sd,ns,rfl,hp,Ko,BX,n1,q⟩:=h;have h1:bv 1 _:=hr.mono (by decide);have h2:bv 2 _:=hr.mono (by decide);have h4:bv 4 _:=hr.mono (by decide);have n2:=BX.Nx;refine⟨_,(ah (aL (i:=2) kA.nd rfl (Or.inl rfl) (av MA h1 aG (aa (pv 1) af))) (ah (Bp (i:=3) (j:=4) rfl kA.nd rfl rfl (by decide) rfl rfl (aa (av HS h2 aG (aa (pv 0) (aa (pv 2) af))) (aa (av HS h2 aG (aa (pv 0) (aa (pv 2) af))) af)) (by rfl)) (ah (iO (dB (aa (bw af) (aa (bw af) (aa (bw af) (aa (bw af) af))))) (gb (n:=4) rfl (ba (aB (i:=5) kA.nd rfl (Or.inl rfl)) (ba (aB (i:=6) kA.nd rfl (Or.inl rfl)) (ba (aB (i:=7) kA.nd rfl (Or.inl rfl)) (ba (aB (i:=8) kA.nd rfl (Or.inl rfl)) eG)))))) (ah (cr dG rfl (bh rfl B.range (aa (av DR h1 aG (aa (pv 0) (aa ap af))) af)) (aB (i:=9) kA.nd rfl (Or.inl rfl)) (ah (aL (i:=10) kA.nd rfl (Or.inl rfl) (be bC (pv 3) (av DR h1 aG (aa (pv 0) (aa (au aD (by rfl) B.len cG (aa (pv 3) af)) af))) (fun _ _=>rfl))) (ah (aL (i:=11) kA.nd rfl (Or.inl rfl) (be bC (pv 4) (av DR h1 aG (aa (pv 0) (aa (au aD (by rfl) B.len cG (aa (pv 4) af)) af))) (fun _ _=>rfl))) (ah (a8 (aM eN (pv 11) (pv 10) (aQ _)) (aj (aL (i:=11) kA.nd rfl (Or.inl rfl) (aP gY (aP cj (aP cj (pv 10) ap) (av DR h1 aG (aa (pv 0) (aa (aP j9 (pv 2) ap) af)))) (pv 2)))) aI) (ah (bL (iR ir iq ip cx (pv 5) (aa (pv 11) af))) (ah (aL (i:=12) kA.nd rfl (Or.inl rfl) (av LT h4 aG (aa (pv 1) (aa (pv 10) (aa (pv 11) (aa (pv 8) af)))))) (ah (a8 (PW.pt (oQ (aM (Ja (e:=qy) hr.u) (pv 12) (bw af) (aQ _)) (j7 (aM eN (av DR h1 aG (aa (pv 0) (aa ap af))) ap (aQ _))))) (aj (iO (dB (aa dk (aa dk af))) (gb (n:=2) rfl (ba (aB (i:=10) kA.nd rfl (Or.inl rfl)) (ba (aB (i:=13) kA.nd rfl (Or.inl rfl)) eG))))) (ah (aL (i:=13) kA.nd rfl (Or.inl rfl) (be bC (pv 12) (av DR h1 aG (aa (pv 0) (aa (au aD (by rfl) B.len cG (aa (pv 12) af)) af))) (fun _ _=>rfl))) (aj (bL (iR ir iq ip cx (pv 8) (aa (dB (aa (pv 10) (aa (pv 13) af))) af)))))) (ah (bL (iR ir iq ip cx (pv 6) (aa (pv 10) af))) (aj (bL (iR ir iq ip cx (pv 7) (aa (pv 13) af)))))))))))) (aj (aE (dB (aa (cJ cT (by rfl) B.tup mD (aa (pv 5) af)) (aa (cJ cT (by rfl) B.tup mD (aa (pv 6) af)) (aa (cJ cT (by rfl) B.tup mD (aa (pv 7) af)) af)))))))))),?_⟩;refine⟨_,rfl,sd,ns,rfl,Ko,(fun x hx=>(BX.sd x hx).2),?_⟩;refine⟨_,rfl,_,rfl,p,pr ns,rfl,n1,n2,hp,fun sr bR H1 s1 p1 NC mv Zk sl sx=>⟨_,rfl,_,rfl,p,pr ns,rfl,n1,n2,p1,fun gl cS H2 s2 p2 S7 zg Zl gll gx=>⟨_,_,rfl,?_⟩⟩⟩;refine⟨by show 0<=sizeLine;decide,fun hm xU=>⟨by show 0<=sizeLine;decide,fun fR eV=>⟨by show 0<=sizeLine;decide,fun cm va=>⟨by show 0<=sizeLine;decide,fun ua q9=>⟨by show 4<=sizeLine;decide,fun t4 EF=>⟨t4,_,rfl,bD.of ag,rfl,_,_,rfl,_,_,rfl,_,_,rfl,_,_,rfl,rfl,?_⟩⟩⟩⟩⟩⟩;have Oj:sr≠p:=hp.ne NC;have S8:gl≠p:=p1.ne S7;have Az:=s2 _ _ mv Oj;have v1:=ai (o:=.lst []) xU;have e1:(upd H2 hm (.lst [])) hm=some (.lst []):=ag;generalize hA:upd H2 hm (.lst [])=HA at *;have v2:=ai (o:=.lst []) eV;have e2:(upd HA fR (.lst [])) fR=some (.lst []):=ag;generalize hB:upd HA fR (.lst [])=HB at *;have v3:=ai (o:=.lst []) va;have e3:(upd HB cm (.lst [])) cm=some (.lst []):=ag;generalize hC:upd HB cm (.lst [])=HC at *;have v4:=ai (o:=.lst []) q9;have e4:(upd HC ua (.lst [])) ua=some (.lst []):=ag;generalize hD:upd HC ua (.lst [])=HD at *;have v5:=ai (o:=.tup [.ref hm,.ref fR,.ref cm,.ref ua]) EF;generalize hF:upd HD t4 (.tup [.ref hm,.ref fR,.ref cm,.ref ua])=HF at *;have S9:=s1.trans s2;have AD:Ad H p sr gl hm fR cm ua:=by
   have f2:∀ {x:Addr},H2 x=none->H x=none:=fun z=>S9.free p2.full z;have gA:∀ {x:Addr} {o:HO},HA x=some o->HB x=some o:=fun z=>v2 _ _ z;refine⟨?_,f2 xU,f2 (v1.free eV),f2 ((v1.trans v2).free va),f2 (((v1.trans v2).trans v3).free q9)⟩;have nn:∀ {G:Hp} {x y:Addr} {o:HO},G x=some o->G y=none->x≠y:=fun z z' e=>by rw[e,z'] at z;cases z
   obtain⟨pa,pb,pe,_⟩:=p2;simp only[d8,bu,not_or,iD,lJ,jZ,gN];exact⟨⟨Oj.symm,S8.symm,nn pe xU,nn (v1 _ _ pe) eV,nn (v2 _ _ (v1 _ _ pe)) va,nn (v3 _ _ (v2 _ _ (v1 _ _ pe))) q9⟩,⟨nn mv S7,nn Az xU,nn (v1 _ _ Az) eV,nn (v2 _ _ (v1 _ _ Az)) va,nn (v3 _ _ (v2 _ _ (v1 _ _ Az))) q9⟩,⟨nn zg xU,nn (v1 _ _ zg) eV,nn (v2 _ _ (v1 _ _ zg)) va,nn (v3 _ _ (v2 _ _ (v1 _ _ zg))) q9⟩,⟨nn e1 eV,nn (v2 _ _ e1) va,nn (v3 _ _ (v2 _ _ e1)) q9⟩,⟨nn e2 va,nn (v3 _ _ e2) q9⟩,nn e3 q9⟩
  have vv:=(((v1.trans v2).trans v3).trans v4).trans v5;have BS:Bs p sd sr gl hm fR cm ua ns bR cS [] [] [] [] H HF:=⟨p2.same vv,S9.trans (bf.of vv),vv _ _ Az,vv _ _ zg,v5 _ _ (v4 _ _ (v3 _ _ (v2 _ _ e1))),v5 _ _ (v4 _ _ (v3 _ _ e2)),v5 _ _ (v4 _ _ e3),v5 _ _ e4,fun z hz=>(nomatch hz)⟩
  clear e1 e2 e3 e4 v1 v2 v3 v4 v5 vv hA hB hC hD hF xU eV va q9 EF Az mv zg S7 NC S9 s1 s2 p1 p2;refine⟨_,rfl,p,17,rfl,by decide,by decide +kernel,BS.gg,fun m H3 I_ s3 p3=>⟨_,rfl,by lia,by lia,?_⟩⟩;have WD:=BS.bE AD s3 p3;clear BS;rw[show ((m:Int)).toNat=m by lia];refine cw (n:=m) (lo:=0) (fun i σ Hc=>(∃z9 S_ Ta Ol Lr,σ=[some (.ref p),some (.ref sd),some (.int (pr ns:Nat)),some (.ref sr),some (.ref gl),some (.ref hm),some (.ref fR),some (.ref cm),some (.ref ua),z9,S_,Ta,Ol,Lr])/\∃homes st cs zs,Bs p sd sr gl hm fR cm ua ns bR cS homes st cs zs H Hc/\Gd ns homes st cs zs/\st.length=i) ⟨⟨_,_,_,_,_,rfl⟩,[],[],[],[],WD,⟨rfl,rfl,aO _,fun j hj=>absurd hj (jC _),fun j h hj=>absurd hj (jC _)⟩,rfl⟩ ?_ ?_
  rotate_left
  .rintro σ Hc ⟨⟨z9,S_,Ta,Ol,Lr,rfl⟩,homes,st,cs,zs,b,G,hl⟩;refine⟨_,rfl,hm,_,rfl,.inl ⟨bz.of b.xU,fun ha tW=>?_⟩⟩;have s1:=ai (o:=.tup (NV homes)) tW;refine⟨_,rfl,fR,_,rfl,.inl ⟨bz.of (s1 _ _ b.eV),fun sa ky=>?_⟩⟩;have s2:=ai (o:=.tup (st.map oV)) ky;refine⟨_,rfl,cm,_,rfl,.inl ⟨bz.of (s2 _ _ (s1 _ _ b.va)),fun xa kF=>?_⟩⟩;have s3:=ai (o:=.tup (cs.map oV)) kF;refine⟨by show 3<=sizeLine;decide,fun t ht=>?_⟩;have s4:=ai (o:=.tup [.ref ha,.ref sa,.ref xa]) ht;have ss:=((s1.trans s2).trans s3).trans s4;exact q t ha sa xa homes st cs _ (b.s0.trans (bf.of ss)) (b.gg.same ss) ag (s4 _ _ (s3 _ _ (s2 _ _ ag))) (s4 _ _ (s3 _ _ ag)) (s4 _ _ ag) (G.sn (by lia)) G.lc G.Zj
  clear WD p3 s3;rintro i σ Hc hi ⟨⟨z9,S_,Ta,Ol,Lr,rfl⟩,homes,st,cs,zs,b0,G,hl⟩;have sp:0<bR.length:=vT.mpr Zk;have gp:0<cS.length:=vT.mpr Zl;refine⟨_,rfl,_,rfl,_,rfl,sr,_,rfl,.inl (bz.of b0.mv),p,bR.length,by rw[bF];rfl,sp,by lia,b0.gg,fun d1 H1 Mv s1 p1=>?_⟩;have b1:=b0.bE AD s1 p1;clear b0;refine⟨sr,_,_,_,rfl,rfl,bz.of b1.mv,aJ (q0 Mv),?_⟩;generalize Zm:bR.getD d1 0=h;have hh:h<pr ns:=by rw[<-Zm];exact sx _ (by rw[cf,bZ Mv];exact d7 _)
  refine⟨_,rfl,_,rfl,_,rfl,gl,_,rfl,.inl (bz.of b1.zg),p,cS.length,by rw[bF];rfl,gp,by lia,b1.gg,fun d2 H2 HL s2 p2=>?_⟩;have b2:=b1.bE AD s2 p2;clear b1 s1 p1;refine⟨gl,_,_,_,rfl,rfl,bz.of b2.zg,aJ (q0 HL),?_⟩;generalize Zn:cS.getD d2 0=g0;have Tb:g0<pr ns:=by rw[<-Zn];exact gx _ (by rw[cf,bZ HL];exact d7 _)
  refine fm (fun σ Hx=>σ=[some (.ref p),some (.ref sd),some (.int (pr ns:Nat)),some (.ref sr),some (.ref gl),some (.ref hm),some (.ref fR),some (.ref cm),some (.ref ua),some (.int (i:Int)),some (.int (h:Int)),some (.int (g0:Int)),Ol,Lr]/\Bs p sd sr gl hm fR cm ua ns bR cS homes st cs zs H Hx) ?_ (fun N hN=>hN _ _ ⟨by rw[dv];rfl,b2⟩);clear b2 s2 p2;rintro σ H2 ⟨rfl,b2⟩;refine fm (fun σ Hx=>∃g,σ=[some (.ref p),some (.ref sd),some (.int (pr ns:Nat)),some (.ref sr),some (.ref gl),some (.ref hm),some (.ref fR),some (.ref cm),some (.ref ua),some (.int (i:Int)),some (.int (h:Int)),some (.int (g:Nat)),Ol,Lr]/\g<pr ns/\h≠g/\Bs p sd sr gl hm fR cm ua ns bR cS homes st cs zs H Hx) ?_ ?_
  rotate_left
  .intro N hN;refine⟨_,rfl,_,rfl,rfl,_,rfl,ei (fun e=>?_) (fun e=>hN _ _ ⟨g0,rfl,Tb,fun z=>e (by rw[z];exact bH rfl),b2⟩)⟩;refine⟨_,rfl,_,_,rfl,rfl,_,rfl,_,rfl,_,_,rfl,rfl,p,pr ns-1,by rw[show (((pr ns-1:Nat)):Int)=((pr ns:Nat):Int)-1 by lia];rfl,by lia,by lia,b2.gg,fun d3 H3 Ki s3 p3=>⟨_,_,rfl,rfl,_,rfl,_,_,rfl,rfl,(by show (0:Int)<((pr ns:Nat):Int);lia),?_⟩⟩;have ev:((h:Int)+1+(d3:Int)) % ((pr ns:Nat):Int)=(((h+(1+d3)) % pr ns:Nat):Int):=by
    rw[Int.natCast_emod];congr 1;lia
   refine hN _ _ ⟨(h+(1+d3)) % pr ns,?_,iH _ (by lia),(Kk hh (by lia) (by lia)).symm,b2.bE AD s3 p3⟩;rw[<-ev];rfl
  clear b2;rintro σ Hx ⟨g,rfl,hg,ka,b2⟩;obtain⟨ph,Zo⟩:=DS hh hg ka;have lh:=G.lh;have lc:=G.lc;have lz:=G.lz;refine⟨_,rfl,.inl ⟨rfl,_,bz.of b2.xU⟩,_,rfl,hm,_,_,rfl,rfl,b2.xU,by rw[bF,lh,hl];exact cM (show i<17 by lia) (by decide),?_⟩;have b3:=b2.aH AD (g:=g);clear b2;generalize upd Hx hm (.lst (NV homes++[.int (g:Int)]))=Hy at *;have Zp:=b3.gg;have Tc:=b3.s0 _ _ Ko (hp.neT Ko);refine⟨_,rfl,_,rfl,_,rfl,_,rfl,sd,ua,ns,h,g,ph,zs,rfl,Tc,BX,Zo,b3.q9,b3.po,fun r ys H4 s4 nr EC yl hy=>?_⟩;have b4:=b3.same AD s4;clear b3;refine fm (fun σ Hx=>σ=[some (.ref p),some (.ref sd),some (.int (pr ns:Nat)),some (.ref sr),some (.ref gl),some (.ref hm),some (.ref fR),some (.ref cm),some (.ref ua),some (.int (i:Int)),some (.int (h:Int)),some (.int (g:Int)),some (.ref r),Lr]/\Bs p sd sr gl hm fR cm ua ns bR cS (homes++[g]) st cs zs H Hx/\Hx r=some (.lst (NV ys))) ?_ (fun N hN=>hN _ _ ⟨rfl,b4,EC⟩);have WE:r≠p:=Zp.ne nr;clear b4 EC s4 nr;rintro σ H4 ⟨rfl,b4,EC⟩;refine fm (fun σ Hz=>∃o o' qQ WF,σ=[some (.ref p),some (.ref sd),some (.int (pr ns:Nat)),some (.ref sr),some (.ref gl),some (.ref hm),some (.ref fR),some (.ref cm),some (.ref ua),some (.int (i:Int)),some (oV o),some (.int (g:Nat)),WF,some (oV o')]/\Bs p sd sr gl hm fR cm ua ns bR cS (homes++[g]) st cs qQ H Hz/\(∀u∈zp zs,u∈zp qQ)/\qQ.length<=zs.length+1/\(o=none->o'=none)/\(∀h,o=some h->h<pr ns/\g<pr ns/\h≠g/\∃y,o'=some y/\Ln ns h g y/\((h:Int),(y:Int))∈zp qQ/\((h:Int),(y:Int))∉zp zs)) ?_ ?_
  rotate_left
  .intro N hN;have no:∀Hz,Bs p sd sr gl hm fR cm ua ns bR cS (homes++[g]) st cs zs H Hz->N [some (.ref p),some (.ref sd),some (.int (pr ns:Nat)),some (.ref sr),some (.ref gl),some (.ref hm),some (.ref fR),some (.ref cm),some (.ref ua),some (.int (i:Int)),some .bi,some (.int (g:Nat)),some (.ref r),some .bi] Hz:=fun Hz b=>hN _ _ ⟨none,none,zs,_,rfl,b,fun u z=>z,Nat.le_succ _,fun _=>rfl,fun h z=>(nomatch z)⟩;refine⟨_,rfl,by show 0<=sizeLine;decide,fun E1 NW=>?_⟩;have sE:=ai (o:=.lst []) NW;have b5:=b4.same AD sE;refine⟨r,E1,_,[],rfl,rfl,bz.of (sE _ _ EC),bz.of ag,fun i h1 h2=>absurd h2 (by simp),_,rfl,?_⟩;rw[ao bJ,mw];by_cases c:NV ys=[]
   .rw[bH c];exact fK (fK ⟨by show 2<=sizeLine;decide,fun t ht=>⟨t,_,rfl,bD.of ag,rfl,_,_,rfl,_,_,rfl,rfl,no _ (b5.same AD (ai ht))⟩⟩)
   .rw[dE c];have yp:0<ys.length:=by
     rcases vX ys.length with z|z
     .exact absurd (by rw[AV z];rfl) c
     .exact z
    refine dP ⟨_,rfl,p,16,rfl,by decide,by decide +kernel,b5.gg,fun d4 H5 hd4 s5 p5=>⟨rfl,_,rfl,ei (fun e=>⟨by show 2<=sizeLine;decide,fun t ht=>⟨t,_,rfl,bD.of ag,rfl,_,_,rfl,_,_,rfl,rfl,no _ ((b5.bE AD s5 p5).same AD (ai ht))⟩⟩) (fun e=>?_)⟩⟩;have b6:=b5.bE AD s5 p5;have P9:=s5 _ _ (sE _ _ EC) WE;refine⟨_,rfl,_,rfl,_,rfl,r,_,rfl,.inl (bz.of P9),p,ys.length,by rw[bF];rfl,yp,by lia,b6.gg,fun d5 H6 Lq s6 p6=>?_⟩;have b7:=b6.bE AD s6 p6;have JJ:=s6 _ _ P9 WE;refine⟨r,_,_,_,rfl,rfl,bz.of JJ,aJ (q0 Lq),?_⟩;obtain⟨y1,y2⟩:=hy (ys.getD d5 0) (by rw[cf,bZ Lq];exact d7 _);generalize ys.getD d5 0=y at *;refine⟨_,rfl,.inl ⟨rfl,_,bz.of b7.q9⟩,_,rfl,_,rfl,by show 2<=sizeLine;decide,fun t ht=>?_⟩;have aW:=ai (o:=.tup [.int (h:Int),.int (y:Int)]) ht;have b8:=b7.same AD aW;have WC:(zr zs).length<sizeLine:=by
     show (zs.map _).length<_;rw[bp];exact cM (show zs.length<17 by lia) (by decide)
    refine⟨ua,_,_,rfl,rfl,b8.q9,WC,?_⟩;have b9:=b8.aU AD (t:=t) (u:=((h:Int),(y:Int))) ag;refine hN _ _ ⟨some h,some y,zs++[(t,((h:Int),(y:Int)))],_,rfl,b9,fun u z=>by rw[DU];exact ix _ z,by rw[cz];exact aO _,fun z=>(nomatch z),fun h' e'=>?_⟩;obtain rfl:=bS e';exact⟨hh,hg,ka,y,rfl,y1,by rw[DU];exact iw _ (dD.mpr rfl),y2⟩
  clear b4 EC;rintro σ Hz ⟨o,o',qQ,WF,rfl,b5,q1,q4,q2,q3⟩;have G':=G.snoc (g:=g) q1 q4 q2 q3;refine⟨_,rfl,.inl ⟨rfl,_,bz.of b5.eV⟩,_,rfl,fR,_,_,rfl,rfl,b5.eV,by rw[bp,hl];exact cM (show i<17 by lia) (by decide),?_⟩;have b6:=b5.aS AD (o:=o);refine⟨_,rfl,.inl ⟨rfl,_,bz.of b6.va⟩,_,rfl,cm,_,_,rfl,rfl,b6.va,by rw[bp,lc,hl];exact cM (show i<17 by lia) (by decide),?_⟩;have b7:=b6.aC AD (o:=o');exact⟨⟨_,_,_,_,_,rfl⟩,homes++[g],st++[o],cs++[o'],qQ,b7,G',by rw[cz,hl];rfl⟩
end
abbrev Td:Stmt:=fk 74
abbrev Tf:Stmt:=fk 75
theorem DW:(["_law_j","_law_stand","_law_house","_law_came","_law_i"]:List Str).Nodup:=by decide +kernel
section
variable {P:Program} {w:World} {K:PySem.W.Frag} {mg:Str->Option Value} {base:Heap}
theorem Om:aA ["_law_sides_here","_law_house","_law_home","_law_tie","_law_k"] ["_law_sides_here","_law_house","_law_home","_law_tie"] (ak Td):=⟨rfl,rfl,rfl,by decide +kernel,rfl,by decide +kernel,by decide +kernel⟩
def Kp(K:PySem.W.Frag):Sp:=fun vs H Q _=>∃ (a:Addr) (ns:List Nat) (h g p:Nat) (x:V) (o:Option Int),vs=[.ref a,.int h,.int g,x]/\H a=some (.tup (NV ns))/\Bx ns/\qW ns h g=some p/\tV K H x o/\∀ (H':Hp) (bb:Bool),az H H'->(bb=true↔∃y:Nat,x=.int (y:Int)/\Ln ns h g y)->Q (.bl bb) H'
theorem On{f:Addr}{fd:FuncData}(F:dH K "_law_is_lane" "_law_is_lane" Td f fd)(B:Bl mg)(PH:bQ P w K mg base a9 2 "_law_phase" ["_law_sides_here","_law_house","_law_home"] Gi)(TI:bQ P w K mg base a9 3 "_law_ties" ["_law_sides_here","_law_house","_law_k"] DO):a7 P w K mg base a9 4 f fd ["_law_sides_here","_law_house","_law_home","_law_tie"] (Kp K):=by
 refine F.ok Om (fun vs H Q E h=>?_) (fun ce A outer s H vs Q E hr h=>?_)
 .obtain⟨a,ns,h,g,p,x,o,rfl,_⟩:=h;rfl
 .obtain⟨a,ns,h,g,p,x,o,rfl,ha,BX,hp,wx,q⟩:=h;have h2:bv 2 _:=hr.mono (by decide);have l5:=BX.l5;have pl:=(y7 hp).1;refine⟨_,(ah (a8 (PW.pt (oQ (cq (bW (au dz (by rfl) B.pN di (aa (pv 3) (aa (eF (v:=.ty "int") rfl B.int vM rfl) af))))) (j7 (bW (au dz (by rfl) B.pN di (aa (pv 3) (aa (eF (v:=.ty "bool") rfl B.bool vH rfl) af))))))) (aj (aE dw)) aI)
   (ah (cr dG rfl (bh rfl B.range (aa (aP cj (av PH h2 aG (aa (pv 0) (aa (pv 1) (aa (pv 2) af)))) ap) af)) (aB (i:=4) Om.nd rfl (Or.inl rfl))
    (aj (a8 (aM jp (pv 3) (av TI hr aG (aa (pv 0) (aa (pv 1) (aa (pv 4) af)))) rfl) (aj (aE dw)) aI)))
   (aj (aE dw)))),?_⟩
  have w0:=wx H (az.refl _);cases w0 with
  |no hn=>
   have nb:false=true↔∃y:Nat,x=.int (y:Int)/\Ln ns h g y:=⟨fun z=>(nomatch z),fun ⟨y,e,_⟩=>by rw[e] at wx;exact(ze (wx H (az.refl _))).elim⟩
   obtain⟨t,ty,z|⟨z1,z2⟩⟩:=hn
   .exact⟨_,rfl,_,_,_,t,false,rfl,⟨rfl,z⟩,ty,_,rfl,fN rfl (fK (q H _ (az.refl _) nb))⟩
   .exact⟨_,rfl,_,_,_,t,true,rfl,⟨rfl,z1⟩,ty,_,rfl,eh rfl ⟨_,rfl,_,_,_,t,true,rfl,⟨rfl,z2⟩,ty,_,rfl,fN rfl (q H _ (az.refl _) nb)⟩⟩
  |int v=>
   refine⟨_,rfl,_,_,_,.type "int",true,rfl,⟨rfl,i8⟩,.of (.int _),_,rfl,eh rfl ⟨_,rfl,_,_,_,.type "int",false,rfl,⟨rfl,hZ⟩,.of (.int _),_,rfl,eh rfl ?_⟩⟩;refine⟨_,rfl,_,rfl,_,rfl,a,ns,h,g,rfl,ha,BX,fun H1 s1=>⟨(p:Int),1,by rw[hp];rfl,rfl,(p:Int)+1,rfl,by lia,by lia,?_⟩⟩;rw[show ((p:Int)+1).toNat=p+1 by lia];refine cw (n:=p+1) (lo:=0) (fun k σ H2=>(∃z,σ=[some (.ref a),some (.int (h:Int)),some (.int (g:Int)),some (.int v),z])/\az H H2/\∀j,j<k->V.int v∉NV (xR ns h j)) ⟨⟨_,rfl⟩,s1,fun j hj=>absurd hj (jC _)⟩ ?_ ?_
   .rintro k σ H2 hk ⟨⟨z,rfl⟩,s2,hj⟩;have Kg:k<ns.length:=by lia
    rw[dv];refine⟨_,rfl,_,rfl,_,rfl,_,rfl,a,ns,h,k,rfl,s2 _ _ ha,BX,Kg,fun r H3 s3 nr Zq=>⟨r,_,rfl,.inl (bz.of Zq),rfl,n_,_,rfl,?_⟩⟩;rw[ao bJ];refine ei (fun c=>?_) (fun c=>?_)
    .have c:=(pE oa).mp c;obtain⟨y,hy,e⟩:=a_.mp c;exact q H3 _ (s2.trans s3) ⟨fun _=>⟨y,e.symm,k,p,hp,(xS BX.pos Kg).mp hy,by lia⟩,fun _=>rfl⟩
    .refine⟨⟨_,rfl⟩,s2.trans s3,fun j Hk=>?_⟩;rcases qj.mp Hk with z'|z'
     .exact hj j z'
     .rw[z'];exact fun y=>c ((pE oa).mpr y)
   .rintro σ H2 ⟨⟨z,rfl⟩,s2,hj⟩;refine q H2 _ s2 ⟨fun z=>(nomatch z),fun ⟨y,e,k,p',e1,t,l⟩=>?_⟩;injection e with e;subst e;obtain rfl:=bS (hp.symm.trans e1);have Kg:k<ns.length:=by rcases t with z|z <;> exact Dv z
    exact(hj k (by lia) (a_.mpr ⟨y,(xS BX.pos Kg).mpr t,rfl⟩)).elim
theorem Kq:aA ["_law_sides_here","_law_homes","_law_stand","_law_came","_law_i","_law_house"] ["_law_sides_here","_law_homes","_law_stand","_law_came"] (ak Tf):=⟨rfl,rfl,rfl,by decide +kernel,rfl,by decide +kernel,by decide +kernel⟩
def Kr(K:PySem.W.Frag):Sp:=fun vs H Q _=>∃ (a ha sa xa:Addr) (ns homes:List Nat) (st:List (Option Nat)) (xs:List V),vs=[.ref a,.ref ha,.ref sa,.ref xa]/\H a=some (.tup (NV ns))/\Bx ns/\H ha=some (.tup (NV homes))/\H sa=some (.tup (st.map oV))/\H xa=some (.tup xs)/\Sn ns homes st/\(∀x∈xs,∃o,tV K H x o)/\∀ (H':Hp) (bb:Bool),az H H'->(bb=true↔HU ns homes st xs)->Q (.bl bb) H'
theorem Oo{f:Addr}{fd:FuncData}(F:dH K "_law_judged" "_law_judged" Tf f fd)(B:Bl mg)(he:mg "enumerate"=none)(IL:bQ P w K mg base a9 4 "_law_is_lane" ["_law_sides_here","_law_house","_law_home","_law_tie"] (Kp K)):a7 P w K mg base a9 5 f fd ["_law_sides_here","_law_homes","_law_stand","_law_came"] (Kr K):=by
 refine F.ok Kq (fun vs H Q E h=>?_) (fun ce A outer s H vs Q E hr h=>?_)
 .obtain⟨a,ha,sa,xa,ns,homes,st,xs,rfl,_⟩:=h;rfl
 .obtain⟨a,ha,sa,xa,ns,homes,st,xs,rfl,hA,BX,tW,ky,kF,SN,hW,q⟩:=h;have qd:=SN.qd;refine'⟨_,(ah (a8 (aM oW (au aD (by rfl) B.len cG (aa (pv 3) af)) (au aD (by rfl) B.len cG (aa (pv 2) af)) (aQ _)) (aj (aE dw)) aI)
   (ah (cr dG rfl (CP rfl he (aa (pv 2) af)) (gb (n:=2) rfl (ba (aB (i:=4) Kq.nd rfl (Or.inr rfl)) (ba (aB (i:=5) Kq.nd rfl (Or.inr rfl)) eG)))
    (ah (a8 (PW.pt (wG (aM rY (pv 5) dk (aQ _)) (rT (aM nR (be bN (pv 3) (pv 4) (fun _ _=>rfl)) dk (aQ _))))) (aj (aE dw)) aI)
    (aj (a8 (aM nR (pv 5) dk (aQ _)) (ah (a8 (cq (bW (av IL hr aG (aa (pv 0) (aa (pv 5) (aa (be bN (pv 1) (pv 4) (fun _ _=>rfl)) (aa (be bN (pv 3) (pv 4) (fun _ _=>rfl)) af))))))) (aj (aE dw)) aI)
     (aj (a8 (aM (CD (e:=qy) hr.u) ?c1 (bw af) (aQ _)) (aj (aE dw)) aI))) aI))))
   (aj (aE dw)))),?_⟩
  case c1=>
   refine' dQ (g:=(cI 0)) (tt:=(LD (kO (mR (LW) (mR (zD K) (br 1) (br 0)) (br 2))) (kO (mR (LW) (mR (zD K) (br 3) (br 0)) (mR (zD K) (br 3) (br 4)))))) (te:=(br 0)) (NB:=["_law_j","_law_stand","_law_house","_law_came","_law_i"]) (src:=[none,some 2,some 5,some 3,some 4]) (dq (by kernel_rfl)) rfl (bh rfl B.range (aa (pv 4) af)) ?g ?t ?e;case g=>exact fun cl C s₃ H₃ fp=>(aB (i:=0) DW rfl (Or.inl rfl) (Or.inr rfl))
   case t=>exact fun cl C s₃ H₃ fp=>fv (PW.pt (wG (aM eN (be bN (pv 1) (pv 0) (fun _ _=>rfl)) (pv 2) (aQ _)) (rT (aM eN (be bN (pv 3) (pv 0) (fun _ _=>rfl)) (be bN (pv 3) (pv 4) (fun _ _=>rfl)) (aQ _)))))
   case e=>exact fun cl C s₃ H₃ fp=>(pv 0)
  refine⟨_,rfl,xa,_,rfl,.inr (bD.of kF),_,rfl,sa,_,rfl,.inr (bD.of ky),rfl,_,rfl,?_⟩;rw[bp];by_cases hl:xs.length=st.length
  rotate_left
  .exact fN (by rw[dE (fun z=>hl (by injection z with z;exact d9 z))];rfl) (q H _ (az.refl _) ⟨fun z=>(nomatch z),fun z=>absurd z.1 hl⟩)
  refine eh (by rw[hl,bH rfl];rfl) ?_;refine⟨_,rfl,sa,_,rfl,bD.of ky,zZ (K:=K) (xs:=st.map oV) (fun i σ H1=>(∃z4 z5,σ=[some (.ref a),some (.ref ha),some (.ref sa),some (.ref xa),z4,z5])/\az H H1/\∀j,j<i->Bt ns homes st xs j) ⟨⟨_,_,rfl⟩,az.refl _,fun j hj=>absurd hj (jC _)⟩ (fun i σ H1 _ z=>bD.of (z.2.1 _ _ ky)) ?_ ?_⟩
  rotate_left
  .rintro σ H1 ⟨_,s1,hB⟩;rw[bp] at hB;exact q H1 _ s1 ⟨fun _=>⟨hl,hB⟩,fun _=>rfl⟩
  rintro i x pt σ H1 hx ⟨⟨z4,z5,rfl⟩,s1,hB⟩ Zr;have hi:i<st.length:=by have:=(cV.mp hx).1;rwa [bp] at this
  have w4:i<xs.length:=by rw[hl];exact hi
  obtain rfl:=bS (hx.symm.trans (qZ hi));have sP:=ai (o:=.tup [.int (i:Int),oV (st.getD i none)]) Zr;refine⟨pt,_,rfl,bD.of ag,rfl,_,_,rfl,_,_,rfl,rfl,?_⟩;have s2:=s1.trans sP;generalize upd H1 pt (.tup [.int (i:Int),oV (st.getD i none)])=H2 at *;have snoc:Bt ns homes st xs i->∀j,j<i+1->Bt ns homes st xs j:=fun b j hj=>by
   rcases qj.mp hj with z|z
   .exact hB j z
   .rw[z];exact b
  cases ho:st.getD i none with
  |none=>
   refine⟨_,rfl,rfl,_,rfl,fN rfl ⟨_,rfl,_,rfl,xa,_,_,_,rfl,rfl,bD.of (s2 _ _ kF),aJ (jM w4),rfl,_,rfl,ei (fun c=>?_) (fun c=>?_)⟩⟩
   .exact q H2 _ s2 ⟨fun z=>(nomatch z),fun z=>by rw[mJ,mC] at c;exact(c ((xT ho).mp (z.2 i hi))).elim⟩
   .refine⟨_,rfl,rfl,_,rfl,eh rfl ⟨⟨_,_,rfl⟩,s2,snoc ((xT ho).mpr ?_)⟩⟩;rw[mJ,mC] at c;exact wc.mp c
  |some h=>
   obtain⟨hh,hg,ka⟩:=SN.ok i h ho;obtain⟨p,hp⟩:=DS hh hg ka;have BS:=zf (ns:=ns) (homes:=homes) (xs:=xs) ho;obtain⟨o,wo⟩:=hW _ (show xs.getD i .bi∈xs by rw[cf,bZ w4];exact d7 w4);refine⟨_,rfl,rfl,_,rfl,eh rfl (dP ?_)⟩;refine⟨_,rfl,rfl,_,rfl,fN rfl ?_⟩;refine⟨_,rfl,_,rfl,_,rfl,_,rfl,ha,_,_,_,rfl,rfl,bD.of (s2 _ _ tW),aJ (q0 (by rw[SN.l];exact hi)),_,rfl,_,rfl,xa,_,_,_,rfl,rfl,bD.of (s2 _ _ kF),aJ (jM w4),a,ns,h,homes.getD i 0,p,_,o,rfl,s2 _ _ hA,BX,hp,(fun H' s'=>wo H' (s2.trans s')),fun H3 bb s3 hb=>⟨_,rfl,?_⟩⟩;have qY:=s2.trans s3;cases bb with
   |false=>exact fN rfl (q H3 _ qY ⟨fun z=>(nomatch z),fun z=>by obtain⟨y,e,l,_⟩:=BS.mp (z.2 i hi);exact hb.mpr ⟨y,e,l⟩⟩)
   |true=>
   obtain⟨y,ey,ln⟩:=hb.mp rfl;refine eh rfl ?_;refine⟨_,rfl,_,rfl,by lia,by lia,fun D hD=>?_⟩;rw[show ((i:Int)).toNat=i by lia];refine zd (lo:=0) (n:=i) (fun j=>decide (st.getD j none=some h)&&decide (xs.getD j .bi=.int (y:Int))) (fun σ=>∃u,σ=[u,some (.ref sa),some (.int (h:Int)),some (.ref xa),some (.int (i:Int))]) hD (by lia) ⟨_,rfl⟩ ?_ ?_
   .rintro j σ H5 Kt Kf hj ⟨u,rfl⟩ s5 kt kf;rw[dv] at kt |-;have EE:=qY.trans s5;refine⟨_,rfl,_,rfl,sa,_,_,_,rfl,rfl,bD.of (EE _ _ ky),aJ (qZ (by lia)),_,rfl,DQ,_,rfl,?_⟩;rw[HR];refine ei (fun c=>?_) (fun c=>?_)
    .obtain⟨y',e',_⟩:=(hB j hj).2 h (fc c);refine⟨_,rfl,_,rfl,xa,_,_,_,rfl,rfl,bD.of (EE _ _ kF),aJ (jM (by lia)),_,rfl,_,rfl,xa,_,_,_,rfl,rfl,bD.of (EE _ _ kF),aJ (jM w4),by rw[e',ey];rfl,_,rfl,?_⟩;rw[ey];refine ei (fun c'=>⟨_,rfl,kt _ _ ⟨_,rfl⟩ (az.refl _) (by rw[c,c'];rfl)⟩) (fun c'=>kf _ _ ⟨_,rfl⟩ (az.refl _) (by rw[mK.mpr c',Bool.and_false]))
    .exact dP (kf _ _ ⟨_,rfl⟩ (az.refl _) (by rw[mK.mpr c,Bool.false_and]))
   .intro H5 s5 vn;refine⟨by show 0<=sizeLine;decide,fun E1 NW=>?_⟩;have sE:=ai (o:=.lst []) NW;refine⟨D,E1,_,[],rfl,rfl,bz.of (sE _ _ vn),bz.of ag,fun i h1 h2=>absurd h2 (by simp),_,rfl,?_⟩;rw[am rfl,mw];have WG:=(qY.trans s5).trans sE;refine ei (fun c=>?_) (fun c=>?_)
    .refine q _ _ WG ⟨fun z=>(nomatch z),fun z=>?_⟩;rw[mJ,mC] at c;obtain⟨y',e',_,u⟩:=BS.mp (z.2 i hi);rw[ey] at e';injection e' with e';obtain rfl:=d9 e';refine(c ?_).elim;rw[List.map_eq_nil_iff,vI];intro j hj z';obtain⟨c1,c2⟩:=vP.mp z';exact u j (cX.mp hj) (fc c1) (fc c2)
    .refine⟨⟨_,_,rfl⟩,WG,snoc (BS.mpr ⟨y,ey,ln,fun j hj hs e=>?_⟩)⟩;rw[mJ,mC,wc,List.map_eq_nil_iff,vI] at c;exact c j (cX.mpr hj) (by rw[bH hs,bH e];rfl)
end
abbrev Op:Stmt:=fk 73
def jd(p:Addr)(H:Hp)(x:V):Prop:=(∃i:Int,x=.int i)\/x=.bi\/(∃b,x=.bl b)\/(∃z,x=.str z)\/∃a ob,x=.ref a/\a≠p/\H a=some ob/\((∃xs,ob=.tup xs)\/(∃xs,ob=.lst xs)\/∃cu,ob=.dK cu)
theorem jd.bE{p:Addr}{H H':Hp}{x:V}(h:jd p H x)(s:bf p H H'):jd p H' x:=by
 rcases h with h|h|h|h|⟨a,ob,e,n,g,z⟩
 .exact .inl h
 .exact .inr (.inl h)
 .exact .inr (.inr (.inl h))
 .exact .inr (.inr (.inr (.inl h)))
 .exact .inr (.inr (.inr (.inr ⟨a,ob,e,n,s _ _ g n,z⟩)))
theorem jd.same{p:Addr}{H H':Hp}{x:V}(h:jd p H x)(s:az H H'):jd p H' x:=h.bE (bf.of s)
theorem Oq{p:Addr}{H:Hp}{o:Option Nat}:jd p H (oV o):=by
 cases o with
 |none=>exact .inr (.inl rfl)
 |some y=>exact .inl ⟨_,rfl⟩
theorem jd.wh{K:PySem.W.Frag}{p:Addr}{H:Hp}{x:V}(h:jd p H x):∃o,tV K H x o:=by
 rcases h with ⟨i,rfl⟩|rfl|⟨b,rfl⟩|⟨z,rfl⟩|⟨a,ob,rfl,n,g,⟨xs,rfl⟩|⟨xs,rfl⟩|⟨xs,rfl⟩⟩
 .exact⟨some i,lq⟩
 .exact⟨none,fun H' s=>.no ⟨_,.of .bi,.inl (by kernel_rfl)⟩⟩
 .exact⟨none,fun H' s=>.no ⟨_,.of (.bl b),.inr ⟨by kernel_rfl,by kernel_rfl⟩⟩⟩
 .exact⟨none,fun H' s=>.no ⟨_,.of (.str z),.inl (by kernel_rfl)⟩⟩
 .exact⟨none,fun H' s=>.no ⟨_,.of (.tup (s _ _ g)),.inl (by kernel_rfl)⟩⟩
 .exact⟨none,fun H' s=>.no ⟨_,.of (.lst (s _ _ g)),.inl (by kernel_rfl)⟩⟩
 .exact⟨none,fun H' s=>.no ⟨_,.of (.dK (s _ _ g)),.inl (by kernel_rfl)⟩⟩
theorem kB{p q:Addr}{H:Hp}{o:HO}(hp:H p≠none)(hq:H q=none)(e:H' q=some o)(z:(∃xs,o=.tup xs)\/(∃xs,o=.lst xs)\/∃cu,o=.dK cu):jd p H' (.ref q):=.inr (.inr (.inr (.inr ⟨q,o,rfl,(fun y=>by rw[y] at hq;exact hp hq),e,z⟩)))
inductive Ox where
 |bi|bl (b:Bool)|neg (i:Int)|str (s:Str)|tupI (i:Int)|Ks (i:Int)
def Os:Expr->Option Ox
 |.Constant .none _ _=>some .bi
 |.Constant (.bool b) _ _=>some (.bl b)
 |.Constant (.str s) _ _=>some (.str s)
 |.UnaryOp .USub (.Constant (.int i) _ _) _=>some (.neg i)
 |.Tuple [.Constant (.int i) _ _] _ _=>some (.tupI i)
 |.List [.Constant (.int i) _ _] _=>some (.Ks i)
 |_=>none
def Gw:List Expr->Option (List Ox)
 |[]=>some []
 |e::es=>(Os e).bind fun o=>(Gw es).map (o::·)
def Tg:Ox->TE
 |.bi=>tC .bi
 |.bl b=>tC (.bl b)
 |.neg i=>QE (rU fun i=>.int (-i)) (tC (.int i))
 |.str s=>tC (.str s)
 |.tupI i=>wT (aY (tC (.int i)) dJ)
 |.Ks i=>r_ (aY (tC (.int i)) dJ)
def Ku:List Ox->TA->TA
 |[],t=>t
 |o::os,t=>aY (Tg o) (Ku os t)
theorem Gx{X:Cx}{e:Expr}{es:List Expr}{o:Ox}(h:Os e=some o):starEach (e::es) X.env=(false,eval e X.env)::starEach es X.env:=by
 unfold Os at h;split at h;all_goals first|rfl|cases h
theorem Ot{X:Cx}{e:Expr}{o:Ox}(h:Os e=some o):PE X e (Tg o):=by
 unfold Os at h;split at h;all_goals first|(cases h;done)|(cases h;first|exact dk|exact dw|exact j6|exact(BF wN ap:PE X _ (QE (rU fun i=>V.int (-i)) (tC (V.int _))))|exact dB (aa ap af)|exact bw (aa ap af))
theorem HV{X:Cx}:∀ {es:List Expr} {os:List Ox} {r:List Expr} {t:TA},Gw es=some os->PA X r t->PA X (es++r) (Ku os t)
 |[],os,r,t,h,hr=>by cases h;exact hr
 |e::es,os,r,t,h,hr=>by
  unfold Gw at h;obtain⟨o,h1,h2⟩:=Option.bind_eq_some_iff.mp h;obtain⟨Vq,h3,rfl⟩:=Option.map_eq_some_iff.mp h2;exact aa (Ot h1) (HV h3 hr) (Gx h1)
theorem Th{p:Addr}{σ:St}:∀ {o:Ox} {H:Hp} {Q:V->Hp->Prop},H p≠none->(∀v H',az H H'->jd p H' v->Q v H')->Tg o σ H Q
 |.bi,H,Q,hp,k=>k _ _ (az.refl _) (.inr (.inl rfl))
 |.bl b,H,Q,hp,k=>k _ _ (az.refl _) (.inr (.inr (.inl ⟨_,rfl⟩)))
 |.neg i,H,Q,hp,k=>⟨i,rfl,k _ _ (az.refl _) (.inl ⟨_,rfl⟩)⟩
 |.str s,H,Q,hp,k=>k _ _ (az.refl _) (.inr (.inr (.inr (.inl ⟨_,rfl⟩))))
 |.tupI i,H,Q,hp,k=>⟨by show 1<=sizeLine;decide,fun a ha=>k _ _ (ai ha) (kB hp ha ag (.inl ⟨_,rfl⟩))⟩
 |.Ks i,H,Q,hp,k=>⟨by show 1<=sizeLine;decide,fun a ha=>k _ _ (ai ha) (kB hp ha ag (.inr (.inl ⟨_,rfl⟩)))⟩
theorem gI{p:Addr}{H H':Hp}(hp:H p≠none)(s:az H H'):H' p≠none:=fun z=>by
 cases e:H p with
 |none=>exact hp e
 |some u=>rw[s _ _ e] at z;cases z
theorem HW{p:Addr}{σ:St}{t:TA}:∀ {os:List Ox} {H:Hp} {Q:List V->Hp->Prop},H p≠none->(∀vs H',az H H'->vs.length=os.length->(∀v∈vs,jd p H' v)->t σ H' fun xs H2=>Q (vs++xs) H2)->Ku os t σ H Q
 |[],H,Q,hp,k=>k [] H (az.refl _) rfl fun v hv=>(nomatch hv)
 |o::os,H,Q,hp,k=>by
  refine Th hp fun v H' s sh=>?_;refine HW (p:=p) (os:=os) (gI hp s) fun vs H2 s2 hl hv=>?_;refine k (v::vs) H2 (s.trans s2) (congrArg (·+1) hl) fun x hx=>?_;rcases bu.mp hx with rfl|hx
  .exact sh.same s2
  .exact hv x hx
abbrev bo(i:Nat):Stmt:=(bt Op).getD i (.Pass ⟨0,0,0,0⟩)
def Ou:Stmt->List Expr
 |.Assign _ (.List es _) _=>es
 |_=>[]
def oE(i:Nat):Expr:=(Ou (bo 2)).getD i (.Name "x" ⟨0,0,0,0⟩)
theorem DX:∃es os q1 q2 q3,bt Op=[bo 0,bo 1,.Assign [.Name "_law_odd" q1] (.List (es++[oE 6,oE 7,oE 8]) q2) q3,bo 3,bo 4,bo 5,bo 6,bo 7,bo 8,bo 9,bo 10,bo 11]/\Gw es=some os/\os.length=6:=
 ⟨(Ou (bo 2)).take 6,[.bi,.bl true,.bl false,.str "0",.tupI 0,.neg 1],_,_,_,rfl,by kernel_rfl,rfl⟩
structure EH(X:Cx)(es:List Expr)(t:TA):Prop where
 p:PA X es t
theorem Kv{X:Cx}{k2 k3:_}{r7 r8 r9:Pos}:PE X (.Dict [some (.Constant (.int 0) k2 r7)] [.Constant (.int 1) k3 r8] r9) (yD [(tC (.int 0),tC (.int 1))]):=Fx (CM ap ap Fw) rfl rfl (by simp) (by show 1<=15;decide)
theorem Ov{X:Cx}{k4 k5:_}{Zt Zu Zv:Pos}:EH X [.Tuple [.List [.Constant (.int 1) k4 Zt] Zu] k5 Zv] (aY (wT (aY (r_ (aY (tC (.int 1)) dJ)) dJ)) dJ):=⟨aa (dB (aa (bw (aa ap af)) af)) af⟩
theorem Ow{X:Cx}{k2 k3:_}{r7 r8 r9:Pos}{es t}(h:EH X es t):EH X (.Dict [some (.Constant (.int 0) k2 r7)] [.Constant (.int 1) k3 r8] r9::es) (aY (yD [(tC (.int 0),tC (.int 1))]) t):=⟨aa Kv h.p⟩
theorem Oy{X:Cx}{r6:Pos}{es t}(h:EH X es t):EH X (.Dict [] [] r6::es) (aY xu t):=⟨aa CL h.p⟩
theorem Oz{X:Cx}{k1:_}{r4 r5:Pos}{es t}(h:EH X es t):EH X (.List [.Constant (.int 0) k1 r4] r5::es) (aY (r_ (aY (tC (.int 0)) dJ)) t):=⟨aa (bw (aa ap af)) h.p⟩
theorem OA{X:Cx}{r3:Pos}{es t}(h:EH X es t):EH X (.List [] r3::es) (aY (r_ dJ) t):=⟨aa (bw af) h.p⟩
theorem Gy:∃e2 p1 p2 p3 p4 p5,bo 3=.Assign [.Name "_law_odd" p1] (.BinOp (.Name "_law_odd" p2) .Add (.List e2 p3) p4) p5/\∀X:Cx,EH X e2 (aY (r_ dJ) (aY (r_ (aY (tC (.int 0)) dJ)) (aY xu (aY (yD [(tC (.int 0),tC (.int 1))]) (aY (wT (aY (r_ (aY (tC (.int 1)) dJ)) dJ)) dJ))))):=
 ⟨_,_,_,_,_,_,rfl,fun X=>OA (Oz (Oy (Ow Ov)))⟩
def AQ(p:Addr)(H:Hp)(t:Addr)(n:Nat):Prop:=∃ys,H t=some (.tup ys)/\ys.length<=n/\∀y∈ys,jd p H y
theorem AQ.same{p t:Addr}{H H':Hp}{n:Nat}(h:AQ p H t n)(s:az H H'):AQ p H' t n:=let ⟨ys,e,l,f⟩:=h;⟨ys,s _ _ e,l,fun y hy=>(f y hy).same s⟩
theorem Gz{xs:List V}{lo hi:Option Int}{y:V}(h:y∈pV xs lo hi):y∈xs:=oy (on h)
theorem lr{p a:Addr}{H:Hp}{n:Nat}{lo hi:Option Int}{Q:VK}(T:AQ p H a n)(k:∀t H',az H H'->AQ p H' t n->Q (.ref t) H'):qc (.ref a) lo hi H Q:=by
 obtain⟨ys,e,l,f⟩:=T;exact⟨a,ys,rfl,e,fun r H' s hr=>k r H' s ⟨_,hr,bq (mU _ _ _) l,fun y hy=>(f y (Gz hy)).same s⟩⟩
theorem ic{p a b:Addr}{H:Hp}{n m:Nat}{Q:VK}(T:AQ p H a n)(U:AQ p H b m)(hn:n+m<=1000)(k:∀t H',az H H'->AQ p H' t (n+m)->Q (.ref t) H'):y4 (.ref a) (.ref b) H Q:=by
 obtain⟨ys,e,l,f⟩:=T;obtain⟨zs,e',l',f'⟩:=U;refine⟨a,b,ys,zs,rfl,rfl,e,e',bq (show _<=1000 by lia) (by decide),fun r H' s hr=>k r H' s ⟨_,hr,by rw[cz];lia,fun y hy=>?_⟩⟩;rcases cP.mp hy with z|z
 .exact(f y z).same s
 .exact(f' y z).same s
theorem tI{p t:Addr}{H:Hp}{v:V}(h:jd p H v)(ht:H t=none):AQ p (upd H t (.tup [v])) t 1:=⟨_,ag,aO _,fun y hy=>by rw[dD.mp hy];exact h.same (ai ht)⟩
structure vo(p a sa xa:Addr)(ns:List Nat)(st:List (Option Nat))(xs:List V)(H0 H:Hp):Prop where
 gg:bG H p
 s0:bf p H0 H
 ha:H a=some (.tup (NV ns))
 ky:H sa=some (.tup (st.map oV))
 kF:H xa=some (.tup xs)
 th:∀x∈xs,jd p H x
theorem vo.bE{p a sa xa:Addr}{ns:List Nat}{st:List (Option Nat)}{xs:List V}{H0 H H':Hp}(c:vo p a sa xa ns st xs H0 H)(s:bf p H H')(hp:bG H' p):vo p a sa xa ns st xs H0 H':=
 ⟨hp,c.s0.trans s,s _ _ c.ha (c.gg.neT c.ha),s _ _ c.ky (c.gg.neT c.ky),s _ _ c.kF (c.gg.neT c.kF),fun x hx=>(c.th x hx).bE s⟩
theorem vo.same{p a sa xa:Addr}{ns:List Nat}{st:List (Option Nat)}{xs:List V}{H0 H H':Hp}(c:vo p a sa xa ns st xs H0 H)(s:az H H'):vo p a sa xa ns st xs H0 H':=c.bE (bf.of s) (c.gg.same s)
theorem vo.tu{p a sa xa:Addr}{ns:List Nat}{st:List (Option Nat)}{xs:List V}{H0 H:Hp}(c:vo p a sa xa ns st xs H0 H)(l:xs.length<=16):AQ p H xa 16:=⟨xs,c.kF,l,c.th⟩
section
variable {P:Program} {w:World} {K:PySem.W.Frag} {mg:Str->Option Value} {base:Heap}
theorem pF:aA ["_law_pot_here","_law_sides_here","_law_stand","_law_came","_law_way","_law_at","_law_odd","_law_thing","_law_other","_law_ties_here","_law_first","_law_last"] ["_law_pot_here","_law_sides_here","_law_stand","_law_came"] (ak Op):=⟨rfl,rfl,rfl,by decide +kernel,rfl,by decide +kernel,by decide +kernel⟩
def Kw:Sp:=fun vs H Q _=>∃ (p a sa xa:Addr) (ns:List Nat) (st:List (Option Nat)) (xs:List V),vs=[.ref p,.ref a,.ref sa,.ref xa]/\vo p a sa xa ns st xs H H/\Bx ns/\2<=pr ns/\xs.length=st.length/\xs.length<=16/\∀ (t:Addr) (H':Hp),bf p H H'->bG H' p->AQ p H' t 100->Q (.ref t) H'
theorem OB{f:Addr}{fd:FuncData}(F:dH K "_law_spoilt" "_law_spoilt" Op f fd)(B:Bl mg)(MA:bQ P w K mg base a9 1 "_law_many" ["_law_sides_here"] Av)(DR:bQ P w K mg base a9 1 "_law_draw" ["_law_pot_here","_law_many_here"] u0)(OU:bQ P w K mg base a9 4 "_law_out" ["_law_sides_here","_law_house"] Kj):a7 P w K mg base a9 5 f fd ["_law_pot_here","_law_sides_here","_law_stand","_law_came"] Kw:=by
 refine F.ok pF (fun vs H Q E h=>?_) (fun ce A outer s H vs Q E hr h=>?_)
 .obtain⟨p,a,sa,xa,ns,st,xs,rfl,_⟩:=h;rfl
 .obtain⟨p,a,sa,xa,ns,st,xs,rfl,c0,BX,n1,xl,qd,q⟩:=h;have h1:bv 1 _:=hr.mono (by decide);have h4:bv 4 _:=hr.mono (by decide);have n2:=BX.Nx;obtain⟨es,os,q1,q2,q3,eb,Q8,ol⟩:=DX;obtain⟨e2,p1,p2,p3,p4,p5,Zw,PV⟩:=Gy;rw[eb,Zw];refine⟨_,(ah (aL (i:=4) pF.nd rfl (Or.inl rfl) (av DR h1 aG (aa (pv 0) (aa ap af)))) (ah (aL (i:=5) pF.nd rfl (Or.inl rfl) (av DR h1 aG (aa (pv 0) (aa (aP cj (au aD (by rfl) B.len cG (aa (pv 3) af)) ap) af)))) (ah (aL (i:=6) pF.nd rfl (Or.inl rfl) (bw (HV Q8 (aa (e:=oE 6) (av MA h1 aG (aa (pv 1) af)) (aa (e:=oE 7) (aP wM ap ap) (aa (e:=oE 8) (av DR h1 aG (aa (pv 0) (aa (av MA h1 aG (aa (pv 1) af)) af))) af)))))) (ah (aL (i:=6) pF.nd rfl (Or.inl rfl) (aP l8 (pv 6) (bw (PV _).p))) (ah (aL (i:=7) pF.nd rfl (Or.inl rfl) (be bC (pv 6) (av DR h1 aG (aa (pv 0) (aa (au aD (by rfl) B.len cG (aa (pv 6) af)) af))) (fun _ _=>rfl))) (ah (a8 (PW.pt (oQ (aM eN (pv 4) ap (aQ _)) (j7 (aM eN (pv 5) (au aD (by rfl) B.len cG (aa (pv 3) af)) (aQ _))))) (aj (aE (aP fz (aP fz (de dY (pv 3) eI (dA (pv 5))) (dB (aa (pv 7) af))) (de dY (pv 3) (dA (pv 5)) eI)))) aI) (ah (a8 (aM eN (pv 4) ap (aQ _)) (aj (aE (aP fz (de dY (pv 3) eI (dA (pv 5))) (de dY (pv 3) (dA (aP cj (pv 5) ap)) eI)))) aI) (ah (aL (i:=8) pF.nd rfl (Or.inl rfl) (av DR h1 aG (aa (pv 0) (aa (au aD (by rfl) B.len cG (aa (pv 3) af)) af)))) (ah (a8 (aM eN (pv 4) ap (aQ _)) (aj (aL (i:=7) pF.nd rfl (Or.inl rfl) (be bN (pv 3) (pv 8) (fun _ _=>rfl)))) aI) (ah (a8 (PW.pt (wG (aM qt (pv 4) ap (aQ _)) (rT (aM nR (be bN (pv 2) (pv 5) (fun _ _=>rfl)) dk (aQ _))))) (ah (aL (i:=9) pF.nd rfl (Or.inl rfl) (av OU h4 aG (aa (pv 1) (aa (be bN (pv 2) (pv 5) (fun _ _=>rfl)) af)))) (aj (aL (i:=7) pF.nd rfl (Or.inl rfl) (be bC (pv 9) (av DR h1 aG (aa (pv 0) (aa (au aD (by rfl) B.len cG (aa (pv 9) af)) af))) (fun _ _=>rfl))))) aI) (ah (a8 (aM eN (pv 4) ap (aQ _)) (ah (Bp (i:=10) (j:=11) rfl pF.nd rfl rfl (by decide) rfl rfl (aa (au (lW rfl) (by rfl) B.min vL (aa (pv 5) (aa (pv 8) af))) (aa (au (jn rfl) (by rfl) B.max rA (aa (pv 5) (aa (pv 8) af))) af)) (by rfl)) (ah (a8 (aM eN (pv 10) (pv 11) (aQ _)) (aj (aE (pv 3))) aI) (aj (aE (aP fz (aP fz (aP fz (aP fz (de dY (pv 3) eI (dA (pv 10))) (dB (aa (be bN (pv 3) (pv 11) (fun _ _=>rfl)) af))) (de dY (pv 3) (dA (aP cj (pv 10) ap)) (dA (pv 11)))) (dB (aa (be bN (pv 3) (pv 10) (fun _ _=>rfl)) af))) (de dY (pv 3) (dA (aP cj (pv 11) ap)) eI)))))) aI) (aj (aE (aP fz (aP fz (de dY (pv 3) eI (dA (pv 5))) (dB (aa (pv 7) af))) (de dY (pv 3) (dA (aP cj (pv 5) ap)) eI))))))))))))))),?_⟩;refine⟨_,rfl,p,8,rfl,by decide,by decide +kernel,c0.gg,fun w0 H1 hw s1 p1=>?_⟩;have c1:=c0.bE s1 p1;refine⟨_,rfl,_,rfl,xa,_,rfl,.inr (bD.of c1.kF),_,_,rfl,rfl,p,xs.length+1,rfl,by lia,by lia,c1.gg,fun d H2 hd s2 p2=>?_⟩;have c2:=c1.bE s2 p2;clear c0 c1 s1 p1 s2 p2;refine HW (p:=p) c2.gg.full fun vs H3 s3 vl WH=>?_;have c3:=c2.same s3;refine⟨_,rfl,a,ns,rfl,c3.ha,(fun x hx=>(BX.sd x hx).2),_,_,rfl,rfl,⟨by decide,by decide,by decide⟩,_,rfl,_,rfl,a,ns,rfl,c3.ha,(fun x hx=>(BX.sd x hx).2),p,pr ns,rfl,by lia,by lia,c3.gg,fun d1 H4 Mv s4 p4=>⟨?_,fun D hD=>?_⟩⟩
  .rw[cz,vl,ol];show 9<=sizeLine;decide
  have c4:=c3.bE s4 p4;have WI:∀v∈vs++[V.int (pr ns:Nat),.int (10 ^ Int.toNat 30),.int (d1:Int)],jd p H4 v:=by
   intro v hv;rcases cP.mp hv with z|z
   .exact(WH v z).bE s4
   .simp only[bu,iD,or_false] at z;rcases z with rfl|rfl|rfl <;> exact .inl ⟨_,rfl⟩
  have wl:(vs++[V.int (pr ns:Nat),.int (10 ^ Int.toNat 30),.int (d1:Int)]).length=9:=by rw[cz,vl,ol];rfl
  change cI 6 (V.ref D) _ (upd H4 D (.lst (vs++[V.int (pr ns:Nat),.int (10 ^ Int.toNat 30),.int (d1:Int)]))) _;generalize vs++[V.int (pr ns:Nat),.int (10 ^ Int.toNat 30),.int (d1:Int)]=us at *;have sD:=ai (o:=.lst us) hD;have c5:=c4.same sD;have gD:(upd H4 D (.lst us)) D=some (.lst us):=ag;have WJ:∀v∈us,jd p (upd H4 D (.lst us)) v:=fun v hv=>(WI v hv).same sD;generalize upd H4 D (.lst us)=H5 at *;clear c2 c3 c4 s3 s4 sD WI WH p4;refine⟨_,rfl,by show 0<=sizeLine;decide,fun m1 Ti=>⟨by show 1<=sizeLine;decide,fun m2 I0 m3 I_ m4 Qf=>⟨ag,[(.inl 0,.int 1)],rfl,by decide,by show 1<=sizeLine;decide,fun m5 WK=>⟨by show 1<=sizeLine;decide,fun m6 Tj=>⟨by show 5<=sizeLine;decide,fun m7 WL=>?_⟩⟩⟩⟩⟩;have p0:=c5.gg.full;have u1:=ai (o:=.lst []) Ti;have T1:jd p (upd H5 m1 (.lst [])) (.ref m1):=kB p0 Ti ag (.inr (.inl ⟨_,rfl⟩));generalize upd H5 m1 (.lst [])=A1 at *;have u2:=ai (o:=.lst [.int 0]) I0;have T2:jd p (upd A1 m2 (.lst [.int 0])) (.ref m2):=kB (gI p0 u1) I0 ag (.inr (.inl ⟨_,rfl⟩));generalize upd A1 m2 (.lst [.int 0])=A2 at *;have Tk:=u1.trans u2;have u3:=ai (o:=.dK []) I_;have T3:jd p (upd A2 m3 (.dK [])) (.ref m3):=kB (gI p0 Tk) I_ ag (.inr (.inr ⟨_,rfl⟩));generalize upd A2 m3 (.dK [])=A3 at *;have Tl:=Tk.trans u3;have u4:az A3 (upd (upd A3 m4 (.dK [])) m4 (.dK (iV [] [(.inl 0,.int 1)]))):=cK (ai (o:=.dK []) Qf) Qf;have T4:jd p (upd (upd A3 m4 (.dK [])) m4 (.dK (iV [] [(.inl 0,.int 1)]))) (.ref m4):=kB (gI p0 Tl) Qf ag (.inr (.inr ⟨_,rfl⟩));generalize upd (upd A3 m4 (.dK [])) m4 (.dK (iV [] [(.inl 0,.int 1)]))=A4 at *;have WM:=Tl.trans u4;have u5:=ai (o:=.lst [.int 1]) WK;generalize upd A4 m5 (.lst [.int 1])=A5 at *;have Tn:=WM.trans u5;have u6:=ai (o:=.tup [.ref m5]) Tj;have T6:jd p (upd A5 m6 (.tup [.ref m5])) (.ref m6):=kB (gI p0 Tn) Tj ag (.inl ⟨_,rfl⟩);generalize upd A5 m6 (.tup [.ref m5])=A6 at *;have WN:=Tn.trans u6;have u7:=ai (o:=.lst [.ref m1,.ref m2,.ref m3,.ref m4,.ref m6]) WL;have g7:(upd A6 m7 (.lst [.ref m1,.ref m2,.ref m3,.ref m4,.ref m6])) m7=some (.lst [.ref m1,.ref m2,.ref m3,.ref m4,.ref m6]):=ag;generalize upd A6 m7 (.lst [.ref m1,.ref m2,.ref m3,.ref m4,.ref m6])=A7 at *;have Qg:=WN.trans u7;refine⟨D,m7,_,_,rfl,rfl,Qg _ _ gD,g7,by rw[wl];show 14<=sizeLine;decide,fun L hL=>?_⟩;have WO:∀v∈us++[.ref m1,.ref m2,.ref m3,.ref m4,.ref m6],jd p A7 v:=by
   intro v hv;rcases cP.mp hv with z|z
   .exact(WJ v z).same Qg
   .simp only[bu,iD,or_false] at z;rcases z with rfl|rfl|rfl|rfl|rfl
    .exact T1.same (((((u2.trans u3).trans u4).trans u5).trans u6).trans u7)
    .exact T2.same ((((u3.trans u4).trans u5).trans u6).trans u7)
    .exact T3.same (((u4.trans u5).trans u6).trans u7)
    .exact T4.same ((u5.trans u6).trans u7)
    .exact T6.same u7
  have WP:(us++[V.ref m1,.ref m2,.ref m3,.ref m4,.ref m6]).length=14:=by rw[cz,wl];rfl
  have c7:=c5.same Qg;clear T1 T2 T3 T4 T6 u1 u2 u3 u4 u5 u6 u7 Tk Tl WM Tn WN Qg WJ Ti I0 I_ Qf WK Tj WL g7 gD c5 p0;change cI 6 (V.ref L) _ (upd A7 L (.lst (us++[V.ref m1,.ref m2,.ref m3,.ref m4,.ref m6]))) _;generalize us++[V.ref m1,.ref m2,.ref m3,.ref m4,.ref m6]=ws at *;have sL:=ai (o:=.lst ws) hL;have c8:=c7.same sL;have gL:(upd A7 L (.lst ws)) L=some (.lst ws):=ag;have WQ:∀v∈ws,jd p (upd A7 L (.lst ws)) v:=fun v hv=>(WO v hv).same sL;have nL:L≠p:=c7.gg.ne hL;generalize upd A7 L (.lst ws)=A8 at *;clear c7 WO sL hL;refine⟨_,rfl,_,rfl,_,rfl,L,_,rfl,.inl (bz.of gL),p,14,by rw[WP];rfl,by decide,by decide +kernel,c8.gg,fun d2 A9 HL s9 p9=>?_⟩;have c9:=c8.bE s9 p9;have OC:d2<ws.length:=by rw[WP];exact HL
  refine⟨L,_,_,ws[d2],rfl,rfl,bz.of (s9 _ _ gL nL),aJ (bZ OC),?_⟩;have qe:=(WQ _ (d7 OC)).bE s9;generalize ws[d2]=v9 at *;clear c8 WQ s9 p9 gL;have dt:∀ (Hn:Hp),vo p a sa xa ns st xs H Hn->∀ (t:Addr) (H':Hp),az Hn H'->AQ p H' t 100->Q (.ref t) H':=fun Hn c t H' s T=>q t H' (c.s0.trans (bf.of s)) (c.gg.same s) T;refine fm (fun σ Hx=>σ=[some (.ref p),some (.ref a),some (.ref sa),some (.ref xa),some (.int (w0:Int)),some (.int (d:Int)),some (.ref L),some v9,none,none,none,none]/\vo p a sa xa ns st xs H Hx/\jd p Hx v9) ?_ (fun N hN=>hN _ _ ⟨rfl,c9,qe⟩);clear c9 qe;rintro σ A9 ⟨rfl,c9,qe⟩;refine fm (fun σ Hx=>σ=[some (.ref p),some (.ref a),some (.ref sa),some (.ref xa),some (.int (w0:Int)),some (.int (d:Int)),some (.ref L),some v9,none,none,none,none]/\vo p a sa xa ns st xs H Hx/\jd p Hx v9/\d<xs.length) ?_ ?_
  rotate_left
  .intro N hN;have OD:Im (mR y4 (mR y4 (Pz qc (br 3) fU (yh (br 5))) (wT (aY (br 7) dJ))) (Pz qc (br 3) (yh (br 5)) fU)) { nx:=fun _ H'=>Q .bi H',rt:=Q } [some (.ref p),some (.ref a),some (.ref sa),some (.ref xa),some (.int (w0:Int)),some (.int (d:Int)),some (.ref L),some v9,none,none,none,none] A9:=by
    refine⟨_,rfl,_,rfl,_,rfl,lr (c9.tu qd) fun t1 B1 s1 U1=>⟨_,rfl,by show 1<=sizeLine;decide,fun t2 qU=>ic (U1.same (ai qU)) (tI (qe.same s1) qU) (by lia) fun t3 B3 s3 U3=>⟨_,rfl,_,rfl,_,rfl,?_⟩⟩⟩;have qY:=(s1.trans (ai (o:=.tup [v9]) qU)).trans s3;unfold fU;show qc _ _ _ _ _;refine lr ((c9.tu qd).same qY) fun t4 B4 s4 U4=>?_;refine ic (U3.same s4) U4 (by lia) fun t5 B5 s5 U5=>?_;exact dt _ c9 t5 B5 (qY.trans (s4.trans s5)) (let ⟨ys,e,l,f⟩:=U5;⟨ys,e,by lia,f⟩)
   refine⟨_,rfl,rfl,_,rfl,ei (fun e=>fK OD) (fun e=>?_)⟩;refine⟨_,rfl,_,rfl,xa,_,rfl,.inr (bD.of c9.kF),rfl,_,rfl,ei (fun e=>OD) (fun e=>hN _ _ ⟨rfl,c9,qe,?_⟩)⟩;have:d≠xs.length:=fun z=>e (by rw[z];exact bH rfl);lia
  clear c9 qe;rintro σ A9 ⟨rfl,c9,qe,IX⟩;refine fm (fun σ Hx=>σ=[some (.ref p),some (.ref a),some (.ref sa),some (.ref xa),some (.int (w0:Int)),some (.int (d:Int)),some (.ref L),some v9,none,none,none,none]/\vo p a sa xa ns st xs H Hx/\jd p Hx v9) ?_ ?_
  rotate_left
  .intro N hN;refine⟨_,rfl,rfl,_,rfl,ei (fun e=>?_) (fun e=>hN _ _ ⟨rfl,c9,qe⟩)⟩;refine⟨_,rfl,_,rfl,_,rfl,lr (c9.tu qd) fun t1 B1 s1 U1=>⟨_,rfl,_,rfl,_,_,rfl,rfl,_,rfl,?_⟩⟩;unfold fU;show qc _ _ _ _ _;refine lr ((c9.tu qd).same s1) fun t4 B4 s4 U4=>?_;refine ic (U1.same s4) U4 (by lia) fun t5 B5 s5 U5=>?_;exact dt _ c9 t5 B5 (s1.trans (s4.trans s5)) (let ⟨ys,e,l,f⟩:=U5;⟨ys,e,by lia,f⟩)
  clear c9 qe;rintro σ A9 ⟨rfl,c9,qe⟩;refine⟨_,rfl,_,rfl,xa,_,rfl,.inr (bD.of c9.kF),p,xs.length,rfl,by lia,by lia,c9.gg,fun d3 A10 Ki Tp WR=>?_⟩;have Ri:=c9.bE Tp WR;have OE:=qe.bE Tp;clear c9 qe;refine fm (fun σ Hx=>σ=[some (.ref p),some (.ref a),some (.ref sa),some (.ref xa),some (.int (w0:Int)),some (.int (d:Int)),some (.ref L),some v9,some (.int (d3:Int)),none,none,none]/\vo p a sa xa ns st xs H Hx/\jd p Hx v9) ?_ (fun N hN=>hN _ _ ⟨rfl,Ri,OE⟩);clear Ri OE Tp WR;rintro σ A9 ⟨rfl,c9,qe⟩;refine fm (fun σ Hx=>∃v,σ=[some (.ref p),some (.ref a),some (.ref sa),some (.ref xa),some (.int (w0:Int)),some (.int (d:Int)),some (.ref L),some v,some (.int (d3:Int)),none,none,none]/\vo p a sa xa ns st xs H Hx/\jd p Hx v) ?_ ?_
  rotate_left
  .intro N hN;refine⟨_,rfl,rfl,_,rfl,ei (fun e=>?_) (fun e=>hN _ _ ⟨v9,rfl,c9,qe⟩)⟩;exact⟨_,rfl,_,rfl,xa,_,_,_,rfl,rfl,bD.of c9.kF,aJ (bZ Ki),hN _ _ ⟨_,rfl,c9,c9.th _ (d7 Ki)⟩⟩
  clear c9 qe v9;rintro σ A9 ⟨v9,rfl,c9,qe⟩;refine fm (fun σ Hx=>∃v z,σ=[some (.ref p),some (.ref a),some (.ref sa),some (.ref xa),some (.int (w0:Int)),some (.int (d:Int)),some (.ref L),some v,some (.int (d3:Int)),z,none,none]/\vo p a sa xa ns st xs H Hx/\jd p Hx v) ?_ ?_
  rotate_left
  .intro N hN;refine⟨_,rfl,_,_,rfl,rfl,_,rfl,ei (fun e=>?_) (fun e=>dP (hN _ _ ⟨v9,_,rfl,c9,qe⟩))⟩;refine⟨_,rfl,_,rfl,sa,_,_,_,rfl,rfl,bD.of c9.ky,aJ (qZ (by lia)),rfl,_,rfl,?_⟩;cases ho:st.getD d none with
   |none=>exact eh rfl (hN _ _ ⟨v9,_,rfl,c9,qe⟩)
   |some h=>
    refine fN rfl ⟨_,rfl,_,rfl,_,rfl,sa,_,_,_,rfl,rfl,bD.of c9.ky,aJ (by rw[qZ (by lia),ho];rfl),a,ns,h,rfl,c9.ha,BX,fun r ys B1 s1 Zx vk y0 yl=>?_⟩;have cB:=c9.same s1;have nr:r≠p:=c9.gg.ne Zx;have y0':=y0;refine⟨_,rfl,_,rfl,_,rfl,r,_,rfl,.inl (bz.of vk),p,ys.length,by rw[bF];rfl,y0,by lia,cB.gg,fun d5 B2 Lq s2 p2=>?_⟩;refine⟨r,_,_,_,rfl,rfl,bz.of (s2 _ _ vk nr),aJ (q0 Lq),hN _ _ ⟨_,_,rfl,cB.bE s2 p2,.inl ⟨_,rfl⟩⟩⟩
  clear c9 qe v9;rintro σ A9 ⟨v9,z9,rfl,c9,qe⟩;refine fm (fun σ Hx=>σ=[some (.ref p),some (.ref a),some (.ref sa),some (.ref xa),some (.int (w0:Int)),some (.int (d:Int)),some (.ref L),some v9,some (.int (d3:Int)),z9,none,none]/\Hx=A9) ?_ ?_
  rotate_left
  .intro N hN;refine⟨_,rfl,rfl,_,rfl,ei (fun e=>?_) (fun e=>hN _ _ ⟨rfl,rfl⟩)⟩;refine⟨_,rfl,_,rfl,_,_,rfl,_,rfl,_,rfl,_,_,rfl,?_⟩;obtain⟨f,hf,ef⟩:∃f:Nat,f<xs.length/\(if (d3:Int)<(d:Int) then (d3:Int) else (d:Int))=(f:Int):=by
    split
    .exact⟨d3,Ki,rfl⟩
    .exact⟨d,IX,rfl⟩
   obtain⟨l,hl,el⟩:∃l:Nat,l<xs.length/\(if (d3:Int) > (d:Int) then (d3:Int) else (d:Int))=(l:Int):=by
    split
    .exact⟨d3,Ki,rfl⟩
    .exact⟨d,IX,rfl⟩
   refine⟨.int (f:Int),.int (l:Int),by rw[<-ef,<-el],?_⟩;have cl:∀ {Hn:Hp},az A9 Hn->Hn xa=some (.tup xs):=fun s=>s _ _ c9.kF;refine⟨_,rfl,_,rfl,rfl,_,rfl,ei (fun e=>⟨_,rfl,dt _ c9 xa _ (az.refl _) (let ⟨ys,e,l,f⟩:=c9.tu qd;⟨ys,e,by lia,f⟩)⟩) (fun e=>?_)⟩;refine⟨_,rfl,_,rfl,_,rfl,lr (c9.tu qd) fun t1 B1 s1 U1=>⟨_,rfl,_,rfl,xa,_,_,_,rfl,rfl,bD.of (cl s1),aJ (bZ hl),by show 1<=sizeLine;decide,fun t2 qU=>?_⟩⟩;refine ic (U1.same (ai qU)) (tI ((c9.th _ (d7 hl)).same s1) qU) (by lia) fun t3 B3 s3 U3=>?_;have qY:=(s1.trans (ai (o:=.tup [xs[l]]) qU)).trans s3;refine⟨_,rfl,_,rfl,_,_,rfl,rfl,_,rfl,_,rfl,_,rfl,?_⟩;show qc _ _ _ _ _;refine lr ((c9.tu qd).same qY) fun t4 B4 s4 U4=>?_;refine ic (U3.same s4) U4 (by lia) fun t5 B5 s5 U5=>?_;have EE:=qY.trans (s4.trans s5);refine⟨_,rfl,_,rfl,xa,_,_,_,rfl,rfl,bD.of (cl EE),aJ (bZ hf),by show 1<=sizeLine;decide,fun t6 Tq=>?_⟩;refine ic (U5.same (ai Tq)) (tI ((c9.th _ (d7 hf)).same EE) Tq) (by lia) fun t7 B7 s7 U7=>?_;have WS:=(EE.trans (ai (o:=.tup [xs[f]]) Tq)).trans s7;refine⟨_,rfl,_,rfl,_,_,rfl,rfl,_,rfl,?_⟩;unfold fU;show qc _ _ _ _ _;refine lr ((c9.tu qd).same WS) fun t8 B8 s8 U8=>?_;refine ic (U7.same s8) U8 (by lia) fun t9 B9 s9 U9=>?_;exact dt _ c9 t9 B9 (WS.trans (s8.trans s9)) (let ⟨ys,e,l,f⟩:=U9;⟨ys,e,by lia,f⟩)
  rintro σ Hx ⟨rfl,rfl⟩;refine⟨_,rfl,_,rfl,_,rfl,lr (c9.tu qd) fun t1 B1 s1 U1=>⟨_,rfl,by show 1<=sizeLine;decide,fun t2 qU=>ic (U1.same (ai qU)) (tI (qe.same s1) qU) (by lia) fun t3 B3 s3 U3=>⟨_,rfl,_,rfl,_,_,rfl,rfl,_,rfl,?_⟩⟩⟩;have qY:=(s1.trans (ai (o:=.tup [v9]) qU)).trans s3;unfold fU;show qc _ _ _ _ _;refine lr ((c9.tu qd).same qY) fun t4 B4 s4 U4=>?_;refine ic (U3.same s4) U4 (by lia) fun t5 B5 s5 U5=>?_;exact dt _ c9 t5 B5 (qY.trans (s4.trans s5)) (let ⟨ys,e,l,f⟩:=U5;⟨ys,e,by lia,f⟩)
end
end pi
namespace L2
open PySem PySem.Spec PyProof.Rows
theorem GA{X:Cx}{d:Nat}(hu:X.A.units+(d+1)<cLine):jm X (compareOp .Eq) (Nv X false d):=by
 intro ae s σ H x y v u Q I rx ry h;obtain⟨p,q,xs,ys,rfl,rfl,hp,hq,hl,he,k⟩:=h;obtain rfl:v=Value.ref p:=rx;obtain rfl:u=Value.ref q:=ry;obtain⟨us,r1,p1,_⟩:=I.list hp;obtain⟨vs,r2,p2,_⟩:=I.list hq;refine SeqAt.eq_listAt (e:=fun _=>true) p1.isList p2.isList (by simp only[bU];rw[<-r1.length,<-r2.length];exact hl) (by lia) (Ap I (by show X.A.units+1+d<cLine;lia) r1 r2 he) ⟨.bl _,H,I,rfl,?_⟩;rw[Dk];exact k
theorem AA{X:Cx}:jm X (compareOp .IsNot) (fun x y H Q=>∃c d:Bool,x=.bl c/\y=.bl d/\Q (.bl (c != d)) H):=by
 intro ae s σ H x y v u Q I rx ry h;obtain⟨c,d,rfl,rfl,q⟩:=h;cases rx;cases ry;exact isnot_bool ⟨.bl _,H,I,rfl,q⟩
end L2
namespace pi
open PySem L2 iZ
abbrev Qh:Stmt:=fk 76
theorem DY{X:Cx}{H:Hp}{x:V}(h:fh x=true)(e:qy x x=true):Nu X H 0 x x:=by
 intro ae s σ A u v I hu rx ry;have q:=sf (A:=A) (s:=s) rx ry h h;rw[e] at q;exact q
theorem DZ{X:Cx}{H:Hp}{j:Int}:∀i,i<[V.int j,.bl true].length->i<[V.int j,.bl true].length->Nu X H 0 ([V.int j,.bl true].getD i .bi) ([V.int j,.bl true].getD i .bi)
 |0,_,_=>F7
 |1,_,_=>DY rfl rfl
 |n+2,h,_=>absurd h (by show ¬ n+2<2;lia)
theorem zh{X:Cx}{CX:nV}{k:Nat}{x:Str}{ps:List Str}{sp:Sp}{E:St->XK}{e:Expr}{es:List Expr}{t:TA}{p pos:Pos}(C:bQ X.prog X.w X.K X.mg X.base CX k x ps sp)(hr:bv k X.A)(hx:kX CX X E)(ha:PA X (e::es) t)(hg:Gl X x:=by rfl)(nk:(x==("__debug__":Str))=false:=by decide)(he:starEach (e::es) X.env=(false,eval e X.env)::starEach es X.env:=by rfl)(mL:(backTo pos (starEach es X.env)).any (·.1)=false:=by rfl):
  PE X (.Call (.Name x p) (e::es) [] pos) (su sp [] E t):=by
 obtain⟨f,fd,a,b,c,d⟩:=C.ex;exact Cm d hr hg a b c .nil hx ha nk he mL
structure Rf(K:PySem.W.Frag)(mg:Str->Option Value)(c:Nat->Addr)(cB CN:Addr):Prop where
 OF:Er K mg "BeatError" cB
 OG:Wz K c CN 7
 sb:PySem.W.subIn K (.ref CN) (.ref cB)=some true
section
variable {P:Program} {w:World} {K:PySem.W.Frag} {mg:Str->Option Value} {base:Heap}
theorem GC:aA ["_law_box","_law_homes","_law_stand","_law_came","_law_way","_law_found","_law_e"] ["_law_box","_law_homes","_law_stand","_law_came","_law_way"] (ak Qh):=⟨rfl,rfl,rfl,by decide +kernel,rfl,by decide +kernel,by decide +kernel⟩
def Kx(K:PySem.W.Frag)(C CB:Addr):Sp:=fun vs H Q _=>∃ (L:Addr->Prop) (b ha sa xa:Addr) (ns homes:List Nat) (st:List (Option Nat)) (xs:List V) (way:Int),vs=[.ref b,.ref ha,.ref sa,.ref xa,.int way]/\eT C CB H L b ns/\H ha=some (.tup (NV homes))/\H sa=some (.tup (st.map oV))/\H xa=some (.tup xs)/\Sn ns homes st/\(∀x∈xs,∃o,tV K H x o)/\¬ HU ns homes st xs/\∀ (H':Hp),az H H'->Q (.bl true) H'
theorem OH{f C CB CN cB:Addr}{c:Nat->Addr}{fd:FuncData}(F:dH K "_law_refused" "_law_refused" Qh f fd)(B:Bl mg)(R:Rf K mg c cB CN)(KD:Fg P w K mg base 1 "_law_kinds" ["_law_e"] (Gm K c))(LH:bQ P w K mg base (d0 P w) 11 "lane_hand" ["box","homes","stand","came"] (u_ K C CB CN))(RE:bQ P w K mg base (d0 P w) 12 "reason" ["box","homes","stand","came","letter"] (Gr K C CB CN)):a7 P w K mg base a9 13 f fd ["_law_box","_law_homes","_law_stand","_law_came","_law_way"] (Kx K C CB):=by
 refine F.ok GC (fun vs H Q E h=>?_) (fun ce A outer s H vs Q E hr h=>?_)
 .obtain⟨L,b,ha,sa,xa,ns,homes,st,xs,way,rfl,_⟩:=h;rfl
 .obtain⟨L,b,ha,sa,xa,ns,homes,st,xs,way,rfl,BA,tW,ky,kF,SN,hW,nb,q⟩:=h;have h1:bv 1 _:=hr.mono (by decide);have Zy:bv 11 _:=hr.mono (by decide);refine'⟨_,ah (aL (i:=5) GC.nd rfl (Or.inl rfl) (bw af))
   (ah (Gj (i:=6) (tb:=fun E=>LK (kO (mR LW (br 4) (tC (.int 0)))) (Bm (su (u_ K C CB CN) [] E (aY (br 0) (aY (br 1) (aY (br 2) (aY (br 3) dJ)))))) (Bm (su (Gr K C CB CN) [] E (aY (br 0) (aY (br 1) (aY (br 2) (aY (br 3) (aY (mR (ER fun i j=>.int (i-j)) (br 4) (tC (.int 1))) dJ)))))))) (th:=fun p'=>EN (mR Ma (xb ((A.deeper (PyProof.Rows.envOfC "_law_refused" (ak Qh) s.heap.objs.size f ce)).mark (some (.ref p'))) (Gm K c) [] E0 (aY (br 6) dJ)) (r_ (aY (QK (Mr K) (aY (br 6) (aY (tC (.ty "ValueError")) dJ))) dJ))) (cI 5)) R.OF.ok rfl R.OF.at_ rfl rfl GC.nd rfl rfl
      (fun E Zz xe hx=>?tb)
      ?hh)
   (aj (aE (ft (GA (d:=0) hr.u) (pv 5) (bw (aa ap (aa dw af))) (aQ _))))),?_⟩
  case tb=>exact aj (a8 (aM eN (pv 4) ap (aQ _)) (aj (bL (zh LH Zy hx (aa (pv 0) (aa (pv 1) (aa (pv 2) (aa (pv 3) af))))))) (aj (bL (zh RE hr hx (aa (pv 0) (aa (pv 1) (aa (pv 2) (aa (pv 3) (aa (aP j9 (pv 4) ap) af)))))))))
  case hh=>exact fun Zz p'=>aj (aL (i:=5) GC.nd rfl (Or.inl rfl) (aP l8 (Fh KD ⟨h1.dp,h1.un⟩ mV (aa (pv 6) af)) (bw (aa (au dz (by rfl) B.pN di (aa (pv 6) (aa (eF (v:=.ty "ValueError") rfl B.RL NY rfl) af))) af))))
  refine⟨by show 0<=sizeLine;decide,fun l0 QU=>?_⟩;have s0:=ai (o:=.lst []) QU;have WT:=BA.same s0;have WU:=u9 hW s0;have a0:=s0 _ _ tW;have b0:=s0 _ _ ky;have c0:=s0 _ _ kF;generalize upd H l0 (.lst [])=H0 at *;refine⟨fun σ' C' a H'=>σ'=[some (.ref b),some (.ref ha),some (.ref sa),some (.ref xa),some (.int way),some (.ref l0),none]/\C'=.ref CN/\az H H',⟨?_,?_⟩⟩
  .refine⟨_,rfl,rfl,_,rfl,ei (fun e=>?_) (fun e=>?_)⟩
   .exact⟨_,rfl,_,rfl,_,rfl,_,rfl,L,b,ha,sa,xa,ns,homes,st,xs,rfl,WT,a0,b0,c0,SN,WU,nb,fun H' s'=>⟨rfl,rfl,s0.trans s'⟩⟩
   .exact⟨_,rfl,_,rfl,_,rfl,_,rfl,_,rfl,_,_,rfl,rfl,L,b,ha,sa,xa,ns,homes,st,xs,_,rfl,WT,a0,b0,c0,SN,WU,nb,fun H' s'=>⟨rfl,rfl,s0.trans s'⟩⟩
  .rintro σ' C' H4 ⟨rfl,rfl,s4⟩;refine⟨R.sb,⟨_,rfl⟩,fun px ZA=>?_⟩;have kd:=R.OG;have s5:=ai (o:=sq px (.ref CN)) ZA;refine⟨_,rfl,.inr ⟨px,_,rfl,ag⟩,px,CN,7,rfl,kd,ag,fun r H6 s6 JJ=>?_⟩;refine⟨_,rfl,_,_,_,.ref CN,true,rfl,⟨rfl,kd.kv⟩,.exc kd.ok (s6 _ _ ag),by show 1<=sizeLine;decide,fun l hl=>?_⟩;refine⟨r,l,_,_,rfl,rfl,(ai hl) _ _ JJ,ag,by show 2<=sizeLine;decide,fun l2 Mb=>⟨_,rfl,by show 2<=sizeLine;decide,fun l3 Qd=>?_⟩⟩;exact⟨l2,l3,_,_,rfl,rfl,bz.of ((ai Qd) _ _ ag),bz.of ag,rfl,DZ (j:=7),q _ (((((s4.trans s5).trans s6).trans (ai hl)).trans (ai Mb)).trans (ai Qd))⟩
end
abbrev xV:Stmt:=fk 77
theorem Ky{ns:List Nat}(B:Bx ns):2<=pr ns:=by
 have h1:=B.l1;have hs:=B.sd;have hp:=B.pos;cases ns with
 |nil=>exact absurd h1 (by decide)
 |cons n l=>
  have a:=(hs n cg).1;have b:=JT (ns:=l) fun x hx=>hp x (b_ _ hx);show 2<=n*pr l;exact bq (show 2<=n*1 by lia) (lB n b)
theorem _root_.L2.lf.kE{lp:Pos}{q:Str}{p Pt:Addr}{H H':Hp}(t:lf lp q Pt H)(s:bf p H H')(hp:bG H p):lf lp q Pt H':=by
 obtain⟨a,b,e,_⟩:=hp;rcases t with z|⟨c,z,y⟩
 .exact .inl (s _ _ z (by rintro rfl;rw[z] at e;cases e))
 .exact .inr ⟨c,s _ _ z (by rintro rfl;rw[z] at e;cases e),s _ _ y (by rintro rfl;rw[y] at e;cases e)⟩
theorem _root_.L2.lf.sm{lp:Pos}{q:Str}{Pt:Addr}{H H':Hp}(t:lf lp q Pt H)(s:az H H'):lf lp q Pt H':=by
 rcases t with z|⟨c,z,y⟩
 .exact .inl (s _ _ z)
 .exact .inr ⟨c,s _ _ z,s _ _ y⟩
theorem eT.bE{C CB b p:Addr}{H H':Hp}{L:Addr->Prop}{ns:List Nat}(h:eT C CB H L b ns)(s:bf p H H')(hp:bG H p)(nL:¬ L p):eT C CB H' L b ns:=by
 obtain⟨dx,pn,sr,hb,N,mv⟩:=h.ob;obtain⟨x,y,e,_⟩:=hp;refine⟨h.bx,dx,pn,sr,s _ _ hb (by rintro rfl;rw[hb] at e;cases e),N.keep (fun c o l z=>s _ _ z (by rintro rfl;exact nL l)) (fun o z=>s _ _ z ?_),s _ _ mv (by rintro rfl;rw[mv] at e;cases e)⟩;obtain⟨_,_,_,_,g,_⟩:=N.ob;rintro rfl;rw[g] at e;cases e
section
variable {P:Program} {w:World} {K:PySem.W.Frag} {mg:Str->Option Value} {base:Heap}
def AR(K:PySem.W.Frag)(H:Hp)(a:Addr)(xs:List V):Prop:=(∃o,H a=some (.qp o (.lst xs)))\/(∀H':Hp,bz K H' a xs)
theorem AR.seq{H:Hp}{a:Addr}{xs:List V}(h:AR K H a xs):bz K H a xs:=by
 rcases h with ⟨o,h⟩|h
 .exact .inl (.inr ⟨o,h⟩)
 .exact h H
theorem AR.mono{H H':Hp}{a:Addr}{xs:List V}(h:AR K H a xs)(e:∀o u,H a=some (.qp o u)->H' a=some (.qp o u)):AR K H' a xs:=by
 rcases h with ⟨o,h⟩|h
 .exact .inl ⟨o,e _ _ h⟩
 .exact .inr h
theorem AR.bE{H H':Hp}{a p:Addr}{xs:List V}(h:AR K H a xs)(s:bf p H H')(hp:bG H p):AR K H' a xs:=by
 obtain⟨x,y,e,_⟩:=hp;exact h.mono fun o u z=>s _ _ z (by rintro rfl;rw[z] at e;cases e)
structure Cs(K:PySem.W.Frag)(C CB Pt:Addr)(L:Addr->Prop)(a p bx sd:Addr)(xs:List V)(ns:List Nat)(H:Hp):Prop where
 WV:AR K H a xs
 gg:bG H p
 box:eT C CB H L bx ns
 nl:¬ L p
 hd:H sd=some (.tup (NV ns))
 tp:kD Pt H
theorem Cs.bE{C CB Pt a p bx sd:Addr}{L:Addr->Prop}{xs:List V}{ns:List Nat}{H H':Hp}(c:Cs K C CB Pt L a p bx sd xs ns H)(s:bf p H H')(hp:bG H' p):Cs K C CB Pt L a p bx sd xs ns H':=
 ⟨c.WV.bE s c.gg,hp,c.box.bE s c.gg c.nl,c.nl,s _ _ c.hd (c.gg.neT c.hd),c.tp.kE s c.gg⟩
theorem qf{K:PySem.W.Frag}:PySem.W.kitOne K (.type "bool") (.type "bool")=some true:=by kernel_rfl
structure Ct(K:PySem.W.Frag)(C CB Pt:Addr)(L:Addr->Prop)(a p bx sd ha sa ca:Addr)(xs:List V)(ns homes:List Nat)(st cm:List (Option Nat))(H:Hp):Prop where
 cs:Cs K C CB Pt L a p bx sd xs ns H
 hh:H ha=some (.tup (NV homes))
 hs:H sa=some (.tup (st.map oV))
 hc:H ca=some (.tup (cm.map oV))
theorem Ct.bE{C CB Pt:Addr}{L:Addr->Prop}{a p bx sd ha sa ca:Addr}{xs:List V}{ns homes:List Nat}{st cm:List (Option Nat)}{H H':Hp}(c:Ct K C CB Pt L a p bx sd ha sa ca xs ns homes st cm H)(s:bf p H H')(hp:bG H' p):Ct K C CB Pt L a p bx sd ha sa ca xs ns homes st cm H':=
 ⟨c.cs.bE s hp,s _ _ c.hh (c.cs.gg.neT c.hh),s _ _ c.hs (c.cs.gg.neT c.hs),s _ _ c.hc (c.cs.gg.neT c.hc)⟩
theorem Ct.same{C CB Pt:Addr}{L:Addr->Prop}{a p bx sd ha sa ca:Addr}{xs:List V}{ns homes:List Nat}{st cm:List (Option Nat)}{H H':Hp}(c:Ct K C CB Pt L a p bx sd ha sa ca xs ns homes st cm H)(s:az H H'):Ct K C CB Pt L a p bx sd ha sa ca xs ns homes st cm H':=c.bE (bf.of s) (c.cs.gg.same s)
theorem gJ:aA ["_law_script","_law_k","_law_pot_here","_law_sides_here","_law_box","_law_homes","_law_stand","_law_came","_law_turn","_law_thing","_law_due","_law_found","_law_way"] ["_law_script"] (ak xV):=⟨rfl,rfl,rfl,by decide +kernel,rfl,by decide +kernel,by decide +kernel⟩
def zi(K:PySem.W.Frag)(Pt:Addr):Sp:=fun vs H Q _=>∃ (a:Addr) (ns:List Int),vs=[.ref a]/\AR K H a (ns.map V.int)/\ns.length<=63/\kD Pt H/\∀H',Q (.bl true) H'
theorem Kz{f C CB Pt fB:Addr}{fd WW:FuncData}(F:dH K "law" "law" xV f fd)(B:Bl mg)(TB:HN K mg CB)(MB:Mk K CB fB)(bB:eO K WW ["self","sides"] [])(GB:a7 P w K mg base a9 11 fB WW ["self","sides"] (DC C CB Pt))(PT:bQ P w K mg base a9 1 "_law_pot" ["_law_script","_law_k"] (DK K))(DR:bQ P w K mg base a9 1 "_law_draw" ["_law_pot_here","_law_many_here"] u0)(SI:bQ P w K mg base a9 2 "_law_sides" ["_law_pot_here"] J4)(BT:bQ P w K mg base a9 5 "_law_berthed" ["_law_pot_here","_law_sides_here"] Kn)(SP:bQ P w K mg base a9 5 "_law_spoilt" ["_law_pot_here","_law_sides_here","_law_stand","_law_came"] Kw)(JU:bQ P w K mg base a9 5 "_law_judged" ["_law_sides_here","_law_homes","_law_stand","_law_came"] (Kr K))(IB:bQ P w K mg base a9 9 "is_berthed" ["box","homes","stand","came"] (Gq K C CB))(RF:bQ P w K mg base a9 13 "_law_refused" ["_law_box","_law_homes","_law_stand","_law_came","_law_way"] (Kx K C CB)):
  a7 P w K mg base a9 14 f fd ["_law_script"] (zi K Pt):=by
 refine F.ok gJ (fun vs H Q E h=>?_) (fun ce A outer s H vs Q E hr h=>?_)
 .obtain⟨a,ns,rfl,_⟩:=h;rfl
 .obtain⟨a,AS,rfl,hS,xr,tb,q⟩:=h;have h1:bv 1 _:=hr.mono (by decide);have h2:bv 2 _:=hr.mono (by decide);have h5:bv 5 _:=hr.mono (by decide);have h9:bv 9 _:=hr.mono (by decide);have ZB:bv 12 _:=hr.mono (by decide);have Tr:bv 13 _:=hr;refine⟨_,(ah (cr dG rfl (bh rfl B.range (aa (au (jn rfl) (by rfl) B.max rA (aa ap (aa (au (lW rfl) (by rfl) B.min vL (aa (au aD (by rfl) B.len cG (aa (pv 0) af)) (aa ap af))) af))) af)) (aB (i:=1) gJ.nd rfl (Or.inl rfl)) (ah (aL (i:=2) gJ.nd rfl (Or.inl rfl) (av PT h1 aG (aa (pv 0) (aa (pv 1) af)))) (ah (aL (i:=3) gJ.nd rfl (Or.inl rfl) (av SI h2 aG (aa (pv 2) af))) (ah (aL (i:=4) gJ.nd rfl (Or.inl rfl) (ye MB GB ZB rfl TB.RM bB .nil aG (aa (pv 3) af))) (ah (iO (av BT h5 aG (aa (pv 2) (aa (pv 3) af))) (gb (n:=3) rfl (ba (aB (i:=5) gJ.nd rfl (Or.inl rfl)) (ba (aB (i:=6) gJ.nd rfl (Or.inl rfl)) (ba (aB (i:=7) gJ.nd rfl (Or.inl rfl)) eG))))) (aj (cr dG rfl (bh rfl B.range (aa ap af)) (aB (i:=8) gJ.nd rfl (Or.inl rfl)) (ah (aL (i:=9) gJ.nd rfl (Or.inl rfl) (av SP h5 aG (aa (pv 2) (aa (pv 3) (aa (pv 6) (aa (pv 7) af)))))) (ah (aL (i:=10) gJ.nd rfl (Or.inl rfl) (av JU h5 aG (aa (pv 3) (aa (pv 5) (aa (pv 6) (aa (pv 9) af)))))) (ah (aL (i:=11) gJ.nd rfl (Or.inl rfl) (av IB h9 aG (aa (pv 4) (aa (pv 5) (aa (pv 6) (aa (pv 9) af)))))) (ah (a8 (PW.pt (oQ (cq (bW (au dz (by rfl) B.pN di (aa (pv 11) (aa (eF (v:=.ty "bool") rfl B.bool vH rfl) af))))) (j7 (aM oW (pv 11) (pv 10) (aQ _))))) (aj (aE dw)) aI) (ah (a8 (cq (bW (pv 10))) (aj (cr dG rfl (bh rfl B.range (aa (aP cj ap (cJ zz (by rfl) B.int vM (aa (ft qt (au aD (by rfl) B.len cG (aa (pv 6) af)) ap (aQ _)) af))) af)) (aB (i:=12) gJ.nd rfl (Or.inl rfl)) (aj (a8 (cq (bW (av RF Tr aG (aa (pv 4) (aa (pv 5) (aa (pv 6) (aa (pv 9) (aa (aP lV (pv 12) (aP cj ap (av DR h1 aG (aa (pv 2) (aa (au (jn rfl) (by rfl) B.max rA (aa ap (aa (au aD (by rfl) B.len cG (aa (pv 6) af)) af))) af))))) af)))))))) (aj (aE dw)) aI)))) aI) (aj (a8 (aM AA (av IB h9 aG (aa (pv 4) (aa (pv 5) (aa (pv 6) (aa (pv 7) af))))) dw (aQ _)) (aj (aE dw)) aI)))))))))))))) (aj (aE dw))),?_⟩;refine⟨_,rfl,a,_,rfl,.inl hS.seq,_,5,rfl,1,_,rfl,_,rfl,?_⟩;obtain⟨j,hj,j1⟩:∃j:Int,(if (if (5:Int)<(((AS.map V.int).length:Nat):Int) then (5:Int) else (((AS.map V.int).length:Nat):Int)) > 1 then (if (5:Int)<(((AS.map V.int).length:Nat):Int) then (5:Int) else (((AS.map V.int).length:Nat):Int)) else 1)=j/\1<=j/\j<=5:=⟨_,rfl,by split <;> split <;> lia⟩
  rw[hj];refine⟨by lia,by lia,cw (n:=j.toNat) (lo:=0) (fun k σ H2=>(∃x1 x2 x3 x4 x5 x6 x7 x8 x9 y1 y2 y3,σ=[some (.ref a),x1,x2,x3,x4,x5,x6,x7,x8,x9,y1,y2,y3])/\AR K H2 a (AS.map V.int)/\kD Pt H2) ⟨⟨_,_,_,_,_,_,_,_,_,_,_,_,rfl⟩,hS,tb⟩ ?_ (fun σ H2 _=>q H2)⟩;rintro k σ H2 hk ⟨⟨x1,x2,x3,x4,x5,x6,x7,x8,x9,y1,y2,y3,rfl⟩,S2,t2⟩;refine⟨_,rfl,_,rfl,a,AS,k,by rw[dv];rfl,S2.seq,by lia,fun p H3 s3 np p3=>?_⟩;refine⟨_,rfl,p,rfl,p3,fun sd ns H6 s6 p6 Ko BX=>?_⟩;have Nx:=BX.Nx;have WX:=Ky BX;have S6:=(S2.mono fun o u e=>s3 _ _ e).bE s6 p3;have t6:=(t2.sm s3).kE s6 p3;refine⟨_,rfl,fun bx dx nx Sb Sc=>?_⟩;have sN:az H6 (upd (upd H6 dx (.own bx)) bx (.ins CB dx [])):=(ai (o:=.own bx) Sb).trans (ai (D:=bx) (o:=.ins CB dx []) (by rw[al Sc.symm];exact nx));have ZC:(upd (upd H6 dx (.own bx)) bx (.ins CB dx [])) bx=some (.ins CB dx []):=ag;generalize upd (upd H6 dx (.own bx)) bx (.ins CB dx [])=HM at *;refine⟨bx,dx,sd,ns,rfl,ZC,sN _ _ Ko,BX,t6.sm sN,fun H8 BA t8 s8=>⟨rfl,?_⟩⟩;have tN:kD Pt HM:=t6.sm sN;have kp:∀ {c o},H6 c=some o->(∀ps,o≠.oM ps)->H8 c=some o:=fun {c o} e nt=>s8 _ _ (sN _ _ e) (aq e nx) (tN.not (sN _ _ e) nt);have cs:Cs K C CB Pt (fun a=>HM a=none) a p bx sd (AS.map V.int) ns H8:=by
   refine⟨S6.mono fun o u e=>kp e (by intro ps z;cases z),?_,BA,fun z=>?_,kp Ko (by intro ps z;cases z),t8⟩
   .obtain⟨u,v,e,r⟩:=p6;exact⟨u,v,kp e (by intro ps z;cases z),r⟩
   .exact(p6.same sN).full z
  clear kp;refine⟨_,rfl,_,rfl,p,sd,ns,rfl,cs.gg,cs.hd,BX,WX,fun t ha sa ca homes st cm H9 s9 p9 ht tW ky N4 SN cl ZD=>⟨t,_,rfl,bD.of ht,rfl,_,_,rfl,_,_,rfl,_,_,rfl,rfl,?_⟩⟩;have ct:Ct K C CB Pt (fun a=>HM a=none) a p bx sd ha sa ca (AS.map V.int) ns homes st cm H9:=⟨cs.bE s9 p9,tW,ky,N4⟩
  have qd:=SN.qd;clear cs S6 t6 p6 p3 Ko s9 p9 ht tW ky N4;have ZE:∀Hn:Hp,∀x∈cm.map oV,∃o,tV K Hn x o:=fun Hn x hx=>by
   obtain⟨o,_,rfl⟩:=a_.mp hx;exact(Oq (p:=p) (H:=Hn)).wh
  refine⟨4,rfl,by lia,by lia,cw (n:=4) (lo:=0) (fun _ σ H9=>∃x8 x9 y1 y2 y3,σ=[some (.ref a),some (.int (k:Int)),some (.ref p),some (.ref sd),some (.ref bx),some (.ref ha),some (.ref sa),some (.ref ca),x8,x9,y1,y2,y3]/\Ct K C CB Pt (fun a=>HM a=none) a p bx sd ha sa ca (AS.map V.int) ns homes st cm H9) ⟨_,_,_,_,_,by rw[dv];rfl,ct⟩ ?_ ?_⟩
  rotate_left
  .rintro σ H9 ⟨x8,x9,y1,y2,y3,rfl,c9⟩;exact⟨⟨_,_,_,_,_,_,_,_,_,_,_,_,rfl⟩,c9.cs.WV,c9.cs.tp⟩
  clear ct;rintro i σ H0 hi ⟨x8,x9,y1,y2,y3,rfl,c0⟩;refine⟨_,rfl,_,rfl,_,rfl,_,rfl,p,sd,sa,ca,ns,st,cm.map oV,rfl,⟨c0.cs.gg,bf.refl,c0.cs.hd,c0.hs,c0.hc,fun x hx=>(by obtain⟨o,_,rfl⟩:=a_.mp hx;exact Oq)⟩,BX,WX,by rw[bp];exact cl,by rw[bp,cl];exact qd,fun t H1 s1 p1 T=>?_⟩;have c1:=c0.bE s1 p1;obtain⟨ys,NH,yl,Tt⟩:=T;refine⟨_,rfl,_,rfl,_,rfl,_,rfl,sd,ha,sa,t,ns,homes,st,ys,rfl,c1.cs.hd,BX,c1.hh,c1.hs,NH,SN,fun y hy=>(Tt y hy).wh,fun H2 b1 s2 JA=>?_⟩;have c2:=c1.same s2;have qU:=s2 _ _ NH;have Tv:∀y∈ys,jd p H2 y:=fun y hy=>(Tt y hy).same s2;clear c0 c1 s1 p1;refine⟨_,rfl,_,rfl,_,rfl,_,rfl,_,bx,ha,sa,t,ns,homes,st,ys,rfl,c2.cs.box,c2.hh,c2.hs,qU,SN,fun y hy=>(Tv y hy).wh,fun H3 b2 s3 P6=>?_⟩;obtain rfl:b2=b1:=by rw[gK,JA,P6]
  have c3:=c2.same s3;have EG:=s3 _ _ qU;have OI:∀y∈ys,jd p H3 y:=fun y hy=>(Tv y hy).same s3;clear c2 NH qU Tt Tv JA;refine fm (fun σ H9=>σ=[some (.ref a),some (.int (k:Int)),some (.ref p),some (.ref sd),some (.ref bx),some (.ref ha),some (.ref sa),some (.ref ca),some (.int (i:Int)),some (.ref t),some (.bl b2),some (.bl b2),y3]/\Ct K C CB Pt (fun a=>HM a=none) a p bx sd ha sa ca (AS.map V.int) ns homes st cm H9/\H9 t=some (.tup ys)/\∀y∈ys,jd p H9 y) ?_ (fun N hN=>hN _ _ ⟨by rw[dv];rfl,c3,EG,OI⟩);clear c3 EG OI;rintro σ H3 ⟨rfl,c3,EG,OI⟩;refine fm (fun σ H9=>σ=[some (.ref a),some (.int (k:Int)),some (.ref p),some (.ref sd),some (.ref bx),some (.ref ha),some (.ref sa),some (.ref ca),some (.int (i:Int)),some (.ref t),some (.bl b2),some (.bl b2),y3]/\H9=H3) ?_ ?_
  rotate_left
  .intro N hN;exact⟨_,rfl,_,_,_,.type "bool",true,rfl,⟨rfl,qf⟩,.of (.bl _),_,rfl,eh rfl ⟨_,rfl,_,rfl,rfl,_,rfl,eh (by rw[bH rfl];rfl) (hN _ _ ⟨rfl,rfl⟩)⟩⟩
  rintro σ Hx ⟨rfl,rfl⟩;refine fm (fun σ H9=>(∃z,σ=[some (.ref a),some (.int (k:Int)),some (.ref p),some (.ref sd),some (.ref bx),some (.ref ha),some (.ref sa),some (.ref ca),some (.int (i:Int)),some (.ref t),some (.bl b2),some (.bl b2),z])/\Ct K C CB Pt (fun a=>HM a=none) a p bx sd ha sa ca (AS.map V.int) ns homes st cm H9) ?_ ?_
  rotate_left
  .intro N hN;refine⟨_,rfl,_,rfl,?_⟩;cases b2 with
   |true=>exact eh rfl (hN _ _ ⟨⟨_,rfl⟩,c3⟩)
   |false=>
   have nb:¬ HU ns homes st ys:=fun z=>bJ (P6.mpr z);refine fN rfl ?_;refine⟨_,rfl,sa,_,rfl,.inr (bD.of c3.hs),_,_,rfl,rfl,.inr ⟨_,rfl,_,_,rfl,rfl,_,rfl,?_⟩⟩;obtain⟨m,hm,m1⟩:∃m:Int,(1:Int)+(if decide ((0:Int)<(((st.map oV).length:Nat):Int))=true then 1 else 0)=m/\1<=m/\m<=2:=⟨_,rfl,by split <;> lia⟩
   rw[hm];refine⟨by lia,by lia,?_⟩;obtain⟨md,ZF,ZG,md1⟩:∃md:Nat,(if (((st.map oV).length:Nat):Int) > 1 then (((st.map oV).length:Nat):Int) else 1)=(md:Int)/\0<md/\md<=16:=by
    rw[bp];split
    .exact⟨st.length,rfl,by lia,qd⟩
    .exact⟨1,rfl,by decide,by decide⟩
   refine cw (n:=m.toNat) (lo:=0) (fun _ σ H9=>(∃z,σ=[some (.ref a),some (.int (k:Int)),some (.ref p),some (.ref sd),some (.ref bx),some (.ref ha),some (.ref sa),some (.ref ca),some (.int (i:Int)),some (.ref t),some (.bl false),some (.bl false),z])/\Ct K C CB Pt (fun a=>HM a=none) a p bx sd ha sa ca (AS.map V.int) ns homes st cm H9/\H9 t=some (.tup ys)/\∀y∈ys,jd p H9 y) ⟨⟨_,rfl⟩,c3,EG,OI⟩ ?_ (fun σ H9 z=>hN _ _ ⟨z.1,z.2.1⟩);rintro n σ H4 hn ⟨⟨z,rfl⟩,c4,EF,ZH⟩;rw[dv];refine⟨_,rfl,_,rfl,_,rfl,_,rfl,_,rfl,_,rfl,_,rfl,sa,_,rfl,.inr (bD.of c4.hs),1,_,rfl,p,md,by rw[<-ZF];rfl,ZG,by lia,c4.cs.gg,fun d H5 hd s5 p5=>?_⟩;have c5:=c4.bE s5 p5;have WY:=s5 _ _ EF (c4.cs.gg.neT EF);have WZ:∀y∈ys,jd p H5 y:=fun y hy=>(ZH y hy).bE s5;refine⟨_,_,rfl,rfl,_,_,rfl,rfl,.inl ⟨by lia,by lia⟩,?_⟩;exact⟨_,bx,ha,sa,t,ns,homes,st,ys,_,rfl,c5.cs.box,c5.hh,c5.hs,WY,SN,(fun y hy=>(WZ y hy).wh),nb,fun H6 s6=>⟨_,rfl,eh rfl ⟨⟨_,rfl⟩,c5.same s6,s6 _ _ WY,fun y hy=>(WZ y hy).same s6⟩⟩⟩
  clear c3 EG OI;rintro σ H3 ⟨⟨z,rfl⟩,c3⟩;refine⟨_,rfl,_,rfl,_,rfl,_,rfl,_,bx,ha,sa,ca,ns,homes,st,cm.map oV,rfl,c3.cs.box,c3.hh,c3.hs,c3.hc,SN,ZE _,fun H4 bb s4 hb=>?_⟩;obtain rfl:bb=true:=hb.mpr ZD;exact⟨true,true,rfl,rfl,_,rfl,eh rfl ⟨_,_,_,_,_,rfl,c3.same s4⟩⟩
end
def FD(K:PySem.W.Frag)(n:Str)(st:Stmt):Prop:=∃ (f:Addr) (oc:Value) (od an:Option Addr) (sl:Array (Option Value)) (kV dc pm cd ct:Value),PySem.W.nsIn K mainGlobals n=some (some (.ref f))/\K.lookup f=some ⟨oc,od,.func (PySem.W.fnOf n n (cD st) (bt st) (ak st) .none kV dc pm an cd ct),sl⟩/\PySem.W.codeIn K cd n=true/\PySem.W.keepIn K (.ref f)=true
def FC(K:PySem.W.Frag)(n:Str)(st:Stmt)(c:Addr):Prop:=∃ (f:Addr) (oc:Value) (od an:Option Addr) (sl:Array (Option Value)) (kV dc pm ct:Value),PySem.W.nsIn K mainGlobals n=some (some (.ref f))/\K.lookup f=some ⟨oc,od,.func (PySem.W.fnOf n n (cD st) (bt st) (ak st) .none kV dc pm an (.ref c) ct),sl⟩/\PySem.W.codeIn K (.ref c) n=true/\PySem.W.keepIn K (.ref f)=true
def MD(K:PySem.W.Frag)(C:Addr)(n q:Str)(st:Stmt):Prop:=∃ (f:Addr) (oc:Value) (od an:Option Addr) (sl:Array (Option Value)) (kV dc pm cd ct:Value),PySem.W.findIn K (.ref C) n=some (some (.ref f))/\PySem.W.isFn K (.ref f)=true/\K.lookup f=some ⟨oc,od,.func (PySem.W.fnOf n q (cD st) (bt st) (ak st) .none kV dc pm an cd ct),sl⟩/\PySem.W.codeIn K cd q=true/\PySem.W.keepIn K (.ref f)=true
def MC(K:PySem.W.Frag)(C:Addr)(n q:Str)(st:Stmt)(c:Addr):Prop:=∃ (f:Addr) (oc:Value) (od an:Option Addr) (sl:Array (Option Value)) (kV dc pm ct:Value),PySem.W.findIn K (.ref C) n=some (some (.ref f))/\PySem.W.isFn K (.ref f)=true/\K.lookup f=some ⟨oc,od,.func (PySem.W.fnOf n q (cD st) (bt st) (ak st) .none kV dc pm an (.ref c) ct),sl⟩/\PySem.W.codeIn K (.ref c) q=true/\PySem.W.keepIn K (.ref f)=true
section
variable {P:Program} {w:World} {K:PySem.W.Frag} {mg:Str->Option Value} {base h:Heap} {n q:Str} {st:Stmt} {f c C:Addr} {oc kV dc pm cd ct:Value} {od an:Option Addr} {sl:Array (Option Value)} {CX:nV} {k:Nat} {ps:List Str} {sp:Sp}
theorem FD.mk(a:PySem.W.nsIn K mainGlobals n=some (some (.ref f)))(l:K.lookup f=some ⟨oc,od,.func (PySem.W.fnOf n n (cD st) (bt st) (ak st) .none kV dc pm an cd ct),sl⟩)(d:PySem.W.codeIn K cd n=true)(k:PySem.W.keepIn K (.ref f)=true):FD K n st:=⟨f,oc,od,an,sl,kV,dc,pm,cd,ct,a,l,d,k⟩
theorem FC.mk(a:PySem.W.nsIn K mainGlobals n=some (some (.ref f)))(l:K.lookup f=some ⟨oc,od,.func (PySem.W.fnOf n n (cD st) (bt st) (ak st) .none kV dc pm an (.ref c) ct),sl⟩)(d:PySem.W.codeIn K (.ref c) n=true)(k:PySem.W.keepIn K (.ref f)=true):FC K n st c:=⟨f,oc,od,an,sl,kV,dc,pm,ct,a,l,d,k⟩
theorem MD.mk(a:PySem.W.findIn K (.ref C) n=some (some (.ref f)))(i:PySem.W.isFn K (.ref f)=true)(l:K.lookup f=some ⟨oc,od,.func (PySem.W.fnOf n q (cD st) (bt st) (ak st) .none kV dc pm an cd ct),sl⟩)(d:PySem.W.codeIn K cd q=true)(k:PySem.W.keepIn K (.ref f)=true):MD K C n q st:=⟨f,oc,od,an,sl,kV,dc,pm,cd,ct,a,i,l,d,k⟩
theorem MC.mk(a:PySem.W.findIn K (.ref C) n=some (some (.ref f)))(i:PySem.W.isFn K (.ref f)=true)(l:K.lookup f=some ⟨oc,od,.func (PySem.W.fnOf n q (cD st) (bt st) (ak st) .none kV dc pm an (.ref c) ct),sl⟩)(d:PySem.W.codeIn K (.ref c) q=true)(k:PySem.W.keepIn K (.ref f)=true):MC K C n q st c:=⟨f,oc,od,an,sl,kV,dc,pm,ct,a,i,l,d,k⟩
def BD(n q:Str)(st:Stmt)(ps:List Str):Prop:=∀ (kV jo pm:Value) (an:Option Addr) (ce ct:Value) (us:List Value),us.length=ps.length->bindArgs (PySem.W.fnOf n q (cD st) (bt st) (ak st) .none kV jo pm an ce ct) ⟨us,[]⟩=pure (ps.zip us)
theorem FD.fD(X:K.In h)(G:h.Ns mainGlobals mg)(D:FD K n st)(b:BD n n st ps)(o:∀ {f fd},dH K n n st f fd->a7 P w K mg base CX k f fd ps sp):bQ P w K mg base CX k n ps sp:=by
 obtain⟨f,_,_,_,_,_,_,_,_,_,a,l,d,kp⟩:=D;have F:=l9 (x:=n) (qual:=n) (st:=st) l d kp;exact⟨⟨f,_,cp X G a,kp,F.binds b,o F⟩⟩
theorem FD.Tw(X:K.In h)(G:h.Ns mainGlobals mg)(D:FD K n st)(b:BD n n st ps)(o:∀ {f fd},dH K n n st f fd->qD P w K mg base (d0 P w) k f fd ps sp):Fg P w K mg base k n ps sp:=
 let ⟨f,_,_,_,_,_,_,_,_,_,a,l,d,kp⟩:=D
 have F:=l9 (x:=n) (qual:=n) (st:=st) l d kp
 ⟨⟨f,_,cp X G a,kp,F.binds b,o F⟩⟩
theorem FC.fD(X:K.In h)(G:h.Ns mainGlobals mg)(D:FC K n st c)(b:BD n n st ps)(o:∀ {f fd},xt K n n st f fd c->a7 P w K mg base CX k f fd ps sp):bQ P w K mg base CX k n ps sp:=by
 obtain⟨f,_,_,_,_,_,_,_,_,a,l,d,kp⟩:=D;have F:=Fs (x:=n) (qual:=n) (st:=st) l d kp;exact⟨⟨f,_,cp X G a,kp,F.fun.binds b,o F⟩⟩
theorem MD.fD(D:MD K C n q st)(b:BD n q st ps)(o:∀ {f fd},dH K n q st f fd->a7 P w K mg base CX k f fd ps sp):im P w K mg base CX k C n ps sp:=by
 obtain⟨f,_,_,_,_,_,_,_,_,_,a,i,l,d,kp⟩:=D;have F:=l9 (x:=n) (qual:=q) (st:=st) l d kp;exact⟨⟨f,_,⟨a,i,kp⟩,F.binds b,o F⟩⟩
end
theorem je{α:Type}{P:List α->Prop}(h:∀a0,P [a0])(l:List α)(e:l.length=1):P l:=by
 cases l with
 |nil=>cases e
 |cons a t=>cases t with
  |nil=>exact h a
  |cons b t=>cases e
theorem dZ{α:Type}{P:List α->Prop}(h:∀a0 a1,P [a0,a1])(l:List α)(e:l.length=2):P l:=by
 cases l with
 |nil=>cases e
 |cons a t=>exact je (P:=fun t=>P (a::t)) (h a) t (rN e)
theorem jf{α:Type}{P:List α->Prop}(h:∀a0 a1 a2,P [a0,a1,a2])(l:List α)(e:l.length=3):P l:=by
 cases l with
 |nil=>cases e
 |cons a t=>exact dZ (P:=fun t=>P (a::t)) (h a) t (rN e)
theorem ls{α:Type}{P:List α->Prop}(h:∀a0 a1 a2 a3,P [a0,a1,a2,a3])(l:List α)(e:l.length=4):P l:=by
 cases l with
 |nil=>cases e
 |cons a t=>exact jf (P:=fun t=>P (a::t)) (h a) t (rN e)
theorem D1{α:Type}{P:List α->Prop}(h:∀a0 a1 a2 a3 a4,P [a0,a1,a2,a3,a4])(l:List α)(e:l.length=5):P l:=by
 cases l with
 |nil=>cases e
 |cons a t=>exact ls (P:=fun t=>P (a::t)) (h a) t (rN e)
theorem KA{l:PySem.W.OpenLaw}{w:World}{K:PySem.W.Frag}{h:Heap}{mg:Str->Option Value}{fa:Addr}(X:K.In h)(G:h.Ns mainGlobals mg)(ZI:mg "law"=some (.ref fa)){C cO Pt f8 tJ fE lu pG dI mx my cL jg pH mz tK ck:Addr}{nF qg nG tO nI pI:Tok}(aC:PySem.W.nsIn K mainGlobals "Net"=some (some (.ref C)))(vb:PySem.W.nsIn K mainGlobals "BeatError"=some (some (.ref f8)))(GD:PySem.W.nsIn K mainGlobals "NoNet"=some (some (.ref tJ)))(q_:PySem.W.nsIn K mainGlobals "NoShape"=some (some (.ref fE)))(zj:PySem.W.nsIn K mainGlobals "NoTie"=some (some (.ref lu)))(D4:PySem.W.nsIn K mainGlobals "NoText"=some (some (.ref pG)))(ra:PySem.W.nsIn K mainGlobals "NoHouse"=some (some (.ref dI)))(AB:PySem.W.nsIn K mainGlobals "NoRanks"=some (some (.ref mx)))(AC:PySem.W.nsIn K mainGlobals "NoStand"=some (some (.ref my)))(rb:PySem.W.nsIn K mainGlobals "NoBerth"=some (some (.ref cL)))(vc:PySem.W.nsIn K mainGlobals "NoHanding"=some (some (.ref jg)))(D5:PySem.W.nsIn K mainGlobals "NoPlan"=some (some (.ref pH)))(AE:PySem.W.nsIn K mainGlobals "TooMany"=some (some (.ref mz)))(GE:PySem.W.nsIn K mainGlobals "NoRow"=some (some (.ref tK)))(OJ:PySem.W.nsIn K mainGlobals "Box"=some (some (.ref ck)))(GF:FD K "is_whole" xF)(D6:FD K "is_whole_within" sR)(GG:FD K "is_house" xG)(OK:FD K "is_row" Jo)(OL:FD K "are_unlike_houses" Jv)(OM:FD K "is_tie" Jt)(GJ:FD K "check_ties" xI)(ON:FD K "check_balance" Ju)(KB:FC K "houses_out" uW cO)(KC:FD K "distances_from" Dh)(GK:FD K "check_reached" xJ)(KE:FD K "product" Dn)(D7:FD K "pairs_net" sY)(D8:FD K "check_sides" sZ)(D9:FD K "box_pairs" s_)(KG:FD K "box_net" Dm)(Tx:FD K "are_tied" Sk)(OO:FD K "_law_pot" J1)(Tz:FD K "_law_draw" Sq)(TC:FD K "_law_sides" Ss)(TF:FD K "_law_many" Su)(TH:FD K "_law_place" Sv)(TJ:FD K "_law_step" Sw)(TK:FD K "_law_ties" Sy)(TN:FD K "_law_phase" Sz)(TQ:FD K "came_by_at" SG)(TR:FD K "is_berth" SF)(TU:FD K "is_berthed" SE)(TV:FD K "check_berthed" SH)(TW:FD K "lane_hand" SJ)(TX:FD K "reason" SK)(TY:FD K "_law_lane_ties" SX)(TZ:FD K "_law_houses" SY)(T5:FD K "_law_berthed" S4)(T7:FD K "_law_kinds" SB)(T8:FD K "_law_out" SZ)(T9:FD K "_law_spoilt" Op)(T_:FD K "_law_is_lane" Td)(Ua:FD K "_law_judged" Tf)(Ub:FD K "_law_refused" Qh)(OP:FD K "law" xV)(KH:MD K C "__init__" "Net.__init__" yT)(GN:MD K C "check_house" "Net.check_house" xH)(OQ:MD K C "out" "Net.out" Jr)(KI:MD K C "many" "Net.many" Da)(pg:PySem.W.plainGet K C Str.empty=true)(Uc:PySem.W.hasDictIn K C=true)(po:PySem.W.plainOver K C=true)(sa:PySem.W.findIn K (.ref C) "__setattr__"=some (some (.builtin "object.__setattr__")))(mk:PySem.W.makesIn K C=true)(kc:PySem.W.keepIn K (.ref C)=true)(nH:PySem.W.findIn K (.ref C) "house_count"=some none)(nT:PySem.W.findIn K (.ref C) "tie_list"=some none)(nO:PySem.W.findIn K (.ref C) "out_lists"=some none)(nD:PySem.W.findIn K (.ref C) "distances"=some none)(tP:PySem.W.nsIn K mainGlobals "isinstance"=some none)(OR:PySem.W.nsIn K mainGlobals "int"=some none)(KJ:PySem.W.nsIn K mainGlobals "bool"=some none)(GQ:PySem.W.nsIn K mainGlobals "tuple"=some none)(KL:PySem.W.nsIn K mainGlobals "list"=some none)(OS:PySem.W.nsIn K mainGlobals "str"=some none)(OT:PySem.W.nsIn K mainGlobals "set"=some none)(OV:PySem.W.nsIn K mainGlobals "len"=some none)(GR:PySem.W.nsIn K mainGlobals "range"=some none)(D_:PySem.W.nsIn K mainGlobals "sorted"=some none)(OW:PySem.W.nsIn K mainGlobals "any"=some none)(OX:PySem.W.nsIn K mainGlobals "max"=some none)(OY:PySem.W.nsIn K mainGlobals "min"=some none)(tQ:PySem.W.nsIn K mainGlobals "ValueError"=some none)(OZ:PySem.W.nsIn K mainGlobals "all"=some none)(O0:PySem.W.nsIn K mainGlobals "abs"=some none)(Ea:PySem.W.nsIn K mainGlobals "divmod"=some none)(KM:PySem.W.nsIn K mainGlobals "dict"=some none)(O1:PySem.W.nsIn K mainGlobals "zip"=some none)(KN:PySem.W.nsIn K mainGlobals "repr"=some none)(vd:PySem.W.nsIn K mainGlobals "enumerate"=some none)(nJ:PySem.W.nsIn K mainGlobals "FEWEST_HOUSES"=some (some (.int 2 nF)))(jN:PySem.W.nsIn K mainGlobals "MOST_HOUSES"=some (some (.int 32 qg)))(nK:PySem.W.nsIn K mainGlobals "MOST_TIES_OUT"=some (some (.int 8 nG)))(tR:PySem.W.nsIn K mainGlobals "MOST_SIDES"=some (some (.int 5 tO)))(nM:PySem.W.nsIn K mainGlobals "SHORTEST_SIDE"=some (some (.int 2 nI)))(pJ:PySem.W.nsIn K mainGlobals "LONGEST_SIDE"=some (some (.int 8 pI)))(ve:iS K f8)(AF:iS K fE)(AG:iS K dI)(GS:iS K lu)(rd:iS K cL)(Ud:PySem.W.plainGet K ck Str.empty=true)(Ue:PySem.W.hasDictIn K ck=true)(Uf:PySem.W.plainOver K ck=true)(Ug:PySem.W.findIn K (.ref ck) "__setattr__"=some (some (.builtin "object.__setattr__")))(Uh:PySem.W.makesIn K ck=true)(Ui:PySem.W.keepIn K (.ref ck)=true)(Uj:PySem.W.findIn K (.ref ck) "tied_net"=some none)(Uk:PySem.W.findIn K (.ref ck) "side_row"=some none)(KO:MD K ck "__init__" "Box.__init__" Gc)(Ul:MD K ck "place" "Box.place" JP)(Um:MD K ck "tied" "Box.tied" SD)(Uo:MD K ck "way" "Box.way" JQ)(Up:MD K ck "phase" "Box.phase" JR)(kN:[tJ,fE,lu,pG,dI,mx,my,cL,jg,pH,mz,tK].map (fun y=>PySem.W.kitOne K (.ref cL) (.ref y))=[some false,some false,some false,some false,some false,some false,some false,some true,some false,some false,some false,some false])(vN:PySem.W.kitOne K (.ref cL) (.type "ValueError")=some true)(sN:PySem.W.subIn K (.ref cL) (.ref f8)=some true)(KP:PySem.W.codeHdIn K cO Pt=true):
  ∃fd:FuncData,(∀ (s:Shared) (v:Value),BindsTo s fd ⟨[v],[]⟩ [("_law_script",v)])/\∀base:Heap,K.In base->base.Ns mainGlobals mg->sF mg base->a7 l.prog w K mg base a9 14 fa fd ["_law_script"] (zi K Pt):=by
 obtain⟨W0,oc,od,an,sl,kV,dc,pm,cd,ct,O2,O4,O5,O6⟩:=OP;have e:=ZI.symm.trans (cp X G O2);cases e;have O7:=l9 (x:="law") (qual:="law") (st:=xV) O4 O5 O6;obtain⟨W1,oci,odi,ani,sli,kVi,dci,pmi,cdi,cti,ZJ,ZK,ZL,ZM,ZN⟩:=KH;have vf:=l9 (x:="__init__") (qual:="Net.__init__") (st:=yT) ZL ZM ZN;have Eb:=vf.binds (ps:=["self","many","ties"]) fun _ _ _ _ _ _=>jf fun _ _ _=>rfl;have MK:Mk K C W1:=⟨mk,ZJ,ZK,kc⟩
 have B:Bl mg:=⟨du X G tP,du X G OR,du X G KJ,du X G GQ,du X G KL,du X G OS,du X G OT,du X G OV,du X G GR,du X G D_,du X G OW,du X G OX,du X G OY,du X G tQ,du X G OZ⟩
 have T:NT K mg C:=⟨⟨pg,Uc,po,sa⟩,nH,nT,nO,nD,cp X G aC⟩
 have B2:Wu mg:=⟨du X G O0,du X G Ea,du X G KM,du X G O1,du X G KN⟩
 let c:Nat->Addr:=fun i=>[tJ,fE,lu,pG,dI,mx,my,cL,jg,pH,mz,tK].getD i 0
 have ZO:Wy mg c:=⟨cp X G GD,cp X G q_,cp X G zj,cp X G D4,cp X G ra,cp X G AB,cp X G AC,cp X G rb,cp X G vc,cp X G D5,cp X G AE,cp X G GE⟩
 simp only[gq,List.map_nil,List.cons.injEq,jZ] at kN;obtain⟨t0,t1,t2,t3,t4,t5,t6,t7,t8,t9,ZP,ZQ⟩:=kN;have R:Rf K mg c f8 cL:=⟨⟨cp X G vb,ve⟩,⟨rd,by decide,vN,t0,t1,t2,t3,t4,t5,t6,t7,t8,t9,ZP,ZQ⟩,sN⟩
 have TB:HN K mg ck:=⟨⟨Ud,Ue,Uf,Ug⟩,Uj,Uk,cp X G OJ⟩
 obtain⟨O8,oc9,od9,an9,sl9,kV9,dc9,pm9,cd9,ct9,Uq,Ur,Us,Ut,Uu⟩:=KO;have O9:=l9 (x:="__init__") (qual:="Box.__init__") (st:=Gc) Us Ut Uu;have Uv:=O9.binds (ps:=["self","sides"]) fun _ _ _ _ _ _=>dZ fun _ _=>rfl;have MB:Mk K ck O8:=⟨Uh,Uq,Ur,Ui⟩
 refine⟨PySem.W.fnOf "law" "law" (cD xV) (bt xV) (ak xV) .none kV dc pm an cd ct,fun s v=>.of_eq rfl,fun base kb nb hb=>?_⟩;have zk:bQ l.prog w K mg base a9 1 "is_whole" ["thing"] (n6 K):=FD.fD X G GF (fun _ _ _ _ _ _=>je fun _=>rfl) fun GU=>C6 GU B;have pK:bQ l.prog w K mg base a9 2 "is_whole_within" ["thing","least","most"] (i9 K):=FD.fD X G D6 (fun _ _ _ _ _ _=>jf fun _ _ _=>rfl) fun Ec=>Ak Ec zk;have tT:bQ l.prog w K mg base a9 3 "is_house" ["many","thing"] (lj K):=FD.fD X G GG (fun _ _ _ _ _ _=>dZ fun _ _=>rfl) fun GV=>C8 GV pK;have Ed:bQ l.prog w K mg base a9 1 "is_row" ["thing","length"] (uT K):=FD.fD X G OK (fun _ _ _ _ _ _=>dZ fun _ _=>rfl) fun O_=>Jp O_ B;have Pa:bQ l.prog w K mg base a9 4 "are_unlike_houses" ["many","one","other"] Dd:=FD.fD X G OL (fun _ _ _ _ _ _=>jf fun _ _ _=>rfl) fun Pb=>Jw Pb tT;have Pc:bQ l.prog w K mg base a9 5 "is_tie" ["many","thing"] De:=FD.fD X G OM (fun _ _ _ _ _ _=>dZ fun _ _=>rfl) fun Pd=>Jx Pd Ed Pa;have GW:bQ l.prog w K mg base a9 6 "check_ties" ["many","ties"] js:=FD.fD X G GJ (fun _ _ _ _ _ _=>dZ fun _ _=>rfl) fun GX=>Df GX B ⟨_,cp X G nJ⟩ ⟨_,cp X G jN⟩ pK Pc;have Pe:bQ l.prog w K mg base a9 1 "check_balance" ["many","ties"] js:=FD.fD X G ON (fun _ _ _ _ _ _=>dZ fun _ _=>rfl) fun Pf=>Jy Pf B ⟨_,cp X G nK⟩;have KQ:bQ l.prog w K mg base a9 1 "houses_out" ["many","ties","house"] (sV Pt):=FC.fD X G KB (fun _ _ _ _ _ _=>jf fun _ _ _=>rfl) fun KR=>F1 KR B kb hb KP;have KS:bQ l.prog w K mg base a9 1 "distances_from" ["out_lists","start"] sW:=FD.fD X G KC (fun _ _ _ _ _ _=>dZ fun _ _=>rfl) fun KT=>F2 KT B;have GZ:bQ l.prog w K mg base a9 1 "check_reached" ["distances"] sX:=FD.fD X G GK (fun _ _ _ _ _ _=>je fun _=>rfl) fun G0=>Dj G0 B;have KU:a7 l.prog w K mg base a9 7 W1 _ ["self","many","ties"] (xL C Pt):=F6 vf T B GW Pe KQ KS GZ;have zl:im l.prog w K mg base (d0 l.prog w) 4 C "check_house" ["self","thing"] (n9 K C dI):=MD.fD GN (fun _ _ _ _ _ _=>dZ fun _ _=>rfl) fun AH=>Db AH T ⟨cp X G ra,AG⟩ tT;have HX:im l.prog w K mg base (d0 l.prog w) 5 C "out" ["self","house"] (yV K C dI FV):=MD.fD OQ (fun _ _ _ _ _ _=>dZ fun _ _=>rfl) fun G4=>Js G4 T B zl;have KW:im l.prog w K mg base a9 1 C "many" ["self"] (xM C):=MD.fD KI (fun _ _ _ _ _ _=>je fun _=>rfl) fun Ee=>F8 Ee T;have xW:bQ l.prog w K mg base a9 1 "product" ["numbers"] (pq K):=FD.fD X G KE (fun _ _ _ _ _ _=>je fun _=>rfl) fun KY=>F9 KY;have Ef:bQ l.prog w K mg base a9 9 "pairs_net" ["many","pairs"] (pk C Pt):=FD.fD X G D7 (fun _ _ _ _ _ _=>dZ fun _ _=>rfl) fun Eg=>Aq Eg B T MK Eb KU Ed;have Eh:bQ l.prog w K mg base (d0 l.prog w) 3 "check_sides" ["sides"] (pA K fE):=FD.fD X G D8 (fun _ _ _ _ _ _=>je fun _=>rfl) fun Ei=>Ar Ei B ⟨cp X G q_,AF⟩ ⟨_,cp X G tR⟩ ⟨_,cp X G nM⟩ ⟨_,cp X G pJ⟩ ⟨_,cp X G jN⟩ pK xW;have Ej:bQ l.prog w K mg base a9 2 "box_pairs" ["sides"] pB:=FD.fD X G D9 (fun _ _ _ _ _ _=>je fun _=>rfl) fun Ek=>As Ek B xW;have KZ:bQ l.prog w K mg base (d0 l.prog w) 10 "box_net" ["sides"] (xO K C Pt fE):=FD.fD X G KG (fun _ _ _ _ _ _=>je fun _=>rfl) fun K0=>F_ K0 Eh Ef xW Ej;have Uw:bQ l.prog w K mg base a9 6 "are_tied" ["net","one","other"] (JY K C):=FD.fD X G Tx (fun _ _ _ _ _ _=>jf fun _ _ _=>rfl) fun Ux=>NG Ux T tT KW HX;have Uy:a7 l.prog w K mg base a9 11 O8 _ ["self","sides"] (DC C ck Pt):=JS O9 B TB KZ;have Pg:im l.prog w K mg base (d0 l.prog w) 5 ck "place" ["self","house"] (DE K C ck dI):=MD.fD Ul (fun _ _ _ _ _ _=>dZ fun _ _=>rfl) fun F=>JV F B T TB zl;have Ph:im l.prog w K mg base a9 6 ck "tied" ["self","house"] (J_ C ck):=MD.fD Um (fun _ _ _ _ _ _=>dZ fun _ _=>rfl) fun F=>N2 F T TB HX;have HY:im l.prog w K mg base (d0 l.prog w) 6 ck "phase" ["self","house","home"] (y_ K C ck dI):=MD.fD Up (fun _ _ _ _ _ _=>jf fun _ _ _=>rfl) fun F=>JZ F B TB Pg;have Pi:im l.prog w K mg base (d0 l.prog w) 7 ck "way" ["self","one","other"] (DI K C ck lu):=MD.fD Uo (fun _ _ _ _ _ _=>jf fun _ _ _=>rfl) fun F=>J0 F TB ⟨cp X G zj,GS⟩ Uw HY;have Uz:bQ l.prog w K mg base a9 1 "came_by_at" ["stand","came","house"] Ka:=FD.fD X G TQ (fun _ _ _ _ _ _=>jf fun _ _ _=>rfl) fun UA=>N3 UA B;have UB:bQ l.prog w K mg base a9 8 "is_berth" ["box","homes","stand","came","letter"] (Kb K C ck):=FD.fD X G TR (fun _ _ _ _ _ _=>D1 fun _ _ _ _ _=>rfl) fun UC=>N6 UC TB zk Ph Pi HY Uz;have Pj:bQ l.prog w K mg base a9 9 "is_berthed" ["box","homes","stand","came"] (Gq K C ck):=FD.fD X G TU (fun _ _ _ _ _ _=>ls fun _ _ _ _=>rfl) fun UD=>N9 UD B Ed UB;have UE:bQ l.prog w K mg base (d0 l.prog w) 10 "check_berthed" ["box","homes","stand","came"] (u_ K C ck cL):=FD.fD X G TV (fun _ _ _ _ _ _=>ls fun _ _ _ _=>rfl) fun UF=>N_ UF ⟨cp X G rb,rd⟩ Pj;have Pk:bQ l.prog w K mg base (d0 l.prog w) 11 "lane_hand" ["box","homes","stand","came"] (u_ K C ck cL):=FD.fD X G TW (fun _ _ _ _ _ _=>ls fun _ _ _ _=>rfl) fun UG=>Oa UG UE;have UH:bQ l.prog w K mg base (d0 l.prog w) 12 "reason" ["box","homes","stand","came","letter"] (Gr K C ck cL):=FD.fD X G TX (fun _ _ _ _ _ _=>D1 fun _ _ _ _ _=>rfl) fun UI=>Oc UI Pk;have Pl:bQ l.prog w K mg base a9 1 "_law_pot" ["_law_script","_law_k"] (DK K):=FD.fD X G OO (fun _ _ _ _ _ _=>dZ fun _ _=>rfl) fun Pm=>J3 Pm B;have El:bQ l.prog w K mg base a9 1 "_law_draw" ["_law_pot_here","_law_many_here"] u0:=FD.fD X G Tz (fun _ _ _ _ _ _=>dZ fun _ _=>rfl) fun UJ=>NL UJ B2;have UK:bQ l.prog w K mg base a9 2 "_law_sides" ["_law_pot_here"] J4:=FD.fD X G TC (fun _ _ _ _ _ _=>je fun _=>rfl) fun UL=>NM UL B El;have K1:bQ l.prog w K mg base a9 1 "_law_many" ["_law_sides_here"] Av:=FD.fD X G TF (fun _ _ _ _ _ _=>je fun _=>rfl) fun UM=>NN UM;have Pn:bQ l.prog w K mg base a9 1 "_law_place" ["_law_sides_here","_law_house"] Aw:=FD.fD X G TH (fun _ _ _ _ _ _=>dZ fun _ _=>rfl) fun UN=>NO UN;have UO:bQ l.prog w K mg base a9 2 "_law_step" ["_law_sides_here","_law_house","_law_k","_law_by"] J5:=FD.fD X G TJ (fun _ _ _ _ _ _=>ls fun _ _ _ _=>rfl) fun UP=>NQ UP Pn K1;have K2:bQ l.prog w K mg base a9 3 "_law_ties" ["_law_sides_here","_law_house","_law_k"] DO:=FD.fD X G TK (fun _ _ _ _ _ _=>jf fun _ _ _=>rfl) fun UQ=>NR UQ UO;have Po:bQ l.prog w K mg base a9 2 "_law_phase" ["_law_sides_here","_law_house","_law_home"] Gi:=FD.fD X G TN (fun _ _ _ _ _ _=>jf fun _ _ _=>rfl) fun UR=>NU UR B Pn;have US:bQ l.prog w K mg base a9 4 "_law_lane_ties" ["_law_sides_here","_law_house","_law_home","_law_used"] Ke:=FD.fD X G TY (fun _ _ _ _ _ _=>ls fun _ _ _ _=>rfl) fun UT=>Oe UT B Po K2;have UU:bQ l.prog w K mg base a9 2 "_law_houses" ["_law_pot_here","_law_many_here"] Kh:=FD.fD X G TZ (fun _ _ _ _ _ _=>dZ fun _ _=>rfl) fun UV=>Og UV B El;have UW:bQ l.prog w K mg base a9 5 "_law_berthed" ["_law_pot_here","_law_sides_here"] Kn:=FD.fD X G T5 (fun _ _ _ _ _ _=>dZ fun _ _=>rfl) fun UX=>Oi UX B K1 El UU US;have UY:Fg l.prog w K mg base 1 "_law_kinds" ["_law_e"] (Gm K c):=FD.Tw X G T7 (fun _ _ _ _ _ _=>je fun _=>rfl) fun UZ=>NZ UZ B ZO;have U0:bQ l.prog w K mg base a9 4 "_law_out" ["_law_sides_here","_law_house"] Kj:=FD.fD X G T8 (fun _ _ _ _ _ _=>dZ fun _ _=>rfl) fun U2=>Oh U2 B K2;have U6:bQ l.prog w K mg base a9 5 "_law_spoilt" ["_law_pot_here","_law_sides_here","_law_stand","_law_came"] Kw:=FD.fD X G T9 (fun _ _ _ _ _ _=>ls fun _ _ _ _=>rfl) fun U_=>OB U_ B K1 El U0;have Va:bQ l.prog w K mg base a9 4 "_law_is_lane" ["_law_sides_here","_law_house","_law_home","_law_tie"] (Kp K):=FD.fD X G T_ (fun _ _ _ _ _ _=>ls fun _ _ _ _=>rfl) fun Vb=>On Vb B Po K2;have Vc:bQ l.prog w K mg base a9 5 "_law_judged" ["_law_sides_here","_law_homes","_law_stand","_law_came"] (Kr K):=FD.fD X G Ua (fun _ _ _ _ _ _=>ls fun _ _ _ _=>rfl) fun Vd=>Oo Vd B (du X G vd) Va;have Ve:bQ l.prog w K mg base a9 13 "_law_refused" ["_law_box","_law_homes","_law_stand","_law_came","_law_way"] (Kx K C ck):=FD.fD X G Ub (fun _ _ _ _ _ _=>D1 fun _ _ _ _ _=>rfl) fun Vf=>OH Vf B R UY Pk UH;exact Kz O7 B TB MB Uv Uy Pl El UK UW U6 Vc Pj Ve
theorem Pp(h:((List.range 2000).any fun c=>PySem.W.codeHdIn K c P)=true):∃c,PySem.W.codeHdIn K c P=true:=
 let ⟨c,_,e⟩:=wn.mp h;⟨c,e⟩
theorem K3(hO:yB ts H)(h:bz K H a xs):AR K H a xs:=by
 rcases h with h|h
 .rcases h with h|⟨o,h⟩
  .rcases hO.2 a with z|⟨_,z⟩|⟨o,ys,z⟩ <;> · rw[h] at z;cases z
  .exact .inl ⟨o,h⟩
 .exact .inr fun H'=>.inr h
theorem walk{l:PySem.W.OpenLaw}{q:Program}{qz:List Str}{XP:(Str->Option Value)->Heap->Prop}{YP:World->Heap->Prop}{d:DefRec}{K:Params->PySem.W.Frag}{Pt:Addr}(hn:l.most=some 63)(Mc:d.params.defaults=[])(hY:∀ (w:World) (h:Heap),YP w h->(K w.params).In h)(hT:∀ (w:World) (h:Heap),YP w h->∀P∈[Pt],h.get? P=some (PySem.W.tabObj #[]))(Vg:∀ (w:World),((List.range 2000).any fun c=>PySem.W.codeHdIn (K w.params) c Pt)=true)(Vh:∀ (w:World),(K w.params).lookup Pt=none)(F:∀ (w:World) (mg:Str->Option Value) (fa:Addr) (h:Heap),(K w.params).In h->h.Ns mainGlobals mg->mg d.name=some (.ref fa)->
   ∃fd:FuncData,(∀ (s:Shared) (u:Value),BindsTo s fd ⟨[u],[]⟩ [("_law_script",u)])/\∀base:Heap,(K w.params).In base->base.Ns mainGlobals mg->sF mg base->a7 l.prog w (K w.params) mg base a9 14 fa fd ["_law_script"] (zi (K w.params) Pt)):
  PySem.W.WalkO q qz XP YP l.row.toRowW d [] (fun f vs=>PySem.call f vs):=
 CH (n:=63) (k:=14) (x:="_law_script") (ts:=[Pt]) (K:=K) (CX:=fun _=>a9) (sp:=fun w=>(zi (K w.params) Pt)) hn (by decide) Mc ⟨rfl,by decide,by decide,rfl⟩ hY hT
  (fun w P=>fun e=>by rw[dD.mp e];exact Pp (Vg w)) (fun w P=>fun e=>by rw[dD.mp e];exact Vh w) F
  (fun w H a ns hl hO hS=>⟨a,ns,rfl,K3 hO hS,hl,.inl (hO.1 _ (by simp)),fun _=>rfl⟩) fun _ _ _ _ _ z=>z
end pi
open PySem PySem.W PyProof.Rows
namespace PySem.W.Fast
def tw4993724536231637551:=trivial
def tw17022230733510466494:=trivial
def tw3781963606286437002:=trivial
def tw4690386987045720804:=trivial
def tw9079472983897533627:=trivial
def tw7192350086550519417:=trivial
def tw2179749950573729048:=trivial
def tw1726559160249374923:=trivial
def tw9902539936307630259:=trivial
def tw3287144864758403570:=trivial
def tw1598332396205675468:=trivial
def tw8523924702966011899:=trivial
def tw6905229510158242414:=trivial
def tw5582504095533807875:=trivial
def tw8694485895077229044:=trivial
def tw15534169934524160234:=trivial
def tw2410112517250668272:=trivial
def tw10070559824033567502:=trivial
def tw15356138933086452290:=trivial
def tw2762544151959399125:=trivial
def tw4744492697564711580:=trivial
def tw1528394011151485147:=trivial
def tw10993544598177138780:=trivial
def tw7289512270953804347:=trivial
def tw6919931241090614801:=trivial
def tw13569426409028653201:=trivial
def tw2151267709179590696:=trivial
def tw1687808103517473398:=trivial
def tw3126524246434007947:=trivial
def tw17494401146218236184:=trivial
def tw5105786301977520714:=trivial
def tw11723079258406453947:=trivial
def tw2156537925455357740:=trivial
def tw125273216113716695:=trivial
def tw11151010527128428594:=trivial
def tw9809971127093492272:=trivial
def tw1725982980030400633:=trivial
def tw9403564548204641010:=trivial
def tw8196979973089243685:=trivial
def tw3265423710510319037:=trivial
def tw13811729853138774697:=trivial
def tw5093390218895315536:=trivial
def tw1140100187142524522:=trivial
def tw9604588076321313473:=trivial
def tw2609364864643952804:=trivial
def tw7924332008195656576:=trivial
def tw16210104015634350567:=trivial
def tw5981971033177147360:=trivial
def tw6720781488363095087:=trivial
def tw15050892192363096835:=trivial
def tw8094151480502789942:=trivial
def tw1013831337914040503:=trivial
def tw12973800297419668892:=trivial
def tw8585188547623728982:=trivial
def tw17738352527792347798:=trivial
def tw13220609321429413963:=trivial
def tw16338288673642587549:=trivial
def tw8176533463472448338:=trivial
def tw9602049541213808857:=trivial
def tw14374097520561324499:=trivial
def tw15116711636355667424:=trivial
def tw14915429905522373600:=trivial
def tw13239929063748480860:=trivial
def tw7960028328426420300:=trivial
def tw11089926126685179838:=trivial
def tw14654443527499953205:=trivial
def tw1721841687786210253:=trivial
def tw1007911088720943830:=trivial
def tw7864733844885222024:=trivial
def tw10244272842698191432:=trivial
def tw14692197375873661811:=trivial
def tw3608217254636168208:=trivial
def tw10263108546824375549:=trivial
def tw998112824292300418:=trivial
def tw1302230376326651610:=trivial
def tw4089013752363020141:=trivial
def tw2927576315785321597:=trivial
def tw8225756156565844233:=trivial
def tw8085360943858629075:=trivial
def tw9018694572169532865:=trivial
def tw6769246930846682233:=trivial
def tw7830509375150189929:=trivial
def tw13100584094212100911:=trivial
def tw5035838201648846165:=trivial
def tw2590771950607309539:=trivial
def tw18078212357443253273:=trivial
def tw17280141915593778026:=trivial
def tw2442786555180954172:=trivial
def tw5715577210474534434:=trivial
def tw11448926737677139724:=trivial
def tw16418669403471249495:=trivial
def tw7782008031098900646:=trivial
def tw4278746468326009551:=trivial
def tw15373379049609461689:=trivial
def tw1203513959967983709:=trivial
def tw11464062429158578606:=trivial
def tw15850308088831626190:=trivial
def tw14210262467322732736:=trivial
def tw17353262902739729607:=trivial
def tw12837936224741104617:=trivial
def tw327544525263972680:=trivial
def tw4985039447075638554:=trivial
def tw6594510114260764369:=trivial
def tw12598323071216546004:=trivial
def tw17591226296573662361:=trivial
def tw9339138401554597325:=trivial
def tw14818954700662014656:=trivial
def tw13290118252971805828:=trivial
def tw8319669958022843028:=trivial
def tw15663402424454668265:=trivial
def tw7398808113956158039:=trivial
def tw2885414721669370120:=trivial
def tw5147486790909807990:=trivial
def tw4501682078961783642:=trivial
def tw13595623513589164953:=trivial
def tw11758077285630765720:=trivial
def tw14188420191299473849:=trivial
def tw6381801753979426910:=trivial
def tw16165156034942691785:=trivial
def tw8125824050512119829:=trivial
def tw8293771525101250591:=trivial
def tw13899383819072982084:=trivial
def tw15775781035995243537:=trivial
def tw7930059620582699239:=trivial
def tw18263510417017073582:=trivial
def tw4988347713963061664:=trivial
def tw8110399598997393871:=trivial
def tw13695975795039345848:=trivial
def tw14132065579821483774:=trivial
def tw550452011854344446:=trivial
def tw9000196096871965414:=trivial
def tw8009539752438601879:=trivial
def tw6703808507736010200:=trivial
def tw17224048440717237128:=trivial
def tw10018671809355884319:=trivial
def tw5150958289185767534:=trivial
def tw9918687219844444626:=trivial
def tw3325364274072571231:=trivial
def tw4845578001335011263:=trivial
def tw15639632866787122765:=trivial
def tw10856549483834062945:=trivial
def tw11821752248564924935:=trivial
def tw6230538388873582522:=trivial
def tw13176366835113170423:=trivial
def tw3101326907188260136:=trivial
def tw16978613996858957533:=trivial
def tw15308211367950061580:=trivial
def tw10363245672953445700:=trivial
def tw12133690673443049551:=trivial
def tw15029969890775923539:=trivial
def tw3072112943470805625:=trivial
def tw16594075194580794664:=trivial
def tw3273868403110557637:=trivial
def tw8509494563735243522:=trivial
def tw3424508365559150587:=trivial
def tw6801001685845452457:=trivial
def tw5949391932972922524:=trivial
def tw9661464500833470801:=trivial
def tw17210623228166753854:=trivial
def tw7465769194248908040:=trivial
def tw8658784153456427262:=trivial
def tw3531372453232808984:=trivial
def tw483458980247397974:=trivial
def tw12224067840232755456:=trivial
def tw17596906507422657490:=trivial
def tw7623710686872909797:=trivial
def tw13247077171159344495:=trivial
def tw4500857340381898046:=trivial
def tw11537610794134735058:=trivial
def tw7109170747641915274:=trivial
def tw3774329111848022057:=trivial
def tw10775810909387480877:=trivial
def tw10051517651614861648:=trivial
def tw312886226566696809:=trivial
def tw7853508293724455257:=trivial
def tw11887359093300903793:=trivial
def tw15439215052310543521:=trivial
def tw10000018421431460341:=trivial
def tw15395858264585112594:=trivial
def tw17188558939859455312:=trivial
def tw11981443333916431918:=trivial
def tw1250770532235641928:=trivial
def tw2256117444114817577:=trivial
def tw2547619560676924240:=trivial
def tw9109002954649944903:=trivial
def tw3858639189484038460:=trivial
def tw17399707739794073122:=trivial
def tw10116006356053027663:=trivial
def tw4042644493070145258:=trivial
def tw17431928078110305871:=trivial
def tw16081555623286630095:=trivial
def tw3245635260011376075:=trivial
def tw9480485244608156803:=trivial
def tw7809829519017250472:=trivial
def tw4022457780953403678:=trivial
def tw536856071213130283:=trivial
def tw1354795208345866749:=trivial
def tw6342486389121618417:=trivial
def tw9072826669217718497:=trivial
def tw10932285571246201028:=trivial
def tw258661419894809791:=trivial
def tw13720635353129241208:=trivial
def tw11892302813434467667:=trivial
def tw5365513855064224535:=trivial
def tw4876978771699136642:=trivial
def tw18285214686114493976:=trivial
def tw7818058437621952774:=trivial
def tw16769054359419170641:=trivial
def tw13625616694343353443:=trivial
def tw16745423649902207462:=trivial
def tw6483312450242291492:=trivial
def tw12673943850252879975:=trivial
def tw9392275809956486925:=trivial
def tw16493182579185713197:=trivial
def tw14276563144167020406:=trivial
def tw8445972895445157936:=trivial
def tw5520926244857223199:=trivial
def tw12081447677837602125:=trivial
def tw15761900185079818294:=trivial
def tw9267185226935891861:=trivial
def tw14219257487987888930:=trivial
def tw14309835763956276387:=trivial
def tw10239275068525703256:=trivial
def tw10691372295428448385:=trivial
def tw3907564025583669213:=trivial
def tw11811514612430144803:=trivial
def tw12926580493269245304:=trivial
def tw5136999359428560062:=trivial
def tw4513147348861978070:=trivial
def tw1984996283043611805:=trivial
def tw3055895931906623697:=trivial
def tw17324469190492676619:=trivial
def tw2786998912936332583:=trivial
def tw1985229346169569790:=trivial
def tw1829771585829557880:=trivial
def tw3708904663904958272:=trivial
def tw13996652453174249210:=trivial
def tw12584283324589403580:=trivial
def tw15337629506480986408:=trivial
def tw15128734733941742159:=trivial
def tw7165006865409360313:=trivial
def tw3748210457948127971:=trivial
def tw3593661854208047593:=trivial
def tw7649060052711550858:=trivial
def tw15022640305245431536:=trivial
def tw4716831245997835187:=trivial
def tw8277035765243199733:=trivial
def tw1268143213628373151:=trivial
def tw7989919201233359622:=trivial
def tw18217017099163106980:=trivial
def tw15321109167330954847:=trivial
def tw14783774710019679612:=trivial
def tw9388815578757178522:=trivial
def tw5219530843155343884:=trivial
def tw908705349053213710:=trivial
def tw16138725640082322858:=trivial
def tw14500709485874568834:=trivial
def tw14952194811065472191:=trivial
def tw1791702876246505305:=trivial
def tw18006986782171765999:=trivial
def tw2565733928243262799:=trivial
def tw9695324575496656372:=trivial
def tw34383267297228479:=trivial
def tw5628432869078684636:=trivial
def tw9795525485339627991:=trivial
def tw12487937808717664087:=trivial
def tw5807250695473334793:=trivial
def tw4186905091915286878:=trivial
def tw15942857620163679228:=trivial
def tw898618810646096855:=trivial
def tw4521955306578352254:=trivial
def tw13945654437254285362:=trivial
def tw5787246748761956037:=trivial
def tw15070895491039897636:=trivial
def tw11367407820641724388:=trivial
def tw9999709321082169416:=trivial
def tw294059447213405365:=trivial
def tw14823231824715454898:=trivial
def tw312520926859061141:=trivial
def tw4492649977404271291:=trivial
def tw4964909604953040518:=trivial
def tw7871030012033918012:=trivial
def tw9670567942723308463:=trivial
def tw18395176624206752466:=trivial
def tw3914227969742190086:=trivial
def tw14283674310250954996:=trivial
def tw4494730138294815726:=trivial
def tw8915489411019042123:=trivial
def tw5972482319934595787:=trivial
def tw9432648669436614633:=trivial
def tw12482488724394868692:=trivial
def tw17123461547265999052:=trivial
def tw8384264085720251380:=trivial
def tw4433617977075334095:=trivial
def tw5259997025097118717:=trivial
def tw1367644189181723982:=trivial
def tw5681882563773006900:=trivial
def tw7804079165914006668:=trivial
def tw4078542394997977664:=trivial
def tw18080478417217378239:=trivial
def tw10965842958807027734:=trivial
def tw15006639704710999398:=trivial
def tw9373487738799686774:=trivial
def tw7673042789456621899:=trivial
def tw3912085450377808169:=trivial
def tw10520205153068818178:=trivial
def tw13353172203168985332:=trivial
def tw16502433264267957050:=trivial
def tw6054901649202618063:=trivial
def tw71665108791690782:=trivial
def tw14456637719217129583:=trivial
def tw6149456413229009708:=trivial
def tw13110787092357344655:=trivial
def tw11235817916506613399:=trivial
def tw18248766231055274258:=trivial
def tw516816696764337854:=trivial
def tw5901585640340846193:=trivial
def tw14889505910168960969:=trivial
def tw3093379616886455048:=trivial
def tw11036333116333500454:=trivial
def tw6878476302121994486:=trivial
def tw16557277562245881859:=trivial
def tw17992967668365787653:=trivial
def tw7137033945954783040:=trivial
def tw6266507684159396302:=trivial
def tw2990224072849150138:=trivial
def tw5663009013029288980:=trivial
def tw11339371235538464046:=trivial
def tw16462071352572999338:=trivial
def tw8129818795776152871:=trivial
def tw8830432675884775936:=trivial
def tw876085024068903138:=trivial
def tw462856853717586354:=trivial
def tw1394926554647740486:=trivial
def tw8537013298948756528:=trivial
def tw9825068790814754058:=trivial
def tw2626377961801522321:=trivial
def tw2544751142655222196:=trivial
def tw556481713073633107:=trivial
def tw8672961280839280422:=trivial
def tw15805139580511853971:=trivial
def tw15791116386807070825:=trivial
def tw8664304898036541215:=trivial
def tw14434690646587546016:=trivial
def tw15189864533890159325:=trivial
def tw7344779957683559711:=trivial
def tw14213661040785302026:=trivial
def tw12374453861262093776:=trivial
def tw7969840056174905818:=trivial
def tw11505179277592717274:=trivial
def tw9495660350257624739:=trivial
def tw17353926359700863128:=trivial
def tw2497743358082876701:=trivial
def tw10985634242876905083:=trivial
def tw16794478041717154033:=trivial
def tw12809284553673107616:=trivial
def tw14660072270163473938:=trivial
def tw15837094348675233132:=trivial
def tw16239142337389421434:=trivial
def tw13175196798042467120:=trivial
def tw638285234701630574:=trivial
def tw12548318078356376448:=trivial
def tw13829495562630674412:=trivial
def tw13416804969849441861:=trivial
def tw15032660482954000931:=trivial
def tw18128512701221661258:=trivial
def tw11041298419614943249:=trivial
def tw17936041379622978863:=trivial
def tw12369183560367813257:=trivial
def tw10193250822193914848:=trivial
def tw4279595636311716003:=trivial
def tw4600267121924699559:=trivial
def tw4993173519939581629:=trivial
def tw16019652295346769698:=trivial
def tw11092541943854858593:=trivial
def tw10867889907352794246:=trivial
def tw6032316177092894029:=trivial
def tw14407516574994818071:=trivial
def tw2325749507281445378:=trivial
def tw5834665170004995293:=trivial
def tw17916321087887481351:=trivial
def tw16355584467147462920:=trivial
def tw5257261931892171388:=trivial
def tw16609913537799794893:=trivial
def tw12721736073013942513:=trivial
def tw9441952305985737721:=trivial
def tw2129949044660831066:=trivial
def tw5631493890185169501:=trivial
def tw9056150202091741964:=trivial
def tw15505668004356954242:=trivial
def tw249696723491442033:=trivial
def tw767057019380295363:=trivial
def tw2152506609483791966:=trivial
def tw5731486427842557710:=trivial
def tw7936293250060110494:=trivial
def tw6527171160876659092:=trivial
def tw1995059675598995079:=trivial
def tw13157541177237110277:=trivial
def tw2782586763266382343:=trivial
def tw5907172901858914020:=trivial
def tw2682811735135523999:=trivial
def tw4031840658100233911:=trivial
def tw9992169998524702634:=trivial
def tw14955476509314995068:=trivial
def tw9853844299886172034:=trivial
def tw10875515895081910389:=trivial
def tw11871642626471647854:=trivial
def tw17763181812314808404:=trivial
def tw16527440690680691179:=trivial
def tw16379904395315412859:=trivial
def tw11874856960004899868:=trivial
def tw7675671177362029926:=trivial
def tw6951265450411267330:=trivial
def tw10263615727069429871:=trivial
def tw14571533240362692985:=trivial
def tw11280335327334335311:=trivial
def tw5407038020775104393:=trivial
def tw8510203099387170621:=trivial
def tw8364104408236624699:=trivial
def tw6866499652954317404:=trivial
def tw11939033502375854792:=trivial
def tw4490838423173965381:=trivial
def tw17255956089536184884:=trivial
def tw3445209603173793608:=trivial
def tw15250859036969756098:=trivial
def tw5289364989944152468:=trivial
def tw6147691780031607313:=trivial
def tw17011937141850236663:=trivial
def tw11673790867306775217:=trivial
def tw747438544086090078:=trivial
def tw8231343088263269244:=trivial
def tw3075999768504680132:=trivial
def tw1199225780614727593:=trivial
def tw6851168881532218384:=trivial
def tw4823079128296895770:=trivial
def tw5460872257837370407:=trivial
def tw16846571979214207130:=trivial
def tw16376726656269709011:=trivial
def tw2346600444875637568:=trivial
def tw2627001642804886772:=trivial
def tw4044415543606490106:=trivial
def tw2607764703622610793:=trivial
def tw6188064588207600537:=trivial
def tw11072632670574489255:=trivial
def tw2553612902156290323:=trivial
def tw17136778132996139732:=trivial
def tw6205324322385904862:=trivial
def tw10988487477677227276:=trivial
def tw14827509567213907963:=trivial
def tw7580257535476480905:=trivial
def tw16124773301680018394:=trivial
def tw12970526757314085691:=trivial
def tw1798104154137473210:=trivial
def tw13694895366079813859:=trivial
def tw7469679351693623233:=trivial
def tw1554955054743800631:=trivial
def tw17361639145102276710:=trivial
def tw14737907676729215381:=trivial
def tw14224097632393018919:=trivial
def tw3043044027073761152:=trivial
def tw4866038060846438936:=trivial
def tw16986073119138875728:=trivial
def tw2877653781800619438:=trivial
def tw16424008293146692250:=trivial
def tw2948410959556001056:=trivial
def tw646110229111048423:=trivial
def tw2453524651772603467:=trivial
def tw13752886560320363087:=trivial
def tw4667254905375619352:=trivial
def tw5215312761317812400:=trivial
def tw11392547256056951577:=trivial
def tw2557101839883759348:=trivial
def tw12639948484325193171:=trivial
def tw8430289472932223174:=trivial
def tw13532618205712873519:=trivial
def tw12241456286742637993:=trivial
def tw909522895579993444:=trivial
def tw7011774981666437732:=trivial
def tw9253581308587841422:=trivial
def tw12021643832098937335:=trivial
def tw5760828731828645254:=trivial
def tw11908904879464770737:=trivial
def tw230289601146777180:=trivial
def tw10539672095646317966:=trivial
def tw17636405598658111342:=trivial
def tw17371974307788252422:=trivial
def tw18310087916886424771:=trivial
def tw3325286309365013611:=trivial
def tw11745364367008006689:=trivial
def tw1304108597431142390:=trivial
def tw17658896880277936453:=trivial
def tw13719335444928200916:=trivial
def tw8898530537890663198:=trivial
def tw6245849777102244579:=trivial
def tw6203599163886699349:=trivial
def tw17254848131493089701:=trivial
def tw16740786657971161887:=trivial
def tw5577613223211631477:=trivial
def tw9439782420195963258:=trivial
def tw11707358997073805799:=trivial
def tw14713190202401649304:=trivial
def tw11158083226633745722:=trivial
def tw13748665327634178117:=trivial
def tw9055571414574156394:=trivial
def tw12690675040821065582:=trivial
def tw2769266852961198807:=trivial
def tw13327661717048112914:=trivial
def tw14202699422666906810:=trivial
def tw13733993970738676946:=trivial
def tw8814474903921841693:=trivial
def tw3207881117465886885:=trivial
def tw10777991752249016884:=trivial
def tw2795643474041217281:=trivial
def tw3828950048159709898:=trivial
def tw18274912691794039215:=trivial
def tw6852959001520197639:=trivial
def tw4592963632551508195:=trivial
def tw8135683184582006792:=trivial
def tw6100846055492874617:=trivial
def tw10697761391665949869:=trivial
def tw5708282857559076032:=trivial
def tw1426959407899329197:=trivial
def tw12205759807814485514:=trivial
def tw10133868048753275449:=trivial
def tw11197544799835368614:=trivial
def tw14800120888385766292:=trivial
def tw9380905298906526013:=trivial
def tw7572977511367789830:=trivial
def tw13596942283997262638:=trivial
def tw16182190957984611912:=trivial
def tw4672430265922890244:=trivial
def tw14174943491733797609:=trivial
def tw6822788595256908637:=trivial
def tw16909120530875254799:=trivial
def tw10095864621107061050:=trivial
def tw4092434657316134306:=trivial
def tw9598172581676042532:=trivial
def tw4766368631631065770:=trivial
def tw396526159362631094:=trivial
def tw10468993132032027035:=trivial
def tw6184780094265296310:=trivial
def tw70636691127065710:=trivial
def tw2852730126504169458:=trivial
def tw16090886088432490211:=trivial
def tw9805832854328294692:=trivial
def tw2037679196590341334:=trivial
def tw10098811595666234:=trivial
def tw3134997841929716604:=trivial
def tw14541315161990728610:=trivial
def tw4038943937825737498:=trivial
def tw17367606655402790341:=trivial
def tw15415576402869914180:=trivial
def tw18331107036989171451:=trivial
def tw1366369988840078222:=trivial
def tw18093632753541730670:=trivial
def tw11625857500466032788:=trivial
def tw4810927657109846401:=trivial
def tw16902410221464532564:=trivial
def tw10156878119823504218:=trivial
def tw16146268697401609056:=trivial
def tw14748762500797666890:=trivial
def tw14204394433965942697:=trivial
def tw8033841379806294133:=trivial
def tw7487608464206195920:=trivial
def tw13276072899583908614:=trivial
def tw4975405314286816053:=trivial
def tw446835652901475850:=trivial
def tw10389750132157317608:=trivial
def tw16890272765205991550:=trivial
def tw10380948457339537416:=trivial
def tw4562119704724910365:=trivial
def tw9933751133230689965:=trivial
def tw11880339309686656102:=trivial
def tw3552167802406701688:=trivial
def tw5421773570549470210:=trivial
def tw7062110163888076711:=trivial
def tw16127168187582056197:=trivial
def tw4204442262293906694:=trivial
def tw17789828955107917157:=trivial
def tw10211268393778887299:=trivial
def tw12387418193415797870:=trivial
def tw13310762348966423498:=trivial
def tw13144406785112181661:=trivial
def tw16172094253194123975:=trivial
def tw2889179585272186753:=trivial
def tw12999304105899355687:=trivial
def tw10339592021490570111:=trivial
def tw160023802293339183:=trivial
def tw6758576448763801338:=trivial
def tw10100480277448322167:=trivial
def tw9782341234701931130:=trivial
def tw11927609564330718308:=trivial
def tw5814578763312026808:=trivial
def tw7013431278812112353:=trivial
def tw10379786563514347456:=trivial
def tw14365586827051142486:=trivial
def tw15080498597242883192:=trivial
def tw4703533494395855:=trivial
def tw4002196262199706284:=trivial
def tw9226071096944052746:=trivial
def tw12037888319518968787:=trivial
def tw4972456667738331591:=trivial
def tw9830853099796190607:=trivial
def tw7961511048340523151:=trivial
def tw17707919930975296347:=trivial
def tw11450099764078829720:=trivial
def tw10977081154323865598:=trivial
def tw3256609948802080227:=trivial
def tw3690922981248877935:=trivial
def tw10294550121459812012:=trivial
def tw12715293108372076722:=trivial
def tw10938767404292187710:=trivial
def tw9815725323336143609:=trivial
def tw8707568400735379555:=trivial
def tw9857442285878739971:=trivial
def tw15810566044945834119:=trivial
def tw18387776031852403361:=trivial
def tw13039002895022870427:=trivial
def tw8782943392687687729:=trivial
def tw6806565247739262765:=trivial
def tw2083807296799389095:=trivial
def tw14796165100549286461:=trivial
def tw13757607647161790888:=trivial
def tw5642389030573369471:=trivial
def tw3401215552948057412:=trivial
end PySem.W.Fast
set_option maxRecDepth 100000 in
set_option maxHeartbeats 0 in
theorem PySem.Challenge.cw_neverwait_k44_berthed_judged_holds : PySem.Challenge.rw_neverwait_k44_berthed_judged.Holds := by
 w_on; o_law; k_head; (case hw=>w_witness2)
 k_fill
 refine pi.walk (l:=PySem.Challenge.rw_neverwait_k44_berthed_judged) (Pt:=_) rfl rfl (fun w h Y=>PySem.W.km_in_of Y) (fun w h Y=>PySem.W.km_tabs_of Y) ?ZR ?ZS ?F;case F =>
  intro w mg fa h KX G Md;refine' pi.KA (Pt:=_) KX G Md ?_ ?_ ?_ ?_ ?_ ?_ ?_ ?_ ?_ ?_ ?_ ?_ ?_ ?_ ?_ ?_ ?_ ?_ ?_ ?_ ?_ ?_ ?_ ?_ ?_ ?_ ?_ ?_ ?_ ?_ ?_ ?_ ?_ ?_ ?_ ?_ ?_ ?_ ?_ ?_ ?_ ?_ ?_ ?_ ?_ ?_ ?_ ?_ ?_ ?_ ?_ ?_ ?_ ?_ ?_ ?_ ?_ ?_ ?_ ?_ ?_ ?_ ?_ ?_ ?_ ?_ ?_ ?_ ?_ ?_ ?_ ?_ ?_ ?_ ?_ ?_ ?_ ?_ ?_ ?_ ?_ ?_ ?_ ?_ ?_ ?_ ?_ ?_ ?_ ?_ ?_ ?_ ?_ ?_ ?_ ?_ ?_ ?_ ?_ ?_ ?_ ?_ ?_ ?_ ?_ ?_ ?_ ?_ ?_ ?_ ?_ ?_ ?_ ?_ ?_ ?_ ?_ ?_ ?_;all_goals first
   | (refine' pi.FD.mk ?a ?l ?d ?k; (case a=>k_is); (case l=>k_is); (case d=>k_is); (case k=>k_is))
   | (refine' pi.FC.mk ?a ?l ?d ?k; (case a=>k_is); (case l=>k_is); (case d=>k_is); (case k=>k_is))
   | (refine' pi.MD.mk ?a ?i ?l ?d ?k; (case a=>k_is); (case i=>k_is); (case l=>k_is); (case d=>k_is); (case k=>k_is))
   | (refine' pi.MC.mk ?a ?i ?l ?d ?k; (case a=>k_is); (case i=>k_is); (case l=>k_is); (case d=>k_is); (case k=>k_is))
   | k_is
   | kernel_rfl
   | decide
   | exact ⟨by kernel_rfl,by k_is,by k_is,by k_is,by k_is,by k_is,by k_is,by kernel_rfl⟩
   | skip
 case ZS=>intro w; kernel_rfl
 case ZR=>intro w; kernel_rfl
