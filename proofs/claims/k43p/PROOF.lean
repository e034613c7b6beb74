import PyProof.Rows.All
import Wide.All
import OpenK.AllK
import Wide.FinOn
import Lean
import PyProof.EqAt
import PyProof.EqKinds
import PyProof.TupleCall
import PySem.Challenge.RW_neverwait_k43_berths
set_option Elab.async false
set_option linter.all false
set_option maxRecDepth 100000
set_option maxHeartbeats 8000000
def ap:=@PySem.wpAny_bind
def bU:=@List.getD_eq_getElem?_getD
def aW:=@List.length_map
def bz:=@List.mem_cons_of_mem
def cr:=@List.getElem?_eq_getElem
def cf:=@PySem.Heap.get?_push_of_some
def bi:=@Option.some.inj
def bC:=@List.mem_cons_self
def aF:=@PyProof.Rows.wpS_bind
def cG:=@Nat.lt_of_lt_of_le
def aN:=@Nat.le_refl
def ak:=@if_pos
def cH:=@List.getElem?_eq_some_iff
def al:=@if_neg
def aU:=@PySem.Heap.lt_size
def bA:=@List.getElem?_map
def aX:=@List.mem_map
def cz:=@List.mem_append_right
def aY:=@Nat.ne_of_lt
def bH:=@Bool.false_ne_true
def dO:=@PyProof.Rows.boot_isinstance
def bo:=@List.mem_cons
def bf:=@Nat.le_trans
def cI:=@PySem.Heap.get?_push_size
def aJ:=@PyProof.Rows.wpS_pure
def cJ:=@List.mem_singleton
def bD:=@decide_eq_true
def cA:=@List.size_toArray
def cK:=@List.append_assoc
def dA:=@List.mem_of_getElem?
def dq:=@PySem.W.mg_none_of
def dI:=@Array.toList_append
def bQ:=@PySem.W.mg_of
def cQ:=@List.mem_append
def dB:=@Nat.lt_succ_of_lt
def cV:=@decide_eq_false
def dt:=@List.length_cons
def cR:=@List.mem_range
def dP:=@List.length_append
def du:=@List.mem_filter
def cY:=@PySem.boot_len
def dC:=@List.nodup_cons
def eX:=@PySem.mem_of_lookup
def cL:=@getElem?_pos
def dJ:=@List.map_append
def hZ:=@Nat.lt_succ_iff_lt_or_eq
def cZ:=@Int.ofNat.inj
def fR:=@List.mem_append_left
def h_:=@PySem.F.plainAttrs_list
def dQ:=@PySem.PassesOwn.never
def eY:=@of_decide_eq_true
def ix:=@PySem.F.type_list_append
def iy:=@PySem.F.slot_list_append
def cS:=@Nat.zero_le
def eZ:=@List.lookup_cons
def e_:=@Bool.and_eq_true
def dD:=@Int.zero_add
def fA:=@List.filter_cons
def gf:=@Nat.lt_of_le_of_lt
def ky:=@Array.perm_iff_toList_perm
def iz:=@List.perm_append_comm
def gg:=@List.take_add_one
def kA:=@PyProof.Rows.boot_tuple
def gh:=@List.getElem_mem
def my:=@List.getElem?_append_left
def iA:=@List.filter_append
def ic:=@PySem.wpAny_newObj_type
def ie:=@PySem.Heap.get?_push_ne
def d9:=@PyProof.Rows.wpS_forRange
def gj:=@PySem.W.kia_one
def gm:=@Nat.not_lt_zero
def fc:=@List.map_map
def iB:=@List.length_range
def qa:=@PyProof.Rows.slot_tuple_getitem
def iC:=@List.take_length
def mz:=@List.getElem?_set_self
def iD:=@List.all_eq_true
def fS:=@PySem.wpAny_holding
def mB:=@List.length_filter_le
def mC:=@List.Perm.append_left
def gq:=@Nat.lt_irrefl
def ig:=@List.nodup_nil
def iE:=@Nat.div_add_mod
def ff:=@PySem.wpAny_field
def n_:=@Nat.div_div_eq_div_mul
def kB:=@List.pairwise_map
def qb:=@List.nodup_iff_pairwise_ne
def qc:=@List.getElem?_append_right
def jA:=@PySem.Heap.size_update
def kC:=@Bool.eq_false_iff
def mD:=@List.map_congr_left
def cW:=@Ne.symm
def og:=@List.length_replicate
def oh:=@List.getElem?_eq_none
def mE:=@decide_eq_true_iff
def fD:=@beq_iff_eq
def mF:=@PySem.F.called_set
def kD:=@Nat.lt_succ_self
def kF:=@List.length_take
def ii:=@Nat.le_of_lt
def jM:=@List.mem_of_mem_take
def jN:=@List.getElem?_set_ne
def gD:=@List.range_succ
def jO:=@Array.length_toList
def lx:=@PySem.F.plain_max_loop
def iF:=@PySem.wpAny_truthy_bool
def lz:=@PySem.wpAny_callSpecial?_slot
def f9:=@List.map_cons
def iG:=@Nat.mod_eq_of_lt
def jP:=@List.mem_filterMap
def gG:=@Array.size_map
def om:=@Array.getElem?_eq_some_iff
def lA:=@List.take_append_drop
def iH:=@PySem.wpAny_call_entry
def et:=@PySem.wpAny_rule
def jQ:=@PySem.wpAny_Call_Name_kw
def jR:=@decide_eq_true_eq
def jS:=@Nat.le_of_succ_le
def gI:=@PySem.Heap.size_push
def cT:=@PyProof.Rows.wpS_mono
def on:=@List.getElem?_take_of_lt
def lB:=@beq_eq_false_iff_ne
def lC:=@Nat.mul_le_mul_left
def eQ:=@PySem.wpAny_mono
def lD:=@Int.emod_lt_of_pos
def lE:=@Bool.false_eq_true
def jT:=@Bool.eq_iff_iff
def oo:=@Array.getElem?_toList
def eR:=@PyProof.Rows.wpS_modify
def lF:=@Array.toList_push
def ra:=@Array.getD_eq_getD_getElem?
def oq:=@PySem.Heap.get?_update_other
def jU:=@PySem.wpAny_passesOwn
def jV:=@PySem.codeAny_builtin
def rb:=@Int.fdiv_eq_ediv_of_nonneg
def ot:=@PySem.Heap.get?_update_self
def rd:=@Classical.byContradiction
def vT:=@PyProof.Rows.F.plain_set_update_loop
def jW:=@PySem.wpAny_seqItems
def re:=@List.length_erase_of_mem
def ou:=@PySem.Around.under_plainId
def lG:=@ne_of_beq_false
def lH:=@List.of_mem_zip
def lI:=@Int.emod_nonneg
def iI:=@PySem.codeAny_mono
def ow:=@PySem.W.callWith_K
def rf:=@decide_eq_false_iff_not
def iJ:=@List.map_id
def oy:=@PySem.Heap.get?_update_ne
def rh:=@PyProof.Rows.boot_list
def jX:=@Nat.ne_of_gt
def rj:=@Nat.lt_of_succ_lt_succ
def rk:=@List.range_succ_eq_map
def rn:=@List.length_pos_of_mem
def rp:=@Array.toList_filterMap
def oz:=@PySem.Obj.data_mapFields
def iK:=@PySem.sizeLine_eq
def iL:=@Nat.mod_lt
def oA:=@List.countP_cons
def oB:=@PySem.wpAny_loadPart_at
def rq:=@List.mem_of_mem_drop
def rA:=@List.mem_iff_getElem
def rB:=@List.mem_erase_of_ne
def rC:=@PySem.W.hideAll_get
def oC:=@PySem.wpAny_eqBool_int
def vU:=@PyProof.Rows.callWith_type1
def lJ:=@PySem.wpAny_standAt
def gJ:=@if_false
def vV:=@PySem.F.excBase_ValueError
def vW:=@Int.fmod_eq_emod_of_nonneg
def rD:=@PySem.Heap.get?_none_of_le
def oE:=@PySem.wpAny_execs_nil
def vX:=@List.drop_eq_getElem_cons
def vY:=@Decidable.byContradiction
def vZ:=@Array.getElem?_eq_getElem
def lK:=@Nat.mul_pos
def lL:=@Nat.mul_one
def lM:=@Nat.div_one
def rE:=@List.nodup_append
def rF:=@PySem.Heap.SameBut.update
def v3:=@Option.isSome_iff_exists
def oF:=@List.all_cons
def oG:=@PySem.wpAny_setField
def jY:=@PySem.wpAny_call
def v4:=@Nat.le_mul_of_pos_right
def rG:=@List.not_mem_nil
def rH:=@List.nodup_range
def v5:=@List.getElem?_replicate
def v6:=@PySem.Calls.Name_function_global
def rJ:=@Array.toList_map
def v7:=@PySem.W.cellsFrom_some
def v8:=@List.Perm.append_right
def rK:=@PySem.wpAny_setState_of
def rL:=@PySem.wpAny_pyIter_list
def rM:=@List.length_set
def rN:=@List.foldl_cons
def rO:=@List.append_nil
def rP:=@List.Perm.of_eq
def v9:=@PySem.wpAny_comprehension_free
def oH:=@PySem.plainId_quiet
def v_:=@PyProof.Rows.boot_min
def wa:=@PyProof.Rows.boot_max
def fE:=@PyProof.Rows.wpS_get
def jZ:=@Prod.ext
def oI:=@Nat.mul_add
def wb:=@Nat.div_lt_of_lt_mul
def wc:=@Bool.or_eq_false_iff
def wd:=@Array.toList_reverse
def we:=@Array.toList_extract
def j3:=@PyProof.Rows.size_push'
def wf:=@PySem.wpAny_pyNext_list_item
def lN:=@PySem.wpAny_Name
def wg:=@PySem.W.plainGet_of
def Ba:=@PyProof.Rows.F.entry_set_update_loop
def wj:=@List.length_pos_iff
def wm:=@List.filter_sublist
def wn:=@List.filterMap_cons
def rQ:=@not_false_iff
def rR:=@Nat.mul_assoc
def rS:=@List.any_cons
def rT:=@Bool.not_true
def wq:=@PySem.wpAny_pyNext_list_end
def wr:=@PySem.Obj.isFreed_of_fields
def wu:=@List.find?_eq_none
def rV:=@PySem.wpAny_tryCatch
def oJ:=@PySem.wpAny_of_eq
def wv:=@PySem.wpAny_loadName_local
def ww:=@PySem.codeAny_call_builtin
def rW:=@Nat.succ_pos
def rX:=@Nat.succ.inj
def rY:=@Nat.lt_or_ge
def rZ:=@Nat.le_of_eq
def wz:=@List.reverse_perm
def wA:=@List.ext_getElem?
def wB:=@List.any_eq_false
def wC:=@Int.toNat_natCast
def r0:=@Int.ofNat_lt
def wD:=@Decidable.not_not
def wE:=@PySem.Around.frames_deeper
def wF:=@PySem.wpAny_loadName_free
def wG:=@Nat.div_eq_of_lt
def wH:=@List.mem_flatMap
def wI:=@List.any_eq_true
def r6:=@Nat.one_mul
def Bb:=@List.eq_nil_of_length_eq_zero
def Bc:=@Int.mul_le_mul_of_nonneg_left
def wJ:=@PySem.wpAny_pyIter_tuple
def r9:=@PyProof.Rows.get?_update_seq
def wK:=@List.forIn_cons
def Bd:=@PySem.F.typeOf_object_class
def oK:=@and_true
def wL:=@PySem.Obj.cls_mapFields
def Be:=@Nat.mul_lt_mul_of_pos_left
def wM:=@Nat.mul_le_mul
def wN:=@List.take_zero
def wO:=@List.forIn_nil
def wP:=@List.drop_zero
def Bg:=@Array.toList_setIfInBounds
def j4:=@PyProof.Rows.wpS_lift
def Bh:=@Nat.add_mul_mod_self_left
def Bi:=@List.getElem?_eq_none_iff
def wQ:=@PySem.wpAny_isInstance
def Bj:=@PyProof.Rows.boot_sorted
def Bk:=@List.filterMap_cons_some
namespace L2
open PySem PySem.Spec PyProof.Rows
def Io(h:Heap)(e:Addr)(cls:Value)(tb:Value):Prop:=∃o vs,h.get? e=some o/\o.cls=cls/\o.data=.fields vs/\vs[1]?=some tb/\vs[2]?=some .none
def LG(h:Heap)(T:Addr)(fl:Value):Prop:=∃o vs,h.get? T=some o/\o.data=.fields vs/\vs[3]?=some fl
structure qd(B:Heap)(l:List Env)(e:Addr)(cls fl:Value)(h:Heap):Prop where
 stays:B.StaysIn h
 new:B.get? e=none
 frames:h.FunFrames B l
 rc:∃T,Io h e cls (.ref T)/\B.get? T=none/\T≠e/\LG h T fl
abbrev uw(B:Heap)(l:List Env)(e:Addr)(cls:Value)(h:Heap):Prop:=qd B l e cls .none h
theorem qd.there{B h:Heap}{l:List Env}{e:Addr}{cls fl:Value}(x:qd B l e cls fl h):∃o vs,h.get? e=some o/\o.cls=cls/\o.data=.fields vs/\vs[2]?=some .none:=by
 obtain⟨_,⟨o,vs,a,b,c,_,d⟩,_⟩:=x.rc;exact⟨o,vs,a,b,c,d⟩
section
variable {M:Model} {A:Around} {E:Value->Shared->Prop} {s:Shared} {B:Heap} {l outer:List Env} {env:Env} {e L:Addr} {cls:Value}
theorem r_{h:Heap}{T:Addr}{o:Obj}{vs:Array Value}{f:Array Value->Array Value}(hT:h.get? T=some o)(hd:o.data=.fields vs):
  (∀b,b≠T->(h.update T (Obj.mapFields f)).get? b=h.get? b)/\(h.update T (Obj.mapFields f)).get? T=some (Obj.mapFields f o)/\(Obj.mapFields f o).data=.fields (f vs)/\(Obj.mapFields f o).cls=o.cls/\h.UpToSlots (h.update T (Obj.mapFields f)):=by
 have o1:∀b,b≠T->(h.update T (Obj.mapFields f)).get? b=h.get? b:=fun b n=>oq _ _ (cW n);refine⟨o1,ot _ hT (wr (oz hd _)),oz hd _,wL _ _,fun b u q nf=>⟨u.slots,?_⟩⟩;by_cases c:b=T
 .subst c;rw[hT] at q;cases q;exact absurd hd (nf vs)
 .rw[o1 b c];exact q
theorem jh{h h':Heap}(F:h.FunFrames B l)(u:h.UpToSlots h'):h'.FunFrames B l:=F.of_keeps fun b o q nf=>let ⟨sl,z⟩:=u b o q nf;⟨_,z,rfl⟩
theorem fU{fl:Value}{Q:Unit->Shared->Prop}(x:qd B l e cls fl s.heap)(q:∀h',uw B l e cls h'->s.heap.UpToSlots h'->Q () { s with heap:=h' }):wpAny M A (setFlight (.ref e) none) Q E s:=by
 obtain⟨T,⟨o,vs,he,hc,hd,h1,h2⟩,nT,Te,oT,ts,hT,La,h3⟩:=x.rc;have z3:3<ts.size:=(om.mp h3).1;unfold setFlight;refine ap (ff he hd h1 ?_);rw[ak (show (Value.ref T != Value.none)=true from by simp)];refine oG hT La z3 ?_;obtain⟨p1,p2,p3,_,p5⟩:=r_ (f:=(·.setIfInBounds 3 ((none:Option Addr).elim Value.none fun f=>rawInt f))) hT La;exact q _ ⟨fun b u z=>(p1 b fun c=>by rw[c,nT] at z;cases z).trans (x.stays b u z),x.new,jh x.frames p5,T,⟨o,vs,(p1 e (cW Te)).trans he,hc,hd,h1,h2⟩,nT,Te,_,_,p2,p3,by simp[z3]⟩ p5
theorem qe{o:Obj}{vs:Array Value}{head:Value}{ET:Bool}{Q:Unit->Shared->Prop}(Bm:A.frames=some (env::outer))(F:s.heap.FunFrames B (env::outer))(hf:env.frame=some L)(st:B.StaysIn s.heap)(nw:B.get? e=none)(he:s.heap.get? e=some o)(hd:o.data=.fields vs)(z1:1<vs.size)(h2:vs[2]?=some .none)(q:∀h',qd B (env::outer) e o.cls (rawInt L) h'->s.heap.UpToSlots h'->Q () { s with heap:=h' }):
  wpAny M A (do let a <- frameOf env;let pl <- entryPlaceOf L ET;let b <- EntryCells.newEntry head a .none (rawInt L) .none pl;setField (.ref e) 1 b) Q E s:=by
 have ne:e∉(env::outer).filterMap (·.frame):=fun m=>by
  obtain⟨_,u,hu,nf⟩:=F.mem m;rw[he] at hu;cases hu;exact nf vs hd
 refine ap (wpAny_frameOf_fun Bm F hf fun h1 so=>?_);refine ap (wpAny_entryPlaceOf fun pl mG=>?_);unfold EntryCells.newEntry newFields;refine ap (ic ?_ (mG.sizeOk5 _ _ _ _ _));have e1:h1.get? e=some o:=(so.2.1 e ne).trans he;have EU:B.StaysIn h1:=fun b u z=>(so.2.1 b fun m=>by rw[(F.mem m).1] at z;cases z).trans (st b u z);have up1:s.heap.UpToSlots h1:=fun b u z _=>so.2.2 b u z;generalize U1:({ cls:=.type "traceback",dict:=none,data:=.fields ([head,.ref L,.none,rawInt L,.none]++(if pl.isEmpty then List.replicate 6 Value.none else pl)).toArray }:Obj)=To;have e2:=cf (h:=h1) To e1;refine oG e2 hd z1 ?_;obtain⟨p1,p2,p3,p4,p5⟩:=r_ (f:=(·.setIfInBounds 1 (Value.ref h1.objs.size))) e2 hd;have Te:h1.objs.size≠e:=jX (aU e1);have U2:h1.UpToSlots (h1.push To):=Heap.UpToSlots.of_keeps fun b u z=>cf _ z;refine q _ ⟨fun b u z=>(p1 b fun c=>by rw[c,nw] at z;cases z).trans (cf _ (EU b u z)),nw,jh F ((up1.trans U2).trans p5),h1.objs.size,⟨_,_,p2,p4,p3,by simp[z1],by rw[Array.getElem?_setIfInBounds_ne (by decide)];exact h2⟩,?_,Te,To,_,(p1 _ Te).trans (cI h1 (by rw[<-U1];rfl)),by rw[<-U1],?_⟩ ((up1.trans U2).trans p5)
 .cases z:B.get? h1.objs.size with
  |none=>rfl
  |some u=>exact absurd (aU (EU _ u z)) (gq _)
 .first|(simp;done)|(rcases mG with rfl|⟨_,_,_,_,_,_,_,rfl⟩ <;> simp)
theorem yh{Q:Unit->Shared->Prop}(Bm:A.frames=some (env::outer))(hf:env.frame=some L)(x:uw B (env::outer) e cls s.heap)(q:∀h',qd B (env::outer) e cls (rawInt L) h'->s.heap.UpToSlots h'->Q () { s with heap:=h' }):wpAny M A (noteFrame (.ref e) env) Q E s:=by
 obtain⟨T,⟨o,vs,he,hc,hd,h1,h2⟩,nT,Te,oT,ts,hT,La,h3⟩:=x.rc;subst hc;unfold noteFrame;simp only[hf];refine ap (ff he hd h1 ?_);rw[ak (show (Value.ref T != Value.none)=true from by simp)];refine ap (ff hT La h3 ?_);rw[al (show ¬ ((Value.none==rawInt L)=true) from by simp[rawInt])];refine ap (oG hT La (om.mp h3).1 ?_);obtain⟨p1,p2,p3,p4,p5⟩:=r_ (f:=(·.setIfInBounds 3 Value.none)) hT La;exact qe Bm (jh x.frames p5) hf (fun b u z=>(p1 b fun c=>by rw[c,nT] at z;cases z).trans (x.stays b u z)) x.new ((p1 e (cW Te)).trans he) hd (om.mp h1).1 h2 fun h' y u=>q h' y (p5.trans u)
theorem Bn{Q:Unit->Shared->Prop}(Bm:A.frames=some (env::outer))(hf:env.frame=some L)(x:uw B (env::outer) e cls s.heap)(q:∀h',uw B outer e cls h'->s.heap.UpToSlots h'->Q () { s with heap:=h' }):wpAny M A (leaving env (.ref e)) Q E s:=by
 unfold leaving;refine ap (yh Bm hf x fun h1 y u=>?_);refine fU (s:={ s with heap:=h1 }) y fun h2 z v=>q h2 ⟨z.stays,z.new,z.frames.2.2,z.rc⟩ (u.trans v)
theorem wR{h:Heap}{args:List Value}{Q:Unit->Shared->Prop}(Bm:A.frames=some (env::outer))(hf:env.frame=some L)(st:B.StaysIn h)(F:h.FunFrames B (env::outer))(x:Heap.MadeExcOf h s.heap e cls args)(q:∀h',uw B outer e cls h'->s.heap.UpToSlots h'->Q () { s with heap:=h' }):wpAny M A (leaving env (.ref e)) Q E s:=by
 obtain⟨t,he,_,_⟩:=x.there;have nw:B.get? e=none:=by
  cases z:B.get? e with
  |none=>rfl
  |some u=>have:=st e u z;rw[x.new] at this;cases this
 unfold leaving noteFrame;simp only[hf];refine ap (ap (ff he rfl (x:=.none) rfl ?_));rw[al (by decide)];refine qe Bm (jh F (Heap.UpToSlots.of_keeps x.keeps)) hf (fun b u z=>x.keeps b u (st b u z)) nw he rfl (by simp) rfl fun h1 y u=>?_;exact fU (s:={ s with heap:=h1 }) y fun h2 z v=>q h2 ⟨z.stays,z.new,z.frames.2.2,z.rc⟩ (u.trans v)
end
theorem pM:plainId "proto.unchain"=true:=by decide +kernel
theorem pN:entryFor table "proto.unchain"=some Builtin.«proto.unchain»:=PySem.entryFor_of_fast (by kernel_rfl)
def ux(p:Addr)(h:Heap):Prop:=∃o vs,h.get? p=some o/\o.data=.fields vs/\vs[2]?=some .none
theorem Bo{α:Type}{prog:Program}{w:World}{A:Around}{Q:α->Shared->Prop}{E:Value->Shared->Prop}{s:Shared}{a p:Addr}{o:Obj}{vs:Array Value}(hh:A.handled=some (.ref p))(hp:ux p s.heap)(ne:p≠a)(ha:s.heap.get? a=some o)(hd:o.data=.fields vs)(z2:2<vs.size)(q:E (.ref a) { s with heap:=s.heap.update a (Obj.mapFields (·.setIfInBounds 2 (.ref p))) }):wpAny (model prog w) A (raiseNew (.ref a):Sem α) Q E s:=by
 obtain⟨op,ws,h1,h2,h3⟩:=hp;unfold raiseNew;refine ap (wpAny_handled ?_);rw[hh];dsimp only;rw[ak (show (Value.ref p != Value.ref a)=true from by simp[ne])];refine ap (fS (wpAny_runValue (jV pN ?_)));rw[ou pM _];show wpAny _ _ (field (.ref p) 2 >>= _) _ _ s;refine ap (ff h1 h2 h3 ?_);rw[ak (by decide)];refine wpAny_pure ?_;show wpAny (model prog w) A (updateField a 2 (Value.ref p) >>= fun _=>throw (Value.ref a)) Q E s;unfold updateField;refine ap (ap (wpAny_load ha ?_));rw[hd];dsimp only;rw[ak z2];exact wpAny_update (by rw[ha]) (wpAny_throw q)
theorem wS{prog:Program}{w:World}{A:Around}{E:Value->Shared->Prop}{s:Shared}{it p:Addr}{x left step:Int}{Q:Option Value->Shared->Prop}(hh:A.handled=some (.ref p))(hp:ux p s.heap)(pJ:IsRangeIter s.heap it x left step)(hl:left<=0)(hQ:∀h',(∀b o,s.heap.get? b=some o->h'.get? b=some o)->Q none { s with heap:=h' }):wpAny (model prog w) A (pyNext (.ref it)) Q E s:=by
 have hT:s.TypeIs (.ref it) "range_iterator":=⟨_,pJ,rfl⟩
 unfold pyNext;refine ap (wpAny_attempt (lz (name:=Str.ofString "__next__") hT F.slot_range_iterator_next
  (iH F.slot_range_iterator_next hT F.entry_range_iterator_next ?_ (F.args_range_iterator_next_1 _))))
 show wpAny _ _ (field (.ref it) 0 >>= _) _ _ s;refine ap (ff pJ rfl (x:=rawInt x) rfl ?_);refine ap (ff pJ rfl (x:=rawInt left) rfl ?_);refine ap (ff pJ rfl (x:=rawInt step) rfl ?_);dsimp only[rawInt];rw[ak hl];refine ap (et ?_);refine ap ?_;show wpAny _ _ (newExc (.type "StopIteration") [] >>= _) _ _ _;refine ap ?_;simp only[newExc,newTuple];refine ap (ic ?_ (by size_fits));refine ap (m:=firstArgMember _ _) (oJ (a:=Value.none) (by first|rfl|(simp only[firstArgMember];rfl)) ?_);refine ic ?_ (by size_fits);generalize ZR:({ cls:=.type "tuple",data:=.seq ([]:List Value).toArray }:Obj)=Tu;generalize Qf:({ cls:=.type "StopIteration",data:=.fields (#[Value.ref s.heap.objs.size,Value.none,Value.none,Value.none,Value.bool false,Value.none]++ownMembersOf (Value.type "StopIteration") []) }:Obj)=Ex;have U3:Ex.data=.fields (#[Value.ref s.heap.objs.size,Value.none,Value.none,Value.none,Value.bool false,Value.none]++ownMembersOf (Value.type "StopIteration") []):=by rw[<-Qf]
 have WC:Ex.cls=.type "StopIteration":=by rw[<-Qf]
 have k1:∀b o,s.heap.get? b=some o->((s.heap.push Tu).push Ex).get? b=some o:=fun b o e=>cf _ (cf _ e);have gE:((s.heap.push Tu).push Ex).get? (s.heap.push Tu).objs.size=some Ex:=cI _ (by rw[<-Qf];rfl);have jw:∀b o,s.heap.get? b=some o->b≠(s.heap.push Tu).objs.size:=fun b o e=>aY (aU (cf Tu e));obtain⟨op,ws,n1,n2,n3⟩:=id hp;refine Bo (A:=A.in1) (p:=p) hh ⟨op,ws,k1 _ _ n1,n2,n3⟩ (jw _ _ n1) gE U3 (by simp;lia) ?_;refine ap (wQ (T:="StopIteration") (b:=true) ⟨_,ot _ gE (wr (oz U3 _)),(wL _ _).trans WC⟩ isSubtype_stop ?_);exact wpAny_pure (hQ _ fun b o e=>(oq _ _ (cW (jw b o e))).trans (k1 b o e))
abbrev pO:=Sum Int Str
def Hf:pO->Value->Bool
 |.inl k,v=>Value.isInt k v
 |.inr x,v=>Value.isStrOf x v
def Qg(w:World):pO->Int
 |.inl k=>hashInt k
 |.inr x=>hashStr w x
theorem cg:∀ {k:pO} {v:Value},Hf k v=true->(∃i t,k=Sum.inl i/\v=Value.int i t)\/(∃x t,k=Sum.inr x/\v=Value.str x t)
 |.inl i,v,h=>by
  obtain⟨t,e⟩:=Value.isInt_shape (k:=i) (v:=v) h;exact .inl ⟨i,t,rfl,e⟩
 |.inr x,v,h=>by
  obtain⟨t,e⟩:=Value.isStrOf_shape (x:=x) (v:=v) h;exact .inr ⟨x,t,rfl,e⟩
theorem Ip(a b:Int):decide ((Sum.inl a:pO)=Sum.inl b)=(a==b):=by
 by_cases e:a=b
 .subst e;simp
 .have h:¬ (Sum.inl a:pO)=Sum.inl b:=fun q=>e (Sum.inl.inj q);rw[cV h];exact(lB.mpr e).symm
theorem Iq(a b:Str):decide ((Sum.inr a:pO)=Sum.inr b)=decide (a=b):=by
 by_cases e:a=b
 .subst e;simp
 .have h:¬ (Sum.inr a:pO)=Sum.inr b:=fun q=>e (Sum.inr.inj q);rw[cV h,cV e]
theorem Ir(a:Int)(b:Str):decide ((Sum.inl a:pO)=Sum.inr b)=false:=cV (fun q=>nomatch q)
theorem Iu(a:Str)(b:Int):decide ((Sum.inr a:pO)=Sum.inl b)=false:=cV (fun q=>nomatch q)
def yi(prog:Program)(w:World):PySem.KeyKind prog w pO where
 is:=Hf
 hash:=Qg w
 inj:=fun v a b ha hb=>by
  rcases cg ha with ⟨i,t,rfl,rfl⟩|⟨x,t,rfl,rfl⟩
  .rcases cg hb with ⟨j,u,rfl,e⟩|⟨y,u,rfl,e⟩
   .injection e with e1 _;rw[e1]
   .exact nomatch e
  .rcases cg hb with ⟨j,u,rfl,e⟩|⟨y,u,rfl,e⟩
   .exact nomatch e
   .injection e with e1 _;rw[e1]
 byValue:=fun k v h=>by
  rcases cg h with ⟨i,t,rfl,rfl⟩|⟨x,t,rfl,rfl⟩ <;> rfl
 pyHash:=fun hv h=>by
  rcases cg hv with ⟨i,t,rfl,rfl⟩|⟨x,t,rfl,rfl⟩
  .exact wpAny_pyHash_int h
  .exact wpAny_pyHash_str h
 eqBool:=fun hu hv h=>by
  rcases cg hu with ⟨i,t,rfl,rfl⟩|⟨x,t,rfl,rfl⟩
  .rcases cg hv with ⟨j,u,rfl,rfl⟩|⟨y,u,rfl,rfl⟩
   .rw[Ip] at h;exact oC h
   .rw[Ir] at h;exact SeqAt.EqAt.int_str i t y u _ _ _ _ h
  .rcases cg hv with ⟨j,u,rfl,rfl⟩|⟨y,u,rfl,rfl⟩
   .rw[Iu] at h;exact SeqAt.EqAt.str_int x t j u _ _ _ _ h
   .rw[Iq] at h;exact wpAny_eqBool_str h
 «strs»:=fun k x t v h=>by
  rcases cg h with ⟨i,u,rfl,e⟩|⟨y,u,rfl,e⟩
  .exact nomatch e
  .injection e with e1 _
   subst e1
   cases v <;> rfl
inductive V where
 |bp|bl (b:Bool)|int (i:Int)|str (x:Str)|AW (b:Array UInt8)|Iv (b:UInt64)|ref (a:Addr)|ty (n:String)
 deriving DecidableEq
def bj:V->Value->Prop
 |.bp,u=>u=Value.none
 |.bl b,u=>u=Value.bool b
 |.int i,u=>∃t,u=Value.int i t
 |.str x,u=>∃t,u=Value.str x t
 |.AW b,u=>∃t,u=Value.bytes b t
 |.Iv b,u=>∃t,u=Value.float b t
 |.ref a,u=>u=Value.ref a
 |.ty n,u=>u=Value.type n
abbrev aP:List V->List Value->Prop:=Paired bj
theorem aP.length(r:aP xs us):xs.length=us.length:=Paired.length r
theorem aP.get:∀ {xs:List V} {us:List Value} {i:Nat} {x:V},aP xs us->xs[i]?=some x->∃u,us[i]?=some u/\bj x u
 |_,_,_,_,.nil,e=>by simp at e
 |_,_,0,_,.cons r _,e=>by simp at e;subst e;exact⟨_,rfl,r⟩
 |_,_,i+1,x,.cons _ t,e=>by
  obtain⟨u,h1,h2⟩:=aP.get (i:=i) (x:=x) t (by simpa using e);exact⟨u,by simpa using h1,h2⟩
theorem aP.set(r:bj x u):∀ {xs:List V} {us:List Value} (i:Nat),aP xs us->aP (xs.set i x) (us.set i u)
 |_,_,_,.nil=>.nil
 |_,_,0,.cons _ t=>.cons r t
 |_,_,i+1,.cons q t=>.cons q (aP.set r i t)
theorem aP.append:∀ {xs ys:List V} {us ws:List Value},aP xs us->aP ys ws->aP (xs++ys) (us++ws)
 |_,_,_,_,.nil,s=>s
 |_,_,_,_,.cons r t,s=>.cons r (aP.append t s)
theorem aP.take:∀ {xs:List V} {us:List Value} (n:Nat),aP xs us->aP (xs.take n) (us.take n)
 |_,_,0,_=>.nil
 |_,_,_+1,.nil=>.nil
 |_,_,n+1,.cons r t=>.cons r (aP.take n t)
theorem aP.drop:∀ {xs:List V} {us:List Value} (n:Nat),aP xs us->aP (xs.drop n) (us.drop n)
 |_,_,0,r=>r
 |_,_,_+1,.nil=>.nil
 |_,_,n+1,.cons _ t=>aP.drop n t
def pP:Option V->Option Value->Prop
 |some v,some u=>bj v u
 |none,none=>True
 |_,_=>False
def KV{κ:Type}:List (κ×V)->List (κ×Value)->Prop:=Paired fun (p:κ×V) (q:κ×Value)=>p.1=q.1/\bj p.2 q.2
def kV:pO->V
 |.inl i=>.int i
 |.inr x=>.str x
inductive HO where
 |lst (xs:List V)
 |tup (xs:List V)
 |dK (kG:List (pO×V))|dT (kG:List (List pO×V))
 |set (S:Int->Bool) (n:Nat)
 |ins (C dx:Addr) (fs:List (Str×V))
 |own (x:Addr)
 |xd (fs:List (Str×V))
 |met (f x:Addr)
 |EF (lo hi:Int)
 |qf (o:Obj) (u:HO)
 |mH (ps:Array Value)
 |ext (φ:Heap->Prop)
abbrev Hp:=Addr->Option HO
def upd(H:Hp)(a:Addr)(o:HO):Hp:=fun b=>if b=a then some o else H b
theorem ah:upd H a o a=some o:=by unfold upd;rw[ak rfl]
theorem ao(h:b≠a):upd H a o b=H b:=by unfold upd;rw[al h]
theorem nJ:upd (upd H a o) a u=upd H a u:=by
 funext b;unfold upd;split <;> rfl
theorem d_{H:Hp}{a b:Addr}{o u:HO}(h:H a=some o)(h':H b=some u)(d:o≠u):a≠b:=by
 intro e;subst e;rw[h] at h';exact d (bi h')
theorem aq{H:Hp}{a b:Addr}{o:HO}(h:H a=some o)(h':H b=none):a≠b:=by
 intro e;subst e;rw[h] at h';cases h'
section
variable (P:Program) (w:World)
def j5(h:Heap)(a:Addr)(items:Array Value):Prop:=∃o,h.get? a=some o/\o.cls=.type "tuple"/\∃n,o.data=.seq items n/\o.dict=none
theorem j5.tup(p:j5 h a items):IsTup h a items:=let ⟨o,e,c,n,d,_⟩:=p;⟨o,e,c,n,d⟩
theorem j5.new(h:Heap)(items:Array Value):j5 (h.push { cls:=.type "tuple",data:=.seq items }) h.objs.size items:=⟨_,cI _ rfl,rfl,_,rfl,rfl⟩
def ci(H:Hp)(h:Heap)(a:Addr):HO->Prop
 |.lst xs=>xs.length<=sizeLine/\∃ (its:List Value) (n:Nat),aP xs its/\h.get? a=some { cls:=.type "list",data:=.seq its.toArray n }
 |.tup xs=>xs.length<=sizeLine/\∃its:List Value,aP xs its/\j5 h a its.toArray
 |.dK kG=>kG.length<=sizeLine/\(a==sysModules)=false/\∃vs,KV kG vs/\h.DictOf (yi P w) a vs
 |.dT kG=>kG.length<=sizeLine/\(a==sysModules)=false/\∃xs:List (List pO×Addr×Value),
   Paired (fun (p:List pO×V) (q:List pO×Addr×Value)=>p.1=q.1/\H q.2.1=some (.tup (p.1.map kV))/\bj p.2 q.2.2) kG xs/\
   ∃o es ep,h.get? a=some o/\o.ExactDict/\o.data=.dict es ep/\es.toList=xs.map (entryOfKey (tupleKind (yi P w)))/\(xs.map (·.1)).Nodup
 |.set S n=>h.SetOf (intKind P w) a S n
 |.ins C dx fs=>H dx=some (.own a)/\fs.length<=1000/\dx≠a/\h.get? a=some (PySem.W.instObj C dx)/\
   ∃mA,h.Ns1 dx mA/\(∀f,pP (fs.lookup f) (mA f))/\PySem.Within mA (fs.map (·.1))
 |.own _=>∃o,h.get? a=some o
 |.xd fs=>∃mA,h.Ns1 a mA/\∀f,pP (fs.lookup f) (mA f)
 |.EF lo hi=>∃t u v,h.get? a=some { cls:=.type "range",data:=.fields #[.int lo t,.int hi u,.int 1 v] }
 |.qf o u=>h.get? a=some o/\ci H h a u
 |.mH ps=>h.get? a=some { cls:=.none,data:=.fields ps }
 |.met f x=>h.get? a=some (PySem.W.methodObj (.ref f) (.ref x))
 |.ext φ=>φ h/\(∃o,h.get? a=some o)/\∀h1 h2:Heap,φ h1->(∀o,h1.get? a=some o->h2.get? a=some o)->φ h2
def j6(H:Hp)(h:Heap):Prop:=∀a o,H a=some o->ci P w H h a o
end
section
variable {P:Program} {w:World} {H H':Hp} {h h':Heap} {a:Addr} {o:HO}
theorem ci.lt(x:ci P w H h a o):a<h.objs.size:=by
 cases o with
 |lst xs=>obtain⟨_,_,_,_,e⟩:=x;exact aU e
 |tup xs=>obtain⟨_,_,_,p⟩:=x;exact p.tup.lt
 |dK kG=>obtain⟨_,_,_,_,o,_,_,e,_⟩:=x;exact aU e
 |dT kG=>obtain⟨_,_,_,_,o,_,_,e,_⟩:=x;exact aU e
 |set S n=>obtain⟨o,_,_,_,e,_⟩:=x;exact aU e
 |ins C dx fs=>obtain⟨_,_,_,e,_⟩:=x;exact aU e
 |own y=>obtain⟨_,e⟩:=x;exact aU e
 |xd fs=>obtain⟨_,⟨_,_,_,e,_⟩,_⟩:=x;exact aU e
 |EF lo hi=>obtain⟨_,_,_,e⟩:=x;exact aU e
 |qf ob u=>obtain⟨e,_⟩:=x;exact aU e
 |mH ps=>exact aU (show h.get? a=some _ from x)
 |met f y=>exact aU (show h.get? a=some _ from x)
 |ext φ=>obtain⟨_,⟨_,e⟩,_⟩:=x;exact aU e
theorem Paired.LH:∀ {l₁:List α} {l₂:List β},Paired F l₁ l₂->(∀a b,F a b->G a b)->Paired G l₁ l₂
 |_,_,.nil,_=>.nil
 |_,_,.cons r t,f=>.cons (f _ _ r) (Paired.LH t f)
theorem ci.m5(x:ci P w H h a o)(k:∀b u,(b=a\/H b=some (.own a))->h.get? b=some u->h'.get? b=some u)(ho:∀b,H b=some (.own a)->H' b=some (.own a))(ht:∀b xs,H b=some (.tup xs)->H' b=some (.tup xs)):ci P w H' h' a o:=by
 induction o with
 |lst xs=>obtain⟨z,its,n,r,e⟩:=x;exact⟨z,its,n,r,k _ _ (.inl rfl) e⟩
 |tup xs=>obtain⟨z,its,r,ob,e,c⟩:=x;exact⟨z,its,r,ob,k _ _ (.inl rfl) e,c⟩
 |dK kG=>obtain⟨z,y,vs,r,ob,es,ep,e,c⟩:=x;exact⟨z,y,vs,r,ob,es,ep,k _ _ (.inl rfl) e,c⟩
 |dT kG=>
  obtain⟨z,y,xs,r,ob,es,ep,e,c⟩:=x;exact⟨z,y,xs,Paired.LH r fun p q z=>⟨z.1,ht _ _ z.2.1,z.2.2⟩,ob,es,ep,k _ _ (.inl rfl) e,c⟩
 |set S n=>obtain⟨ob,es,ep,t,e,c⟩:=x;exact⟨ob,es,ep,t,k _ _ (.inl rfl) e,c⟩
 |ins C dx fs=>
  obtain⟨d,z,ne,e,mA,⟨od,es,ep,e2,c⟩,r⟩:=x;exact⟨ho _ d,z,ne,k _ _ (.inl rfl) e,mA,⟨od,es,ep,k _ _ (.inr d) e2,c⟩,r⟩
 |own y=>obtain⟨ob,e⟩:=x;exact⟨ob,k _ _ (.inl rfl) e⟩
 |xd fs=>obtain⟨mA,⟨od,es,ep,e,c⟩,r⟩:=x;exact⟨mA,⟨od,es,ep,k _ _ (.inl rfl) e,c⟩,r⟩
 |EF lo hi=>obtain⟨t,u,v,e⟩:=x;exact⟨t,u,v,k _ _ (.inl rfl) e⟩
 |qf ob u ih=>obtain⟨e,q⟩:=x;exact⟨k _ _ (.inl rfl) e,ih q⟩
 |mH ps=>
  have e:h.get? a=some { cls:=.none,data:=.fields ps }:=x;show h'.get? a=some { cls:=.none,data:=.fields ps };exact k a _ (.inl rfl) e
 |met f y=>
  have e:h.get? a=some (PySem.W.methodObj (.ref f) (.ref y)):=x;show h'.get? a=some (PySem.W.methodObj (.ref f) (.ref y));exact k a _ (.inl rfl) e
 |ext φ=>obtain⟨p,⟨o,e⟩,st⟩:=x;exact⟨st _ _ p fun o q=>k _ _ (.inl rfl) q,⟨o,k _ _ (.inl rfl) e⟩,st⟩
theorem j6.lt(x:j6 P w H h)(e:H a=some o):a<h.objs.size:=(x a o e).lt
theorem j6.fresh(x:j6 P w H h)(e:h.objs.size<=a):H a=none:=by
 cases q:H a with
 |none=>rfl
 |some u=>exact absurd (cG (x.lt q) e) (gq _)
theorem j6.kept(x:j6 P w H h)(k:∀b u,h.get? b=some u->h'.get? b=some u):j6 P w H h':=fun a o e=>
 (x a o e).m5 (fun b u _ q=>k b u q) (fun _ q=>q) fun _ _ q=>q
theorem j6.laid(x:j6 P w H h)(k:∀b u,h.get? b=some u->h'.get? b=some u)(hp:h.objs.size<=a)(new:ci P w (upd H a o) h' a o):j6 P w (upd H a o) h':=fun b u e=>by
 have hn:=x.fresh hp;by_cases hb:b=a
 .subst hb;rw[ah] at e;cases e;exact new
 .rw[ao hb] at e;exact(x b u e).m5 (fun c v _ q=>k c v q) (fun c q=>by rw[ao (aq q hn)];exact q) fun c xs q=>by rw[ao (aq q hn)];exact q
end
def Rd(H:Hp)(a:Addr)(u:HO):Prop:=H a=some u\/∃o,H a=some (.qf o u)
theorem Rd.ok(r:Rd H a u)(x:j6 P w H h):ci P w H h a u:=by
 rcases r with r|⟨o,r⟩
 .exact x a u r
 .obtain⟨_,q⟩:=x a _ r;exact q
def Pd:Option HO->Prop
 |some (.lst _)=>True
 |some (.dK _)=>True
 |some (.dT _)=>True
 |some (.set _ _)=>True
 |some (.ins _ _ _)=>True
 |some (.ext _)=>True
 |_=>False
section
variable {P:Program} {w:World} {H:Hp} {h h':Heap} {x e:Addr} {o':HO}
theorem j6.write(ok:j6 P w H h)(mu:Pd (H x))(he:e=x\/H e=some (.own x))(k:∀b u,b≠e->h.get? b=some u->h'.get? b=some u)(Lb:∃u,h'.get? e=some u)(new:ci P w (upd H x o') h' x o'):j6 P w (upd H x o') h':=fun b u q=>by
 have LI:∀c y,H c=some (.own y)->c≠x:=fun c y r z=>by subst z;rw[r] at mu;exact mu
 have Qh:∀c xs,H c=some (.tup xs)->c≠x:=fun c xs r z=>by subst z;rw[r] at mu;exact mu
 by_cases hb:b=x
 .subst hb;rw[ah] at q;cases q;exact new
 .rw[ao hb] at q;by_cases EG:b=e
  .have q':H b=some (.own x):=by
    rcases he with z|z
    .exact absurd (EG.trans z) hb
    .rw[EG];exact z
   rw[q] at q';cases q';obtain⟨v,hv⟩:=Lb;exact⟨v,by rw[EG];exact hv⟩
  .refine(ok b u q).m5 (fun c v hc r=>k c v ?_ r) (fun c r=>by rw[ao (LI c b r)];exact r) fun c xs r=>by rw[ao (Qh c xs r)];exact r
   rcases hc with rfl|hc
   .exact EG
   .rintro rfl;rcases he with z|z
    .exact LI c b hc z
    .rw[hc] at z;cases z;exact hb rfl
end
structure Un(fs ex:List Addr)(H H':Hp)(h h':Heap):Prop where
 keep:∀b o,h.get? b=some o->H b=none->b∉fs->b∉ex->h'.get? b=some o
 slot:∀b o,h.get? b=some o->H b=none->b∈fs->b∉ex->∃sl,h'.get? b=some { o with slots:=sl }
 free:∀b o,h.get? b=some o->H b=none->b∉ex->H' b=none
 there:∀b o,h.get? b=some o->b∉ex->∃o',h'.get? b=some o'
 gK:∀b xs,H b=some (.tup xs)->H' b=some (.tup xs)
 iM:∀b o u,H b=some (.qf o u)->H' b=some (.qf o u)
 jx:∀b ps,H b=some (.mH ps)->∃more,H' b=some (.mH (ps++more))
section
variable {fs WD ex ZS:List Addr} {H H1 H2:Hp} {h h1 h2 h':Heap} {a x e:Addr} {o:HO}
theorem Un.any(u:Un fs ex H H1 h h1)(q:h.get? b=some ob)(n:H b=none)(hx:b∉ex):∃sl,h1.get? b=some { ob with slots:=sl }:=by
 by_cases hb:b∈fs
 .exact u.slot b ob q n hb hx
 .exact⟨ob.slots,u.keep b ob q n hb hx⟩
theorem Un.kept(k:∀b u,h.get? b=some u->h'.get? b=some u):Un fs ex H H h h':=
 ⟨fun b ob q _ _ _=>k b ob q,fun b ob q _ _ _=>⟨ob.slots,k b ob q⟩,fun _ _ _ n _=>n,fun b ob q _=>⟨ob,k b ob q⟩,fun _ _ q=>q,fun _ _ _ q=>q,fun _ ps q=>⟨#[],by rw[q];simp⟩⟩
theorem Un.refl:Un fs ex H H h h:=Un.kept fun _ _ q=>q
theorem Un.laid(k:∀b u,h.get? b=some u->h'.get? b=some u)(hp:h.objs.size<=a)(hn:H a=none):Un fs ex H (upd H a o) h h' where
 keep:=fun b u q _ _ _=>k b u q
 slot:=fun b u q _ _ _=>⟨u.slots,k b u q⟩
 free:=fun b u q n _=>by rw[ao (aY (cG (aU q) hp))];exact n
 there:=fun b u q _=>⟨u,k b u q⟩
 gK:=fun b xs q=>by rw[ao (aq q hn)];exact q
 iM:=fun b u xs q=>by rw[ao (aq q hn)];exact q
 jx:=fun b ps q=>⟨#[],by rw[ao (aq q hn),q];simp⟩
theorem Un.write(mu:Pd (H x))(he:e=x\/H e=some (.own x))(k:∀b u,b≠e->h.get? b=some u->h'.get? b=some u)(Lb:∃u,h'.get? e=some u):Un fs ex H (upd H x o) h h':=by
 have hx:∀b,H b=none->b≠x:=fun b n z=>by subst z;rw[n] at mu;exact mu
 have hb:∀b,H b=none->b≠e:=fun b n z=>by
  subst z;rcases he with r|r
  .exact hx b n r
  .rw[n] at r;cases r
 have hm:∀b u,H b=some u->¬ Pd (some u)->b≠x:=fun b u q nm z=>by subst z;rw[q] at mu;exact nm mu
 refine⟨fun b u q n _ _=>k b u (hb b n) q,fun b u q n _ _=>⟨u.slots,k b u (hb b n) q⟩,fun b u q n _=>by rw[ao (hx b n)];exact n,fun b u q _=>?_,
  fun b xs q=>by rw[ao (hm b _ q fun z=>z)];exact q,fun b u xs q=>by rw[ao (hm b _ q fun z=>z)];exact q,fun b ps q=>⟨#[],by rw[ao (hm b _ q fun z=>z),q];simp⟩⟩
 by_cases EG:b=e
 .subst EG;exact Lb
 .exact⟨u,k b u EG q⟩
end
def Pe(h:Heap)(H:Hp):List Addr:=(List.range h.objs.size).filter fun a=>(H a).isSome
def pQ(h:Heap)(H:Hp):Heap:=PySem.W.hideAll h (Pe h H)
theorem zD(h:Heap)(H:Hp):(pQ h H).objs.size=h.objs.size:=PySem.W.hideAll_size _ _
theorem Bp(e:h.get? b=some o)(n:H b=none):(pQ h H).get? b=some o:=
 rC _ e fun hm=>by
  have q:(H b).isSome=true:=(du.mp hm).2;rw[n] at q;simp at q
theorem EV(e:(pQ h H).get? b=some o):h.get? b=some o/\H b=none:=by
 have e':h.get? b=some o:=PySem.W.of_hideAll (Pe h H) e;refine⟨e',?_⟩;cases q:H b with
 |none=>rfl
 |some x=>
  have hm:b∈Pe h H:=du.mpr ⟨cR.mpr (aU e'),by simp[q]⟩;have z:(pQ h H).get? b=none:=PySem.W.hideAll_none (Pe h H) hm;rw[z] at e;cases e
def gN(g h:Heap)(L:Addr):List (Addr×Obj):=(List.range h.objs.size).filterMap fun a=>if a=L\/(g.get? a).isSome=true then none else (h.get? a).map fun o=>(a,o)
theorem iN(h1:a≠L)(h2:g.get? a=none)(h3:h.get? a=some o):(a,o)∈gN g h L:=
 jP.mpr ⟨a,cR.mpr (aU h3),by simp[h1,h2,h3]⟩
theorem oM(hp:p∈gN g h L):p.1≠L/\g.get? p.1=none/\h.get? p.1=some p.2:=by
 obtain⟨b,_,e⟩:=jP.mp hp;split at e
 .cases e
 .rename_i hn;cases q:h.get? b with
  |none=>rw[q] at e;simp at e
  |some u=>
   rw[q] at e;simp only[Option.map_some,Option.some.injEq] at e;subst e;refine⟨fun z=>hn (.inl z),?_,q⟩;show g.get? b=none;cases r:g.get? b with
   |none=>rfl
   |some v=>exact(hn (.inr (by simp[r]))).elim
theorem Bq:News g L h (gN g h L):=fun p hp=>let ⟨a,b,c⟩:=oM hp;⟨c,a,b⟩
structure Mod(K:PySem.W.Frag)(mg:Str->Option Value)(base:Heap):Prop where
 EH:K.In base
 glob:base.Ns mainGlobals mg
 blt:∃mb,base.Ns builtinsNs mb/\∀x:Str,x≠"__name__"->mb x=bootBuiltins x
 nolimit:base.NoLimit
structure Cx where
 prog:Program
 w:World
 K:PySem.W.Frag
 mg:Str->Option Value
 base:Heap
 A:Around
 N:List Str
 s₀:Shared
 H₀:Hp
 env:Env
 outer:List Env
 stack:List Env
 ex:List Addr
 fn:Str->Bool
 calm:Bool
 pn:List (Addr×Obj)
 xe:Value->Shared->Prop
def jB(l:List Env):List Addr:=l.filterMap (·.frame)
abbrev Cx.fs(X:Cx):List Addr:=jB X.outer
def Lc(sc:Scope)(x:Str):Prop:=sc.names.lookup x=some .local\/sc.names.lookup x=some .cell\/sc.names.lookup x=some .free
def LJ(sc:Scope)(x:Str):Prop:=sc.names.lookup x=some .local\/sc.names.lookup x=some .cell
def Qi(env:Env)(h:Heap)(m:Str->Option Value)(x:Str)(u:Value):Prop:=
 (env.kindOf x=some .local/\m x=some u)\/((env.kindOf x=some .cell\/env.kindOf x=some .free)/\∃c,env.cells.lookup x=some c/\h.IsCell c (some u))
structure Cx.Ok(X:Cx):Prop where
 mod:Mod X.K X.mg X.base
 kind:X.env.scope.kind=.function
 glob:X.env.globals=mainGlobals
 blt:X.env.builtins=builtinsNs
 above:X.s₀.heap.objs.size<=X.env.locals
 inj:∀x y c,X.env.cells.lookup x=some c->X.env.cells.lookup y=some c->x=y
 has:∀x,(X.env.kindOf x=some .cell\/X.env.kindOf x=some .free)->∃c,X.env.cells.lookup x=some c
 Iw:∀x c,X.fn x=true->X.env.cells.lookup x=some c->X.s₀.heap.objs.size<=c
 hd:X.calm=true->X.A.handled=none
 frames:X.A.frames=some X.stack
 AX:X.stack=X.outer\/(X.stack=X.env::X.outer/\X.env.frame=some X.env.locals)
 LK:∀b∈X.ex,b≠X.env.locals/\∀x c,X.env.cells.lookup x=some c->c≠b
 bs:∀b o,X.base.get? b=some o->X.s₀.heap.get? b=some o/\X.H₀ b=none
 yj:X.base.objs.size<=X.s₀.heap.objs.size
 lO:∀b o,X.base.get? b=some o->b∉X.ex
 zE:∀b∈X.ex,b∉X.fs
 iO:X.s₀.heap.FunFrames X.base X.outer
 AY:∀b∈X.fs,X.H₀ b=none
structure aD(X:Cx)(ae:List (Addr×Obj))(σ:List (Option V))(H:Hp)(s:Shared):Prop where
 ok:X.Ok
 os:s.os=X.s₀.os
 bare:AllBare s.gens
 base:Un X.fs X.ex X.H₀ H X.s₀.heap s.heap
 loc:∃m,s.heap.Ns X.env.locals m/\∀ (i:Nat) (x:Str) (v:V),X.N[i]?=some x->σ[i]?=some (some v)->Lc X.env.scope x->∃u,bj v u/\Qi X.env s.heap m x u
 cell:∀x c,X.env.cells.lookup x=some c->∃v,s.heap.IsCell c v
 free:H X.env.locals=none
 fg:∀x c,X.env.cells.lookup x=some c->H c=none
 pin:∀p∈X.pn++ae,s.heap.get? p.1=some p.2/\H p.1=none/\p.1≠X.env.locals/\p.1∉X.fs/\∀v,p.2.data≠.cell v
 br:j6 X.prog X.w H s.heap
 len:σ.length=X.N.length
section
variable {X:Cx} {ae:List (Addr×Obj)} {σ:List (Option V)} {H H':Hp} {s:Shared} {h':Heap}
theorem Cx.Ok.Qj(ok:X.Ok)(e:X.base.get? b=some o):b∉X.fs:=fun hb=>by
 have:=(ok.iO.mem hb).1;rw[e] at this;cases this
theorem aD.bs(I:aD X ae σ H s):∀b o,X.base.get? b=some o->s.heap.get? b=some o/\H b=none:=fun b o e=>
 ⟨I.base.keep b o (I.ok.bs b o e).1 (I.ok.bs b o e).2 (I.ok.Qj e) (I.ok.lO b o e),I.base.free b o (I.ok.bs b o e).1 (I.ok.bs b o e).2 (I.ok.lO b o e)⟩
theorem aD.bk(I:aD X ae σ H s):∀b o,X.base.get? b=some o->s.heap.get? b=some o:=fun b o e=>(I.bs b o e).1
theorem aD.mod(I:aD X ae σ H s):Mod X.K X.mg X.base:=I.ok.mod
theorem aD.j7(I:aD X ae σ H s):X.K.In s.heap:=I.ok.mod.EH.keeps I.bk
theorem aD.nolimit(I:aD X ae σ H s):s.heap.NoLimit:=I.ok.mod.nolimit.keeps I.bk
theorem aD.fr(I:aD X ae σ H s):∃m,Fr X.base X.env.locals s.heap m:=
 let ⟨m,hn,_⟩:=I.loc
 ⟨m,hn,I.bk,bf I.ok.yj I.ok.above⟩
theorem aD.lt(I:aD X ae σ H s):X.env.locals<s.heap.objs.size:=let ⟨_,hn,_⟩:=I.loc;hn.lt
theorem aD.sz(I:aD X ae σ H s):X.s₀.heap.objs.size<=s.heap.objs.size:=bf I.ok.above (ii I.lt)
theorem aD.Qk(I:aD X ae σ H s)(h:s.heap.objs.size<=a):a∉X.fs:=fun hb=>by
 obtain⟨_,o,ho,_⟩:=I.ok.iO.mem hb;exact absurd (cG (aU ho) (bf I.sz h)) (gq _)
theorem aD.EW(I:aD X ae σ H s):∀x c,X.env.cells.lookup x=some c->c≠X.env.locals:=fun x c e z=>by
 obtain⟨v,o,ho,hd⟩:=I.cell x c e;obtain⟨m,⟨o',es,ep,qg,Br,_⟩,_⟩:=I.loc;rw[z,qg] at ho;cases ho;rw[Br] at hd;cases hd
theorem aD.iO(I:aD X ae σ H s):s.heap.FunFrames X.base X.outer:=by
 have all:∀ (l:List Env),(∀b∈jB l,b∈X.fs)->X.s₀.heap.FunFrames X.base l->s.heap.FunFrames X.base l:=by
  intro l;induction l with
  |nil=>intro _ _;trivial
  |cons env r ih=>
   intro hs hl;obtain⟨hk,⟨L,o,hf,hn,ho,hd⟩,hr⟩:=hl;have hL:L∈X.fs:=hs L (by unfold jB;rw[wn,hf];exact bC);obtain⟨sl,e⟩:=I.base.slot L o ho (I.ok.AY L hL) hL fun z=>I.ok.zE L z hL;exact⟨hk,⟨L,_,hf,hn,e,hd⟩,ih (fun b hb=>hs b (by unfold jB;rw[wn,hf];exact bz _ hb)) hr⟩
 exact all X.outer (fun _ hb=>hb) I.ok.iO
theorem aD.stack(I:aD X ae σ H s):s.heap.FunFrames X.base X.stack:=by
 rcases I.ok.AX with e|⟨e,hf⟩
 .rw[e];exact I.iO
 .rw[e];obtain⟨m,hn,_⟩:=I.loc;refine .cons (by rw[I.ok.kind];decide) hf hn ?_ I.iO;exact rD (bf I.ok.yj I.ok.above)
theorem aD.se(I:aD X ae σ H s):∀b∈jB X.stack,b∈X.env.locals::X.fs:=fun b hb=>by
 rcases I.ok.AX with e|⟨e,hf⟩
 .rw[e] at hb;exact bz _ hb
 .rw[e] at hb;unfold jB at hb;rw[wn,hf] at hb;exact hb
theorem aD.nK(I:aD X ae σ H s):∀b∈jB X.stack,H b=none:=fun b hb=>by
 rcases bo.mp (I.se b hb) with e|hb
 .rw[e];exact I.free
 .obtain⟨_,o,ho,_⟩:=I.ok.iO.mem hb;exact I.base.free b o ho (I.ok.AY b hb) fun z=>I.ok.zE b z hb
theorem aD.step{g':Array GenState}{t':Nat}{d':Drawn}{ch:List Addr}(I:aD X ae σ H s)(uy:∀b∈ch,(b∈X.ex\/X.s₀.heap.objs.size<=b)/\b≠X.env.locals/\(∀x c,X.env.cells.lookup x=some c->c≠b)/\∀p∈X.pn++ae,p.1≠b)(keep:∀b o,b≠X.env.locals->b∉X.fs->b∉ch->s.heap.get? b=some o->H b=none->h'.get? b=some o)(slot:∀b o,b≠X.env.locals->b∈X.fs->b∉ch->s.heap.get? b=some o->H b=none->∃sl,h'.get? b=some { o with slots:=sl })(free:∀b o,b∉ch->s.heap.get? b=some o->H b=none->H' b=none)(there:∀b o,b∉ch->s.heap.get? b=some o->∃o',h'.get? b=some o')(gK:∀b xs,H b=some (.tup xs)->H' b=some (.tup xs))(iM:∀b o u,H b=some (.qf o u)->H' b=some (.qf o u))(jx:∀b ps,H b=some (.mH ps)->∃more,H' b=some (.mH (ps++more)))(ns:∀m,s.heap.Ns X.env.locals m->h'.Ns X.env.locals m)(br:j6 X.prog X.w H' h')(hg:AllBare g'):
  aD X ae σ H' { s with heap:=h',gens:=g',drawn:=d',toks:=t' }:=by
 have U4:∀b o,X.s₀.heap.get? b=some o->b≠X.env.locals:=fun b o e=>aY (cG (aU e) I.ok.above);have Pf:∀b o,X.s₀.heap.get? b=some o->b∉X.ex->b∉ch:=fun b o e hx hb=>by
  rcases(uy b hb).1 with z|z
  .exact hx z
  .exact absurd (cG (aU e) z) (gq _)
 have Hg:∀x c,X.env.cells.lookup x=some c->∀v,s.heap.IsCell c v->h'.IsCell c v:=fun x c e v ⟨o,ho,hd⟩=>by
  have LL:c∉ch:=fun z=>(uy c z).2.2.1 x c e rfl;by_cases hc:c∈X.fs
  .obtain⟨sl,q⟩:=slot c o (I.EW x c e) hc LL ho (I.fg x c e);exact⟨_,q,hd⟩
  .exact⟨o,keep c o (I.EW x c e) hc LL ho (I.fg x c e),hd⟩
 refine⟨I.ok,I.os,hg,⟨fun b o e n hb hx=>?_,fun b o e n hb hx=>?_,fun b o e n hx=>?_,fun b o e hx=>?_,fun b xs e=>gK b xs (I.base.gK b xs e),fun b o xs e=>iM b o xs (I.base.iM b o xs e),fun b ps e=>?_⟩,?_,fun x c e=>?_,?_,fun x c e=>?_,fun p hp=>?_,br,I.len⟩
 .exact keep b o (U4 b o e) hb (Pf b o e hx) (I.base.keep b o e n hb hx) (I.base.free b o e n hx)
 .obtain⟨sl,e1⟩:=I.base.slot b o e n hb hx;obtain⟨Ql,e2⟩:=slot b _ (U4 b o e) hb (Pf b o e hx) e1 (I.base.free b o e n hx);exact⟨Ql,e2⟩
 .obtain⟨o',e1⟩:=I.base.there b o e hx;exact free b o' (Pf b o e hx) e1 (I.base.free b o e n hx)
 .obtain⟨o',e1⟩:=I.base.there b o e hx;exact there b o' (Pf b o e hx) e1
 .obtain⟨m1,e1⟩:=I.base.jx b ps e;obtain⟨m2,e2⟩:=jx b _ e1;exact⟨m1++m2,by rw[e2,Array.append_assoc]⟩
 .obtain⟨m,hn,hl⟩:=I.loc;refine⟨m,ns m hn,fun i x v e1 e2 e3=>?_⟩;obtain⟨u,r,l⟩:=hl i x v e1 e2 e3;refine⟨u,r,?_⟩;rcases l with l|⟨k,c,e,z⟩
  .exact .inl l
  .exact .inr ⟨k,c,e,Hg x c e _ z⟩
 .obtain⟨v,z⟩:=I.cell x c e;exact⟨v,Hg x c e v z⟩
 .obtain⟨m,⟨o,_,_,ho,_⟩,_⟩:=I.loc;exact free _ o (fun z=>(uy _ z).2.1 rfl) ho I.free
 .obtain⟨v,o,ho,hd⟩:=I.cell x c e;exact free c o (fun z=>(uy c z).2.2.1 x c e rfl) ho (I.fg x c e)
 .obtain⟨e,n,ne,nf,d⟩:=I.pin p hp;have LL:p.1∉ch:=fun z=>(uy p.1 z).2.2.2 p hp rfl;exact⟨keep p.1 p.2 ne nf LL e n,free p.1 p.2 LL e n,ne,nf,d⟩
theorem aD.un{t':Nat}(I:aD X ae σ H s)(u:Un X.fs [] H H' s.heap h')(br:j6 X.prog X.w H' h'):aD X ae σ H' { s with heap:=h',toks:=t' }:=by
 obtain⟨m,⟨o,es,ep,ho,r⟩,_⟩:=id I.loc;obtain⟨sl,hL⟩:=u.any ho I.free (by simp);exact I.step (g':=s.gens) (d':=s.drawn) (ch:=[]) (fun _ z=>nomatch z) (fun b o _ hb _ e n=>u.keep b o e n hb (by simp)) (fun b o _ hb _ e n=>u.slot b o e n hb (by simp)) (fun b o _ e n=>u.free b o e n (by simp)) (fun b o _ e=>u.there b o e (by simp)) u.gK u.iM u.jx (fun m' hm=>by
  obtain⟨o',vK,Pg,qg,r'⟩:=hm;rw[ho] at qg;cases qg;exact⟨_,vK,Pg,hL,r'⟩) br I.bare
theorem aD.call{g':Array GenState}{t':Nat}{d':Drawn}{ch:List Addr}(I:aD X ae σ H s)(u:Un (jB X.stack) ch H H' s.heap h')(br:j6 X.prog X.w H' h')(hg:AllBare g')(uy:∀b∈ch,(b∈X.ex\/X.s₀.heap.objs.size<=b)/\b≠X.env.locals/\(∀x c,X.env.cells.lookup x=some c->c≠b)/\∀p∈X.pn++ae,p.1≠b):
  aD X ae σ H' { s with heap:=h',gens:=g',drawn:=d',toks:=t' }:=by
 obtain⟨m,⟨o,es,ep,ho,r⟩,_⟩:=id I.loc;obtain⟨sl,hL⟩:=u.any ho I.free fun z=>(uy _ z).2.1 rfl;exact I.step (ch:=ch) uy (fun b o hL hb hc e n=>u.keep b o e n (fun z=>(bo.mp (I.se b z)).elim hL hb) hc) (fun b o _ _ hc e n=>u.any e n hc) (fun b o hc e n=>u.free b o e n hc) (fun b o hc e=>u.there b o e hc) u.gK u.iM u.jx (fun m' hm=>by
  obtain⟨o',vK,Pg,qg,r'⟩:=hm;rw[ho] at qg;cases qg;exact⟨_,vK,Pg,hL,r'⟩) br hg
theorem aD.turned{t':Nat}{it:Addr}(I:aD X ae σ H s)(k:∀b o,b≠it->s.heap.get? b=some o->h'.get? b=some o)(hn:H it=none)(hL:it≠X.env.locals)(h1:it∈X.ex\/X.s₀.heap.objs.size<=it)(h2:∀x c,X.env.cells.lookup x=some c->c≠it)(h3:∀p∈X.pn++ae,p.1≠it):aD X ae σ H { s with heap:=h',toks:=t' }:=by
 have U5:∀b u,H b=some u->b≠it:=fun b u e z=>by rw[z,hn] at e;cases e
 refine I.step (g':=s.gens) (d':=s.drawn) (ch:=[it]) (fun b hb=>?_) (fun b o _ _ hc e _=>k b o (fun z=>hc (by simp[z])) e) (fun b o _ _ hc e _=>⟨o.slots,k b o (fun z=>hc (by simp[z])) e⟩) (fun _ _ _ _ n=>n)
  (fun b o hc e=>⟨o,k b o (fun z=>hc (by simp[z])) e⟩) (fun _ _ e=>e) (fun _ _ _ e=>e) (fun b ps e=>⟨#[],by rw[e];simp⟩) (fun m hm=>?_) (fun b u e=>?_) I.bare
 .have e:b=it:=by simpa using hb
  subst e;exact⟨h1,hL,h2,h3⟩
 .obtain⟨o,es,ep,ho,r⟩:=hm;exact⟨o,es,ep,k _ o (cW hL) ho,r⟩
 .refine(I.br b u e).m5 (fun c v hc q=>k c v ?_ q) (fun _ q=>q) fun _ _ q=>q;rcases hc with z|z
  .rw[z];exact U5 b u e
  .exact U5 c _ z
theorem aD.tok(I:aD X ae σ H s)(t:Nat):aD X ae σ H { s with toks:=t }:=I.un (h':=s.heap) (t':=t) Un.refl I.br
theorem aD.kept(I:aD X ae σ H s)(k:∀b u,s.heap.get? b=some u->h'.get? b=some u):aD X ae σ H { s with heap:=h',toks:=t' }:=I.un (Un.kept k) (I.br.kept k)
theorem aD.laid(I:aD X ae σ H s)(k:∀b u,s.heap.get? b=some u->h'.get? b=some u)(hp:s.heap.objs.size<=a)(new:ci X.prog X.w (upd H a o) h' a o):
  aD X ae σ (upd H a o) { s with heap:=h',toks:=t' }:=I.un (Un.laid k hp (I.br.fresh hp)) (I.br.laid k hp new)
theorem aD.write(I:aD X ae σ H s)(mu:Pd (H x))(he:e=x\/H e=some (.own x))(k:∀b u,b≠e->s.heap.get? b=some u->h'.get? b=some u)(Lb:∃u,h'.get? e=some u)(new:ci X.prog X.w (upd H x o) h' x o):aD X ae σ (upd H x o) { s with heap:=h',toks:=t' }:=I.un (Un.write mu he k Lb) (I.br.write mu he k Lb new)
theorem aD.ji(I:aD X ae σ H s)(h:∀p∈pins',s.heap.get? p.1=some p.2/\H p.1=none/\p.1≠X.env.locals/\p.1∉X.fs/\∀v,p.2.data≠.cell v):aD X pins' σ H s:=
 ⟨I.ok,I.os,I.bare,I.base,I.loc,I.cell,I.free,I.fg,fun p hp=>(cQ.mp hp).elim (fun z=>I.pin p (fR _ z)) (h p),I.br,I.len⟩
theorem oN{N:List Str}(hN:N.Nodup){i j:Nat}{x:Str}(a:N[i]?=some x)(b:N[j]?=some x):i=j:=by
 obtain⟨h1,e1⟩:=cH.mp a;obtain⟨h2,e2⟩:=cH.mp b;exact(List.getElem_inj hN).mp (e1.trans e2.symm)
theorem jj{M:Model}{A:Around}{E:Value->Shared->Prop}{i:Nat}{x:Str}{v:V}{u:Value}{Q:Unit->Shared->Prop}(I:aD X ae σ H s)(hN:X.N.Nodup)(hi:X.N[i]?=some x)(hx:LJ X.env.scope x)(r:bj v u)(h:∀s',aD X ae (σ.set i (some v)) H s'->(∃a,Heap.SameBut a s.heap s'.heap/\(a=X.env.locals\/X.env.cells.lookup x=some a))->Q () s')(hf:X.fn x=true\/X.env.scope.names.lookup x=some .local:=by first|exact .inl rfl|exact .inr rfl|assumption):wpAny M A (storeName X.env x u) Q E s:=by
 obtain⟨m,hn,hl⟩:=id I.loc;have Ix:(X.env.scope.kind==.class||(X.env.scope.kind==.module&&X.env.locals != X.env.globals))=false:=by rw[I.ok.kind];rfl
 have hiσ:i<σ.length:=by rw[I.len];exact(cH.mp hi).1
 have EW:=I.EW;have yk:∀ {a:Addr} {h':Heap},(∃o,s.heap.get? a=some o/\H a=none)->Heap.SameBut a s.heap h'->j6 X.prog X.w H h':=fun {a h'} ha hs b ob e=>by
  obtain⟨_,_,Hh⟩:=ha;refine(I.br b ob e).m5 (fun c w' hc q=>(hs.2 c ?_).trans q) (fun _ q=>q) fun _ _ q=>q;rintro rfl;rcases hc with rfl|hc
  .rw[Hh] at e;cases e
  .rw[Hh] at hc;cases hc
 rcases hx with hk|hk
 .refine wpAny_storeName_local hk hn (fun h' Ld hs=>?_) Ix;obtain⟨oL,_,_,EX,_⟩:=id hn;refine h _ ⟨I.ok,I.os,I.bare,⟨fun b o e n hb hx=>?_,fun b o e n hb hx=>?_,I.base.free,fun b o e hx=>?_,I.base.gK,I.base.iM,I.base.jx⟩,⟨_,Ld,fun j y v' e1 e2 e3=>?_⟩,fun y c e=>?_,I.free,I.fg,fun p hp=>?_,yk ⟨oL,EX,I.free⟩ hs,by simpa using I.len⟩ ⟨_,hs,.inl rfl⟩
  .exact(hs.2 b (aY (cG (aU e) I.ok.above))).trans (I.base.keep b o e n hb hx)
  .obtain⟨sl,e1⟩:=I.base.slot b o e n hb hx;exact⟨sl,(hs.2 b (aY (cG (aU e) I.ok.above))).trans e1⟩
  .obtain⟨o',e1⟩:=I.base.there b o e hx;exact⟨o',(hs.2 b (aY (cG (aU e) I.ok.above))).trans e1⟩
  .by_cases hj:j=i
   .subst hj;rw[hi] at e1;cases e1;rw[mz hiσ] at e2;cases e2;exact⟨u,r,.inl ⟨hk,by simp⟩⟩
   .rw[jN (cW hj)] at e2;obtain⟨u',r',q⟩:=hl j y v' e1 e2 e3;refine⟨u',r',?_⟩;rcases q with ⟨k,e⟩|⟨k,c,e,z⟩
    .refine .inl ⟨k,?_⟩;have:y≠x:=fun e=>hj (oN hN e1 (e ▸ hi));simp[this,e]
    .exact .inr ⟨k,c,e,z.sameBut hs (EW y c e)⟩
  .obtain⟨w',z⟩:=I.cell y c e;exact⟨w',z.sameBut hs (EW y c e)⟩
  .obtain⟨e,n,ne,nf,d⟩:=I.pin p hp;exact⟨(hs.2 p.1 ne).trans e,n,ne,nf,d⟩
 .have Qm:X.fn x=true:=by
   rcases hf with z|z
   .exact z
   .rw[z] at hk;cases hk
  obtain⟨c,hc⟩:=I.ok.has x (.inl hk);obtain⟨w',z⟩:=I.cell x c hc;refine wpAny_storeName_cell I.ok.kind hk hc z (fun h' EY hs=>?_);obtain⟨oc,EI,Qn⟩:=id z;refine h { s with heap:=h' } ⟨I.ok,I.os,I.bare,⟨fun b o e n hb hx=>?_,fun b o e n hb hx=>?_,I.base.free,fun b o e hx=>?_,I.base.gK,I.base.iM,I.base.jx⟩,⟨m,hn.sameBut hs (cW (EW x c hc)),fun j y v' e1 e2 e3=>?_⟩,fun y c' e=>?_,I.free,I.fg,fun p hp=>?_,yk ⟨oc,EI,I.fg x c hc⟩ hs,by simpa using I.len⟩ ⟨c,hs,.inr hc⟩
  .exact(hs.2 b (aY (cG (aU e) (I.ok.Iw x c Qm hc)))).trans (I.base.keep b o e n hb hx)
  .obtain⟨sl,e1⟩:=I.base.slot b o e n hb hx;exact⟨sl,(hs.2 b (aY (cG (aU e) (I.ok.Iw x c Qm hc)))).trans e1⟩
  .obtain⟨o',e1⟩:=I.base.there b o e hx;exact⟨o',(hs.2 b (aY (cG (aU e) (I.ok.Iw x c Qm hc)))).trans e1⟩
  .by_cases hj:j=i
   .subst hj;rw[hi] at e1;cases e1;rw[mz hiσ] at e2;cases e2;exact⟨u,r,.inr ⟨.inl hk,c,hc,EY⟩⟩
   .rw[jN (cW hj)] at e2;obtain⟨u',r',q⟩:=hl j y v' e1 e2 e3;refine⟨u',r',?_⟩;rcases q with q|⟨k,c',e,z'⟩
    .exact .inl q
    .refine .inr ⟨k,c',e,z'.sameBut hs ?_⟩;rintro rfl;exact hj (oN hN e1 (I.ok.inj _ _ _ e hc ▸ hi))
  .by_cases U6:c'=c
   .subst U6;exact⟨_,EY⟩
   .obtain⟨w2,z2⟩:=I.cell y c' e;exact⟨w2,z2.sameBut hs U6⟩
  .obtain⟨e,n,ne,nf,d⟩:=I.pin p hp;refine⟨(hs.2 p.1 ?_).trans e,n,ne,nf,d⟩;intro q;rw[q,EI] at e;have q':oc=p.2:=bi e;exact d w' (by rw[<-q'];exact Qn)
theorem iP(I:aD X ae σ H s)(hN:X.N.Nodup)(hi:X.N[i]?=some x)(hx:LJ X.env.scope x)(r:bj v u)(h:∀s',aD X ae (σ.set i (some v)) H s'->Q () s')(hf:X.fn x=true\/X.env.scope.names.lookup x=some .local:=by first|exact .inl rfl|exact .inr rfl|assumption):wpAny M A (storeName X.env x u) Q E s:=
 jj I hN hi hx r (fun s' I' _=>h s' I') hf
theorem aD.Bu(I:aD X ae σ H s)(ho:s'.os=s.os)(u:Un (jB X.stack) ch H H' s.heap s'.heap)(br:j6 X.prog X.w H' s'.heap)(hg:AllBare s'.gens)(uy:∀b∈ch,(b∈X.ex\/X.s₀.heap.objs.size<=b)/\b≠X.env.locals/\(∀x c,X.env.cells.lookup x=some c->c≠b)/\∀p∈X.pn++ae,p.1≠b):aD X ae σ H' s':=by
 obtain⟨h',g',d',t',o'⟩:=s';have e:o'=s.os:=ho;subst e;exact I.call (g':=g') (t':=t') (d':=d') u br hg uy
end
abbrev XK:=Value->Option Addr->Hp->Prop
abbrev St:=List (Option V)
abbrev VK:=V->Hp->Prop
abbrev TE:=St->Hp->VK->Prop
abbrev TT:=St->Hp->(Bool->Hp->Prop)->Prop
abbrev TA:=St->Hp->(List V->Hp->Prop)->Prop
structure uz where
 nx:St->Hp->Prop
 rt:VK
 bk:St->Hp->Prop:=fun _ _=>False
 ct:St->Hp->Prop:=fun _ _=>False
abbrev TS:=uz->St->Hp->Prop
def EP(X:Cx)(ae:List (Addr×Obj))(σ:St)(Q:VK)(u:Value)(s':Shared):Prop:=∃v H',aD X ae σ H' s'/\bj v u/\Q v H'
def TP(X:Cx)(ae:List (Addr×Obj))(σ:St)(Q:Bool->Hp->Prop)(b:Bool)(s':Shared):Prop:=∃H',aD X ae σ H' s'/\Q b H'
def AP(X:Cx)(ae:List (Addr×Obj))(σ:St)(Q:List V->Hp->Prop)(us:List Value)(s':Shared):Prop:=∃vs H',aD X ae σ H' s'/\aP vs us/\Q vs H'
def SP(X:Cx)(ae:List (Addr×Obj))(D:uz)(f:Flow)(s':Shared):Prop:=
 match f with
 |.next=>∃σ' H',aD X ae σ' H' s'/\D.nx σ' H'
 |.brk=>∃σ' H',aD X ae σ' H' s'/\D.bk σ' H'
 |.cont=>∃σ' H',aD X ae σ' H' s'/\D.ct σ' H'
 |.ret u=>∃v σ' H',aD X ae σ' H' s'/\bj v u/\D.rt v H'
def PE(X:Cx)(e:Expr)(t:TE):Prop:=
 ∀ (ae:List (Addr×Obj)) (s:Shared) (σ:St) (H:Hp) (Q:VK),aD X ae σ H s->t σ H Q->wpAny (model X.prog X.w) X.A (eval e X.env) (EP X ae σ Q) X.xe s
def PT(X:Cx)(e:Expr)(t:TT):Prop:=
 ∀ (ae:List (Addr×Obj)) (s:Shared) (σ:St) (H:Hp) (Q:Bool->Hp->Prop),aD X ae σ H s->t σ H Q->wpAny (model X.prog X.w) X.A (isTrue e X.env (eval e X.env)) (TP X ae σ Q) X.xe s
def PW(X:Cx)(e:Expr)(t:TT):Prop:=
 ∀ (ym:Sem Value) (ae:List (Addr×Obj)) (s:Shared) (σ:St) (H:Hp) (Q:Bool->Hp->Prop),aD X ae σ H s->t σ H Q->wpAny (model X.prog X.w) X.A (isTrue e X.env ym) (TP X ae σ Q) X.xe s
theorem PW.pt(h:PW X e t):PT X e t:=h _
def PA(X:Cx)(es:List Expr)(t:TA):Prop:=
 ∀ (pos:Pos) (ae:List (Addr×Obj)) (s:Shared) (σ:St) (H:Hp) (Q:List V->Hp->Prop),aD X ae σ H s->t σ H Q->wpAny (model X.prog X.w) X.A (spliced (backTo pos (starEach es X.env))) (AP X ae σ Q) X.xe s
def PS(X:Cx)(st:Stmt)(t:TS):Prop:=
 ∀ (ae:List (Addr×Obj)) (s:Shared) (σ:St) (H:Hp) (D:uz),aD X ae σ H s->t D σ H->wpAny (model X.prog X.w) X.A (exec st X.env) (SP X ae D) X.xe s
def pK(X:Cx)(st:List Stmt)(t:TS):Prop:=
 ∀ (ae:List (Addr×Obj)) (s:Shared) (σ:St) (H:Hp) (D:uz),aD X ae σ H s->t D σ H->wpAny (model X.prog X.w) X.A (execs st X.env) (SP X ae D) X.xe s
theorem bZ(h:wpAny M A t Q E s)(hQ:∀a s,Q a s->Q' a s):wpAny M A t Q' E s:=eQ h hQ fun _ _ x=>x
section
variable {X:Cx}
def a8(i:Nat):TE:=fun σ H Q=>∃v,σ[i]?=some (some v)/\Q v H
def tC(v:V):TE:=fun _ H Q=>Q v H
theorem Iy(hN:X.N[i]?=some x)(hv:Lc X.env.scope x)(hd:(x==("__debug__":Str))=false:=by decide)(mI:(x==("__classdict__":Str))=false:=by decide):PE X (.Name x pos) (a8 i):=by
 intro ae s σ H Q I h;obtain⟨v,e,h⟩:=h;obtain⟨m,hn,hl⟩:=I.loc;obtain⟨u,r,l⟩:=hl i x v hN e hv;have dN:EP X ae σ Q u s:=⟨v,H,I,r,h⟩
 rcases l with ⟨hk,hm⟩|⟨hk,c,hc,yn⟩
 .exact lN (wv I.ok.kind hk hn hm dN) hd
 .rcases hk with hk|hk
  .exact lN (wpAny_loadName_cell I.ok.kind hk hc yn dN) hd
  .exact lN (wF I.ok.kind hk hc yn dN mI) hd
theorem aB{i j pos}:PE X (.Constant (.int i) j pos) (tC (.int i)):=fun _ _ _ H _ I h=>wpAny_Constant_int ⟨.int i,H,I.tok _,⟨_,rfl⟩,h⟩
theorem fV{b j pos}:PE X (.Constant (.bool b) j pos) (tC (.bl b)):=fun _ _ _ H _ I h=>Constant_bool ⟨.bl b,H,I,rfl,h⟩
theorem bV{j pos}:PE X (.Constant .none j pos) (tC .bp):=fun _ _ _ H _ I h=>Constant_none ⟨.bp,H,I,rfl,h⟩
theorem lP{x j pos}:PE X (.Constant (.str x) j pos) (tC (.str x)):=fun _ _ _ H _ I h=>Calls.Constant_str ⟨.str x,H,I.tok _,⟨_,rfl⟩,h⟩
def Gl(X:Cx)(x:Str):Prop:=X.env.kindOf x=some .globalImplicit
theorem jk(I:aD X ae σ H s)(hg:Gl X x)(hm:X.mg x=some u)(h:Q u s)(hd:(x==("__debug__":Str))=false:=by decide):wpAny (model X.prog X.w) X.A (eval (.Name x pos) X.env) Q E s:=
 v6 I.ok.kind hg (Calls.loadGlobal_global (by rw[I.ok.glob];exact I.mod.glob.keeps I.bk) hm h) hd
theorem lQ(I:aD X ae σ H s)(hg:Gl X x)(hm:X.mg x=none)(hv:bootBuiltins x=some u)(h:Q u s)(hn:x≠"__name__":=by decide)(hd:(x==("__debug__":Str))=false:=by decide):wpAny (model X.prog X.w) X.A (eval (.Name x pos) X.env) Q E s:=by
 obtain⟨mb,h1,h2⟩:=I.mod.blt;exact v6 I.ok.kind hg (Calls.loadGlobal_builtin (by rw[I.ok.glob];exact I.mod.glob.keeps I.bk) hm (by rw[I.ok.blt];exact h1.keeps I.bk) ((h2 x hn).trans hv) h) hd
theorem bE(hg:Gl X x)(hm:X.mg x=some u)(r:bj v u)(hd:(x==("__debug__":Str))=false:=by decide):PE X (.Name x pos) (tC v):=
 fun _ _ _ H _ I h=>jk I hg hm ⟨v,H,I,r,h⟩ hd
theorem gO(hg:Gl X x)(hm:X.mg x=none)(hv:bootBuiltins x=some u)(r:bj v u)(hn:x≠"__name__":=by decide)(hd:(x==("__debug__":Str))=false:=by decide):PE X (.Name x pos) (tC v):=
 fun _ _ _ H _ I h=>lQ I hg hm hv ⟨v,H,I,r,h⟩ hn hd
variable {a b:Expr} {ta tb:TE} {pos:Pos}
def tB(t:TE):TT:=fun σ H Q=>t σ H fun x H1=>∃c,x=.bl c/\Q c H1
theorem cU(h:PE X e t)(he:∀ym,isTrue e X.env ym=(do let v <- ym;standAt e.pos;holding [v] (truthy v)):=by intro _;rfl):PT X e (tB t):=by
 intro ae s σ H Q I hw;refine isTrue_plain (bZ (h ae s σ H _ I hw) fun v s1 ⟨x,H1,I1,r1,q1⟩=>?_) (he _);obtain⟨d,rfl,q⟩:=q1;cases r1;exact iF ⟨H1,I1,q⟩
variable {tA Ph:TT} {m6:List Expr}
def LM(t u:TT):TT:=fun σ H Q=>t σ H fun c H1=>if c=true then u σ H1 Q else Q false H1
def WE(t u:TT):TT:=fun σ H Q=>t σ H fun c H1=>if c=true then Q true H1 else u σ H1 Q
def Qo(t:TT):TT:=fun σ H Q=>t σ H fun c H1=>Q (!c) H1
theorem nM(ha:PT X a tA):PW X (.BoolOp .And [a] pos) tA:=by
 intro wh ae s σ H Q I h;refine isTrue_and (bZ (ha ae s σ H Q I h) fun c s1 e=>?_);cases c with
 |true=>exact isTrue_and_nil e
 |false=>exact e
theorem oO(ha:PT X a tA):PW X (.BoolOp .Or [a] pos) tA:=by
 intro wh ae s σ H Q I h;refine isTrue_or (bZ (ha ae s σ H Q I h) fun c s1 e=>?_);cases c with
 |false=>exact isTrue_or_nil e
 |true=>exact e
theorem sf(ha:PT X a tA)(hb:PW X (.BoolOp .And (b::m6) pos) Ph):PW X (.BoolOp .And (a::b::m6) pos) (LM tA Ph):=by
 intro wh ae s σ H Q I h;refine isTrue_and (bZ (ha ae s σ H _ I h) fun c s1 ⟨H1,I1,q1⟩=>?_);cases c with
 |true=>exact hb wh ae s1 σ H1 Q I1 q1
 |false=>exact⟨H1,I1,q1⟩
theorem uA(ha:PT X a tA)(hb:PW X (.BoolOp .Or (b::m6) pos) Ph):PW X (.BoolOp .Or (a::b::m6) pos) (WE tA Ph):=by
 intro wh ae s σ H Q I h;refine isTrue_or (bZ (ha ae s σ H _ I h) fun c s1 ⟨H1,I1,q1⟩=>?_);cases c with
 |true=>exact⟨H1,I1,q1⟩
 |false=>exact hb wh ae s1 σ H1 Q I1 q1
theorem c_(ha:PT X a tA):PT X (.UnaryOp .Not a pos) (Qo tA):=by
 intro ae s σ H Q I h;exact isTrue_not (ha ae s σ H (fun c H1=>Q (!c) H1) I h)
def LN(ta tb:TE):TE:=fun σ H Q=>ta σ H fun x H1=>∃c,x=.bl c/\if c=true then tb σ H1 Q else Q (.bl false) H1
def LO(ta:TE):TE:=fun σ H Q=>ta σ H fun x H1=>∃c,x=.bl c/\Q (.bl (!c)) H1
theorem lR{op}(h:PE X a t):PE X (.BoolOp op [a] pos) t:=fun ae s σ H Q I hw=>BoolOp_one (h ae s σ H Q I hw)
theorem j8(ha:PE X a ta)(hb:PE X (.BoolOp .And (b::m6) pos) tb):PE X (.BoolOp .And (a::b::m6) pos) (LN ta tb):=by
 intro ae s σ H Q I h;refine BoolOp_and (bZ (ha ae s σ H _ I h) fun v s1 ⟨x,H1,I1,r1,q1⟩=>?_);obtain⟨c,rfl,q1⟩:=q1;cases r1;refine iF ?_;cases c with
 |true=>exact hb ae s1 σ H1 Q I1 q1
 |false=>exact⟨.bl false,H1,I1,rfl,q1⟩
theorem Iz(ha:PE X a ta):PE X (.UnaryOp .Not a pos) (LO ta):=by
 intro ae s σ H Q I h;refine UnaryOp_ (bZ (ha ae s σ H _ I h) fun v s1 ⟨x,H1,I1,r1,q1⟩=>?_);obtain⟨c,rfl,q1⟩:=q1;cases r1;exact not_of (iF ⟨.bl (!c),H1,I1,rfl,q1⟩)
def WF(t:TT)(ta tb:TE):TE:=fun σ H Q=>t σ H fun c H1=>if c=true then ta σ H1 Q else tb σ H1 Q
theorem uB(hc:PT X c tA)(ha:PE X a ta)(hb:PE X b tb):PE X (.IfExp c a b pos) (WF tA ta tb):=by
 intro ae s σ H Q I h;refine wpAny_IfExp (bZ (hc ae s σ H _ I h) fun d s1 ⟨H1,I1,q1⟩=>?_);cases d with
 |true=>exact ha ae s1 σ H1 Q I1 q1
 |false=>exact hb ae s1 σ H1 Q I1 q1
end
def bn(K:PySem.W.Frag)(H:Hp)(a:Addr)(xs:List V):Prop:=
 Rd H a (.lst xs)\/
  ∃ (o:Obj) (its:Array Value) (n:Nat),K.lookup a=some o/\o.cls=.type "list"/\o.dict=none/\o.data=.seq its n/\its.size<=sizeLine/\aP xs its.toList
def bK(K:PySem.W.Frag)(H:Hp)(a:Addr)(xs:List V):Prop:=
 Rd H a (.tup xs)\/
  ∃ (o:Obj) (its:Array Value) (n:Nat),K.lookup a=some o/\o.cls=.type "tuple"/\o.data=.seq its n/\its.size<=sizeLine/\aP xs its.toList
def Qp:Value->Option V
 |.none=>some .bp
 |.bool b=>some (.bl b)
 |.int i _=>some (.int i)
 |.str x _=>some (.str x)
 |.bytes b _=>some (.AW b)
 |.float b _=>some (.Iv b)
 |.ref a=>some (.ref a)
 |.type n=>some (.ty n)
 |_=>none
theorem bj.abs(r:bj x u):Qp u=some x:=by
 cases x with
 |bp=>cases r;rfl
 |bl _=>cases r;rfl
 |int _=>obtain⟨t,rfl⟩:=r;rfl
 |str _=>obtain⟨t,rfl⟩:=r;rfl
 |AW _=>obtain⟨t,rfl⟩:=r;rfl
 |Iv _=>obtain⟨t,rfl⟩:=r;rfl
 |ref _=>cases r;rfl
 |ty _=>cases r;rfl
theorem bj.inj(r:bj x u)(q:bj y u):x=y:=bi (r.abs.symm.trans q.abs)
theorem aP.inj:∀ {xs ys:List V} {us:List Value},aP xs us->aP ys us->xs=ys
 |_,_,_,.nil,.nil=>rfl
 |_,_,_,.cons r t,.cons r' t'=>by rw[r.inj r',aP.inj t t']
section
variable {X:Cx} {ae:List (Addr×Obj)} {σ:St} {H:Hp} {s:Shared} {a:Addr} {xs ys:List V}
theorem bn.of{K:PySem.W.Frag}(h:H a=some (.lst xs)):bn K H a xs:=.inl (.inl h)
theorem bK.of{K:PySem.W.Frag}(h:H a=some (.tup xs)):bK K H a xs:=.inl (.inl h)
theorem aD.list(I:aD X ae σ H s)(h:bn X.K H a xs):∃its:List Value,aP xs its/\PlainL s.heap a its.toArray/\xs.length<=sizeLine:=by
 rcases h with h|⟨o,its,n,hk,hc,hd,hs,hz,r⟩
 .obtain⟨z,its,n,r,e⟩:=h.ok I.br;exact⟨its,r,⟨_,n,e,rfl,rfl,rfl⟩,z⟩
 .refine⟨its.toList,r,⟨o,n,I.j7 a o hk,hc,hd,by simpa using hs⟩,?_⟩;have e:=r.length;simp only[jO] at e;lia
theorem aD.tuple(I:aD X ae σ H s)(h:bK X.K H a xs):∃its:List Value,aP xs its/\IsTup s.heap a its.toArray/\xs.length<=sizeLine:=by
 rcases h with h|⟨o,its,n,hk,hc,hs,hz,r⟩
 .obtain⟨z,its,r,p⟩:=h.ok I.br;exact⟨its,r,p.tup,z⟩
 .refine⟨its.toList,r,⟨o,I.j7 a o hk,hc,n,by simpa using hs⟩,?_⟩;have e:=r.length;simp only[jO] at e;lia
theorem aD.Bv(I:aD X ae σ H s)(h:bn X.K H a xs)(h':bn X.K H a ys):xs=ys:=by
 obtain⟨its,r,⟨o,n,e,_,_,d⟩,_⟩:=I.list h;obtain⟨its',r',⟨o',n',e',_,_,d'⟩,_⟩:=I.list h';rw[e] at e';cases e';rw[d] at d';injection d' with d1 _;have:its=its':=by simpa using congrArg Array.toList d1
 subst this;exact r.inj r'
theorem aD.qh(I:aD X ae σ H s)(h:bK X.K H a xs)(h':bK X.K H a ys):xs=ys:=by
 obtain⟨its,r,⟨o,e,_,n,d⟩,_⟩:=I.tuple h;obtain⟨its',r',⟨o',e',_,n',d'⟩,_⟩:=I.tuple h';rw[e] at e';cases e';rw[d] at d';injection d' with d1 _;have:its=its':=by simpa using congrArg Array.toList d1
 subst this;exact r.inj r'
end
abbrev Cx.pR(X:Cx)(E:Value->Shared->Prop):Cx:={ X with xe:=E }
abbrev Cx.AZ(X:Cx):Cx:=X.pR fun _ _=>False
theorem Cx.Ok.pR{X:Cx}(ok:X.Ok)(E:Value->Shared->Prop):(X.pR E).Ok:=
 ⟨ok.mod,ok.kind,ok.glob,ok.blt,ok.above,ok.inj,ok.has,ok.Iw,ok.hd,ok.frames,ok.AX,ok.LK,ok.bs,ok.yj,ok.lO,ok.zE,ok.iO,ok.AY⟩
theorem Cx.Ok.iQ{X:Cx}{E:Value->Shared->Prop}(ok:(X.pR E).Ok):X.Ok:=
 ⟨ok.mod,ok.kind,ok.glob,ok.blt,ok.above,ok.inj,ok.has,ok.Iw,ok.hd,ok.frames,ok.AX,ok.LK,ok.bs,ok.yj,ok.lO,ok.zE,ok.iO,ok.AY⟩
section
variable {X:Cx} {ae:List (Addr×Obj)} {σ:St} {H:Hp} {s:Shared} {E:Value->Shared->Prop}
theorem aD.pR(I:aD X ae σ H s)(E:Value->Shared->Prop):aD (X.pR E) ae σ H s:=⟨I.ok.pR E,I.os,I.bare,I.base,I.loc,I.cell,I.free,I.fg,I.pin,I.br,I.len⟩
theorem aD.iQ(I:aD (X.pR E) ae σ H s):aD X ae σ H s:=⟨I.ok.iQ,I.os,I.bare,I.base,I.loc,I.cell,I.free,I.fg,I.pin,I.br,I.len⟩
theorem SP.iQ(h:SP (X.pR E) ae D f s'):SP X ae D f s':=by
 cases f with
 |next=>obtain⟨σ',H',I,q⟩:=h;exact⟨σ',H',I.iQ,q⟩
 |brk=>obtain⟨σ',H',I,q⟩:=h;exact⟨σ',H',I.iQ,q⟩
 |cont=>obtain⟨σ',H',I,q⟩:=h;exact⟨σ',H',I.iQ,q⟩
 |ret u=>obtain⟨v,σ',H',I,r,q⟩:=h;exact⟨v,σ',H',I.iQ,r,q⟩
theorem pK.AZ{st:List Stmt}{t:TS}(h:pK X.AZ st t):pK X st t:=fun ae s σ H D I hw=>
 eQ (h ae s σ H D (I.pR _) hw) (fun _ _ q=>q.iQ) fun _ _ z=>False.elim z
end
section
variable {X:Cx} {st:Stmt} {m6:List Stmt} {t u:TS} {e:Expr} {te:TE} {pos:Pos}
def LP:TS:=fun D σ H=>D.nx σ H
def LQ(t u:TS):TS:=fun D σ H=>t { D with nx:=u D } σ H
theorem aO:pK X [] LP:=fun _ _ σ H _ I h=>oE ⟨σ,H,I,h⟩
theorem ag(h1:PS X st t)(h2:pK X m6 u):pK X (st::m6) (LQ t u):=by
 intro ae s σ H D I h;refine wpAny_execs_cons (bZ (h1 ae s σ H { D with nx:=u D } I h) fun f s1 q=>?_);cases f with
 |next=>
  obtain⟨σ',H',I',q⟩:=q;exact h2 ae s1 σ' H' D I' q
 |ret v=>exact q
 |brk=>exact q
 |cont=>exact q
theorem ai(h1:PS X st t):pK X [st] t:=by
 intro ae s σ H D I h;refine wpAny_execs_cons (bZ (h1 ae s σ H D I h) fun f s1 q=>?_);cases f with
 |next=>exact oE q
 |ret v=>exact q
 |brk=>exact q
 |cont=>exact q
theorem aD.quiet(I:aD X ae σ H s):interactive X.env=false:=by simp[interactive,I.ok.kind]
def LR(te:TE):TS:=fun D σ H=>te σ H fun _ H1=>D.nx σ H1
theorem cj(he:PE X e te)(hs:swapsWith e none pos.line X.env=pure false:=by rfl):PS X (.Expr e pos) (LR te):=by
 intro ae s σ H D I h;exact wpAny_Expr_any (bZ (he ae s σ H _ I h) fun v s1 ⟨x,H1,I1,r1,q1⟩=>⟨σ,H1,I1,q1⟩) I.quiet hs
def LU(te:TE):TS:=fun D σ H=>te σ H D.rt
theorem aE(he:PE X e te):PS X (.Return (some e) pos) (LU te):=by
 intro ae s σ H D I h;exact wpAny_Return_some (bZ (he ae s σ H _ I h) fun v s1 ⟨x,H1,I1,r1,q1⟩=>⟨x,σ,H1,I1,r1,q1⟩)
def Qq(c:TT)(t u:TS):TS:=fun D σ H=>c σ H fun b H1=>if b=true then t D σ H1 else u D σ H1
theorem bt(hc:PT X c tc)(ha:pK X a t)(hb:pK X b u):PS X (.If c a b pos) (Qq tc t u):=by
 intro ae s σ H D I h;refine wpAny_If (bZ (hc ae s σ H _ I h) fun d s1 ⟨H1,I1,q1⟩=>?_);cases d with
 |true=>exact ha ae s1 σ H1 D I1 q1
 |false=>exact hb ae s1 σ H1 D I1 q1
def IA:TS:=fun _ _ _=>False
theorem dh:pK X ZT IA:=fun _ _ _ _ _ _ h=>h.elim
end
abbrev TG:=V->St->Hp->(St->Hp->Prop)->Prop
abbrev LV:=List V->St->Hp->(St->Hp->Prop)->Prop
def PG(X:Cx)(IC:Expr)(t:TG):Prop:=
 ∀ (ae:List (Addr×Obj)) (s:Shared) (σ:St) (H:Hp) (v:V) (u:Value) (Q:St->Hp->Prop),aD X ae σ H s->bj v u->t v σ H Q->
  wpAny (model X.prog X.w) X.A (assign IC X.env u) (fun _ s'=>∃σ' H',aD X ae σ' H' s'/\Q σ' H') X.xe s
def Pi(X:Cx)(ts:List Expr)(t:LV):Prop:=
 ∀ (ae:List (Addr×Obj)) (s:Shared) (σ:St) (H:Hp) (vs:List V) (us:List Value) (Q:St->Hp->Prop),aD X ae σ H s->aP vs us->t vs σ H Q->
  wpAny (model X.prog X.w) X.A (assignInOrder ((assignEach ts X.env).map (·.2)) us) (fun _ s'=>∃σ' H',aD X ae σ' H' s'/\Q σ' H') X.xe s
abbrev LW:=V->V->V->Hp->(Hp->Prop)->Prop
def LX(X:Cx)(t:LW):Prop:=
 ∀ (ae:List (Addr×Obj)) (s:Shared) (σ:St) (H:Hp) (o i v:V) (ov iv u:Value) (Q:Hp->Prop),aD X ae σ H s->bj o ov->bj i iv->bj v u->t o i v H Q->
  wpAny (model X.prog X.w) X.A (setItem ov iv u) (fun _ s'=>∃H',aD X ae σ H' s'/\Q H') X.xe s
abbrev Qr:=V->V->Hp->VK->Prop
def Pj(X:Cx)(op:Operator)(t:Qr):Prop:=
 ∀ (ae:List (Addr×Obj)) (s:Shared) (σ:St) (H:Hp) (x y:V) (v u:Value) (Q:VK),aD X ae σ H s->bj x v->bj y u->t x y H Q->
  wpAny (model X.prog X.w) X.A (inplaceOp op v u) (EP X ae σ Q) X.xe s
section
variable {X:Cx} {pos:Pos}
def bR(i:Nat):TG:=fun v σ H Q=>Q (σ.set i (some v)) H
theorem aA(hN:X.N.Nodup)(hi:X.N[i]?=some x)(hx:LJ X.env.scope x)(hf:X.fn x=true\/X.env.scope.names.lookup x=some .local:=by first|exact .inl rfl|exact .inr rfl|assumption):PG X (.Name x pos) (bR i):=by
 intro ae s σ H v u Q I r h;exact wpAny_assign_Name (iP I hN hi hx r (fun s' I'=>⟨_,H,I',h⟩) hf)
def Bw:LV:=fun vs σ H Q=>vs=[]/\Q σ H
def kH(t:TG)(u:LV):LV:=fun vs σ H Q=>∃v r,vs=v::r/\t v σ H fun σ' H'=>u r σ' H' Q
theorem ft:Pi X [] Bw:=by
 intro ae s σ H vs us Q I r h;obtain⟨e,h⟩:=h;subst e;cases r;exact assignInOrder_nil ⟨σ,H,I,h⟩
theorem bw(h1:PG X e t)(h2:Pi X es u)(hs:(assignEach (e::es) X.env).map (·.2)=assign e X.env::(assignEach es X.env).map (·.2):=by rfl):Pi X (e::es) (kH t u):=by
 intro ae s σ H vs us Q I r h;obtain⟨v,vr,e1,h⟩:=h;subst e1;cases r with
 |cons r rr=>
  rw[hs];refine assignInOrder_cons (bZ (h1 ae s σ H _ _ _ I r h) fun _ s1 ⟨σ1,H1,I1,q1⟩=>?_);exact h2 ae s1 σ1 H1 _ _ Q I1 rr q1
def By(K:PySem.W.Frag)(n:Nat)(t:LV):TG:=fun v σ H Q=>∃a xs,v=.ref a/\bK K H a xs/\xs.length=n/\t xs σ H Q
theorem gP(hc:X.calm=true)(h:Pi X es t)(hn:(assignEach es X.env).length=n:=by rfl)(fh:(assignEach es X.env).findIdx? (·.1)=none:=by rfl):PG X (.Tuple es k pos) (By X.K n t):=by
 intro ae s σ H v u Q I r hw;obtain⟨a,xs,e1,hq,hl,hw⟩:=hw;subst e1;cases r;obtain⟨its,rv,ht,hz⟩:=I.tuple hq;refine assign_Tuple_tuple (I.ok.hd hc) ht (by simp[hn,<-hl,rv.length]) fh fun h' hx=>?_;have I1:aD X ae σ H { s with heap:=h' }:=I.kept (t':=s.toks) fun b o e=>hx b o (aY (aU e)) e;exact h ae _ σ H xs _ Q I1 (by simpa using rv) hw
def Qs(to ti:TE)(t:LW):TG:=fun v σ H Q=>to σ H fun o H1=>ti σ H1 fun i H2=>t o i v H2 fun H3=>Q σ H3
theorem sg(ho:PE X o to)(hi:PE X i ti)(hs:LX X t)(ha:∀v,assign (.Subscript o i pos) X.env v=(do
   let ov <- holding [v] (eval o X.env)
   let iv <- holding [v,ov] (eval i X.env)
   standAt pos
   holding [v,ov,iv] (setItem ov iv v)
   release [v,ov,iv] []):=by intro _;rfl):PG X (.Subscript o i pos) (Qs to ti t):=by
 intro ae s σ H v u Q I r h;rw[ha];refine ap (fS (bZ (ho ae s σ H _ I h) fun ov s1 ⟨x,H1,I1,r1,q1⟩=>?_));refine ap (fS (bZ (hi ae s1 σ H1 _ I1 q1) fun iv s2 ⟨y,H2,I2,r2,q2⟩=>?_));refine ap (lJ (ap (fS (bZ (hs ae s2 σ H2 x y v ov iv u _ I2 r1 r2 r q2) fun _ s3 ⟨H3,I3,q3⟩=>?_))));exact wpAny_release ⟨σ,H3,I3,q3⟩
def Bz(te:TE)(g:TG):TS:=fun D σ H=>te σ H fun x H1=>g x σ H1 D.nx
theorem lS(he:PE X e te)(hg:PG X tg g)(hs:swapsWithSole [tg] e pos.line X.env=pure false:=by rfl)(hw:swappedStores [tg] e X.env=pure none:=by rfl)(h1:(assignEach [tg] X.env).map (·.2)=[assign tg X.env]:=by rfl):PS X (.Assign [tg] e pos) (Bz te g):=by
 intro ae s σ H D I h;refine wpAny_Assign_stores (bZ (he ae s σ H _ I h) fun v s1 ⟨x,H1,I1,r1,q1⟩=>?_) hs hw;rw[h1];exact bZ (hg ae s1 σ H1 x v _ I1 r1 q1) fun _ s2 q=>q
theorem aK(hN:X.N.Nodup)(hi:X.N[i]?=some x)(hx:LJ X.env.scope x)(he:PE X e te)(hs:swapsWith e (some (.Name x zF)) pos.line X.env=pure false:=by rfl)(hf:X.fn x=true\/X.env.scope.names.lookup x=some .local:=by first|exact .inl rfl|exact .inr rfl|assumption):
  PS X (.Assign [.Name x zF] e pos) (Bz te (bR i)):=by
 intro ae s σ H D I h;refine wpAny_Assign_Name (bZ (he ae s σ H _ I h) fun v s1 ⟨y,H1,I1,r1,q1⟩=>?_) hs;exact iP I1 hN hi hx r1 (fun s2 I2=>⟨_,H1,I2,q1⟩) hf
def Qt(i j:Nat)(ta:TA):TS:=fun D σ H=>ta σ H fun vs H1=>∃v w,vs=[v,w]/\D.nx ((σ.set i (some v)).set j (some w)) H1
theorem BB{kt k2 Qu}(hc:X.calm=true)(hN:X.N.Nodup)(hi:X.N[i]?=some x)(hj:X.N[j]?=some y)(WG:i≠j)(hx:X.env.scope.names.lookup x=some .local)(hy:X.env.scope.names.lookup y=some .local)(ha:PA X [a,b] ta)(hw:swappedStores [.Tuple [.Name x px,.Name y py] kt pt] (.Tuple [a,b] k2 Qu) X.env=pure (some [x,y]))(hs:swapsWithSole [.Tuple [.Name x px,.Name y py] kt pt] (.Tuple [a,b] k2 Qu) pos.line X.env=pure false:=by rfl):
  PS X (.Assign [.Tuple [.Name x px,.Name y py] kt pt] (.Tuple [a,b] k2 Qu) pos) (Qt i j ta):=by
 intro ae s σ H D I h;rw[exec_Assign_arm];refine ap (lJ ?_);rw[hs];refine ap (wpAny_pure ?_);rw[al (by decide)];refine ap (Tuple_ (bZ (ha _ ae s σ H _ I h) fun us s1 ⟨vs,H1,I1,r1,q1⟩=>?_));obtain⟨v,w,e1,q1⟩:=q1;subst e1;obtain⟨u1,u2,rfl,rv,ID⟩:∃u1 u2,us=[u1,u2]/\bj v u1/\bj w u2:=by
  cases r1 with
  |cons p q=>
   cases q with
   |cons p' q'=>
    cases q';exact⟨_,_,rfl,p,p'⟩
 refine ic ?_ (by show 2<=sizeLine;decide);have I2:aD X ae σ H1 { s1 with heap:=s1.heap.push { cls:=.type "tuple",data:=.seq [u1,u2].toArray } }:=I1.kept (t':=s1.toks) fun b o e=>cf _ e;rw[hw];refine ap (wpAny_pure ?_);show wpAny (model X.prog X.w) X.A (do rule "assign.swapped-stores";let items <- unpackItems (.ref s1.heap.objs.size) 2 none;assignInOrder [fun v=>bindName X.env y v,fun v=>bindName X.env x v] items.reverse;pure Flow.next) _ _ _;refine ap (et (ap (unpackItems_tuple (items:=#[u1,u2]) (I.ok.hd hc) (IsTup.new s1.heap _) fun h' si=>?_)));have I3:=I2.kept (h':=h') (t':=s1.toks) fun b o e=>si b o (aY (aU e)) e;show wpAny _ _ (assignInOrder [fun v=>bindName X.env y v,fun v=>bindName X.env x v] [u2,u1] >>= fun _=>pure Flow.next) _ _ _;refine ap (assignInOrder_cons (wpAny_bindName (iP I3 hN hj (.inl hy) ID (fun s2 I4=>?_) (.inr hy))));refine assignInOrder_cons (wpAny_bindName (iP I4 hN hi (.inl hx) rv (fun s3 I5=>assignInOrder_nil (wpAny_pure ?_)) (.inr hx)));rw[List.set_comm _ _ (cW WG)] at I5;exact⟨_,H1,I5,q1⟩
def Qv(i:Nat)(te:TE)(ti:Qr):TS:=fun D σ H=>∃x,σ[i]?=some (some x)/\te σ H fun y H1=>ti x y H1 fun z H2=>D.nx (σ.set i (some z)) H2
theorem sj(hN:X.N.Nodup)(hi:X.N[i]?=some x)(hx:LJ X.env.scope x)(he:PE X e te)(ho:Pj X op ti)(hf:X.fn x=true\/X.env.scope.names.lookup x=some .local:=by first|exact .inl rfl|exact .inr rfl|assumption):
  PS X (.AugAssign (.Name x zF) op e pos) (Qv i te ti):=by
 intro ae s σ H D I h;obtain⟨v,e1,h⟩:=h;obtain⟨m,hn,hl⟩:=I.loc;have LY:Lc X.env.scope x:=by rcases hx with k|k;exact .inl k;exact .inr (.inl k)
 obtain⟨u,r,l⟩:=hl i x v hi e1 LY;refine wpAny_AugAssign_Name ?_;have go:wpAny (model X.prog X.w) X.A (eval e X.env) (fun w s₂=>wpAny (model X.prog X.w) X.A (inplaceOp op u w) (fun r s₃=>wpAny (model X.prog X.w) X.A (storeName X.env x r) (fun _=>SP X ae D .next) X.xe s₃) X.xe s₂) X.xe s:=by
  refine bZ (he ae s σ H _ I h) fun w s1 ⟨y,H1,I1,r1,q1⟩=>?_;refine bZ (ho ae s1 σ H1 v y u w _ I1 r r1 q1) fun z s2 ⟨zv,H2,I2,r2,q2⟩=>?_;exact iP I2 hN hi hx r2 (fun s3 I3=>⟨_,H2,I3,q2⟩) hf
 rcases l with ⟨hk,hm⟩|⟨hk,c,hc,yn⟩
 .exact wv I.ok.kind hk hn hm go
 .rcases hk with hk|hk
  .exact wpAny_loadName_cell I.ok.kind hk hc yn go
  .rcases hx with k|k
   .have:X.env.scope.names.lookup x=some .free:=hk;rw[k] at this;cases this
   .have:X.env.scope.names.lookup x=some .free:=hk;rw[k] at this;cases this
def WH(f:Int->Int->Int):Qr:=fun x y H Q=>∃i j,x=.int i/\y=.int j/\Q (.int (f i j)) H
theorem IE:Pj X .Add (WH fun i j=>i+j):=by
 intro ae s σ H x y v u Q I r1 r2 h;obtain⟨i,j,e1,e2,q⟩:=h;subst e1;subst e2;obtain⟨t,rfl⟩:=r1;obtain⟨t',rfl⟩:=r2;exact iadd_int ⟨.int _,H,I.tok _,⟨_,rfl⟩,q⟩
def BF(c:TT)(tb:TS):TS:=fun D σ H=>∃W:Nat->St->Hp->Prop,(∃m,W m σ H)/\∀m σ H,W m σ H->
 c σ H fun b H1=>if b=true then ∃N:St->Hp->Prop,(∀σ' H',N σ' H'->∃m',m'<m/\W m' σ' H')/\tb { D with nx:=N,ct:=N,bk:=D.nx } σ H1 else D.nx σ H1
theorem BG(hp:PassesOwn (model X.prog X.w) X.A X.env X.xe)(hc:PT X c tc)(hb:pK X body tb):PS X (.While c body [] pos) (BF tc tb):=by
 intro ae s σ H D I h;obtain⟨W,⟨m0,w0⟩,BH⟩:=h;refine wpAny_While (codeAny_whileLoop (fun n s'=>∃σ' H',aD X ae σ' H' s'/\W n σ' H') ?_ m0 ⟨σ,H,I,w0⟩);rintro n s1 ⟨σ1,H1,I1,w1⟩;refine jU hp (bZ (hc ae s1 σ1 H1 _ I1 (BH n σ1 H1 w1)) fun b s2 ⟨H2,I2,q2⟩=>?_);cases b with
 |true=>
  obtain⟨N,hN,q2⟩:=q2;rw[ak rfl];refine jU hp (bZ (hb ae s2 σ1 H2 _ I2 q2) fun f s3 q3=>?_);cases f with
  |next=>
   obtain⟨σ3,H3,I3,n3⟩:=q3;obtain⟨m',hm,w3⟩:=hN σ3 H3 n3;exact⟨m',hm,σ3,H3,I3,w3⟩
  |cont=>
   obtain⟨σ3,H3,I3,n3⟩:=q3;obtain⟨m',hm,w3⟩:=hN σ3 H3 n3;exact⟨m',hm,σ3,H3,I3,w3⟩
  |brk=>exact q3
  |ret v=>exact q3
 |false=>
  rw[al bH];exact oE ⟨σ1,H2,I2,q2⟩
end
structure It where
 go:Nat->Hp->Prop
 Hi:Nat->Hp->V->Hp->Prop
 stop:Nat->Hp->Prop
 EZ:Around->Hp->Prop
def fN(X:Cx)(ae:List (Addr×Obj))(H:Hp)(b:Addr):Prop:=
 H b=none/\b≠X.env.locals/\b∉X.fs/\(b∈X.ex\/X.s₀.heap.objs.size<=b)/\(∀x c,X.env.cells.lookup x=some c->c≠b)/\∀p∈X.pn++ae,p.1≠b
theorem aD.wT(I:aD X ae σ H s)(hb:s.heap.objs.size<=b)(hn:H' b=none):fN X ae H' b:=by
 refine⟨hn,jX (cG I.lt hb),I.Qk hb,.inr (bf I.sz hb),fun x c e z=>?_,fun p hp z=>?_⟩
 .obtain⟨v,q⟩:=I.cell x c e;exact absurd (cG q.lt (by rw[z];exact hb)) (gq _)
 .exact absurd (cG (aU (I.pin p hp).1) (by rw[z];exact hb)) (gq _)
structure wU(P:Program)(w:World)(K:PySem.W.Frag)(tg:Expr)(J:It)(fp:List Addr)(it:Addr)(tn:Nat->Heap->Prop):Prop where
 mem:it∈fp
 obj:∀i h,tn i h->∀b∈fp,∃o,h.get? b=some o/\∀v,o.data≠.cell v
 keep:∀i h h',tn i h->(∀b∈fp,∀o,h.get? b=some o->h'.get? b=some o)->tn i h'
 item:∀ (X:Cx),X.prog=P->X.w=w->X.K=K->∀ (i:Nat) (ae:List (Addr×Obj)) (s:Shared) (σ:St) (H:Hp) (E:Value->Shared->Prop),(X.calm=true\/J.EZ X.A H)->aD X ae σ H s->(∀b∈fp,fN X ae H b)->tn i s.heap->J.go i H->
  wpAny (model P w) X.A (pyNext (.ref it)) (fun r s1=>∃u,r=some u/\
   wpAny (model P w) X.A (letOwnedTupleGo tg (.ref it) u) (fun _ s2=>∃x H',aD X ae σ H' s2/\bj x u/\J.Hi i H x H'/\tn (i+1) s2.heap/\∀b∈fp,H' b=none) E s1) E s
 done:∀ (X:Cx),X.prog=P->X.w=w->X.K=K->∀ (i:Nat) (ae:List (Addr×Obj)) (s:Shared) (σ:St) (H:Hp) (E:Value->Shared->Prop),(X.calm=true\/J.EZ X.A H)->aD X ae σ H s->(∀b∈fp,fN X ae H b)->tn i s.heap->J.stop i H->
  wpAny (model P w) X.A (pyNext (.ref it)) (fun r s1=>r=none/\aD X ae σ H s1) E s
 self:∀ (A:Around) (i:Nat) (s:Shared) (Q:Value->Shared->Prop) (E:Value->Shared->Prop),tn i s.heap->Q (.ref it) s->wpAny (model P w) A (pyIter (.ref it)) Q E s
abbrev TI:=St->Hp->(It->Hp->Prop)->Prop
def U7(X:Cx)(ae:List (Addr×Obj))(σ:St)(tg:Expr)(R:It->Hp->Prop)(LZ:Value)(s2:Shared):Prop:=
 ∃ (it:Addr) (fp:List Addr) (tn:Nat->Heap->Prop) (J:It) (H':Hp),LZ=.ref it/\aD X ae σ H' s2/\wU X.prog X.w X.K tg J fp it tn/\tn 0 s2.heap/\(∀b∈fp,fN X ae H' b)/\R J H'
def PI(X:Cx)(tg f_:Expr)(wi:TI):Prop:=
 ∀ (ae:List (Addr×Obj)) (s:Shared) (σ:St) (H:Hp) (R:It->Hp->Prop),aD X ae σ H s->wi σ H R->
  wpAny (model X.prog X.w) X.A (eval f_ X.env) (fun v s1=>wpAny (model X.prog X.w) X.A (pyIter v) (U7 X ae σ tg R) X.xe s1) X.xe s
theorem BI(ho:s.heap.get? it=some o)(hc:o.cls=.type n)(hd:o.data=.fields vs)(hn:["enumerate","zip","dict_itemiterator","dict_reverseitemiterator","odict_iterator","itertools.zip_longest","itertools.pairwise"].contains n=false)(hQ:Q () s):wpAny M A (letOwnedTupleGo tg (.ref it) u) Q E s:=by
 unfold letOwnedTupleGo;cases tg <;> first
  |exact wpAny_pure hQ
  |(cases u <;> first
    |exact wpAny_pure hQ
    |(refine ap (wpAny_load ho ?_);rw[hc,hd];show wpAny M A (if (["enumerate","zip","dict_itemiterator","dict_reverseitemiterator","odict_iterator","itertools.zip_longest","itertools.pairwise"].contains n&&vs[0]?==some (rawInt _))=true then _ else _) Q E s;rw[al (by intro h;rw[hn,Bool.false_and] at h;cases h)];exact wpAny_pure hQ))
def E2(K:PySem.W.Frag)(a:Addr):It:=
 ⟨fun i H=>∃xs x,bn K H a xs/\xs[i]?=some x,fun i H x H'=>H'=H/\∀xs,bn K H a xs->xs[i]?=some x,fun i H=>∃xs,bn K H a xs/\xs.length<=i,fun _ _=>False⟩
def L3(K:PySem.W.Frag)(a:Addr):It:=
 ⟨fun i H=>∃xs x,bK K H a xs/\xs[i]?=some x,fun i H x H'=>H'=H/\∀xs,bK K H a xs->xs[i]?=some x,fun i H=>∃xs,bK K H a xs/\xs.length<=i,fun _ _=>False⟩
def BJ(lo:Int)(n:Nat):It:=⟨fun i _=>i<n,fun i H x H'=>H'=H/\x=.int (lo+i),fun i _=>n<=i,fun A H=>A.handled=none\/∃p φ,A.handled=some (.ref p)/\H p=some (.ext φ)/\∀h,φ h->ux p h⟩
theorem zG{P:Program}{w:World}{K:PySem.W.Frag}{tg:Expr}(a it:Addr):wU P w K tg (E2 K a) [it] it (fun i h=>h.IsListIter it a i) where
 mem:=by simp
 obj:=fun i h st b hb=>by
  have e:b=it:=by simpa using hb
  subst e;obtain⟨o,e,c,d⟩:=st;exact⟨o,e,fun v z=>by rw[d] at z;cases z⟩
 keep:=fun i h h' st k=>st.at fun o e=>k it (by simp) o e
 item:=by
  intro X hP hw hK i ae s σ H E BK I hf st hg;subst hP hw hK;have hc:X.calm=true:=BK.elim id fun z=>(show False from z).elim;obtain⟨xs,x,hq,hx⟩:=hg;obtain⟨its,rv,p,hz⟩:=I.list hq;obtain⟨u,hu,ru⟩:=rv.get hx;obtain⟨f0,f1,f2,f3,f4,f5⟩:=hf it (by simp);refine wf st p.isList (x:=u) (by simpa using hu) fun h' aV sb=>?_;have I1:aD X ae σ H { s with heap:=h' }:=I.turned (t':=s.toks) (fun b o hb e=>(sb.2 b hb).trans e) f0 f1 f3 f4 f5;obtain⟨o,e,c,d⟩:=id aV;exact⟨u,rfl,BI (s:={ s with heap:=h' }) e c d (by decide) ⟨x,H,I1,ru,⟨rfl,fun ys hy=>by rw[I.Bv hy hq];exact hx⟩,aV,fun b hb=>(hf b hb).1⟩⟩
 done:=by
  intro X hP hw hK i ae s σ H E BK I hf st hg;subst hP hw hK;have hc:X.calm=true:=BK.elim id fun z=>(show False from z).elim;obtain⟨xs,hq,hx⟩:=hg;obtain⟨its,rv,p,hz⟩:=I.list hq;obtain⟨f0,f1,f2,f3,f4,f5⟩:=hf it (by simp);have hl:=rv.length;exact wq (I.ok.hd hc) st p.isList (by simp;lia) fun h' eb=>⟨rfl,I.turned (t':=s.toks) (fun b o hb e=>eb b o hb e) f0 f1 f3 f4 f5⟩
 self:=fun _ _ _ _ _ st h=>wpAny_pyIter_listiter st h
theorem wV{P:Program}{w:World}{K:PySem.W.Frag}{tg:Expr}(a it:Addr):wU P w K tg (L3 K a) [it] it (fun i h=>h.IsTupleIter it a i) where
 mem:=by simp
 obj:=fun i h st b hb=>by
  have e:b=it:=by simpa using hb
  subst e;obtain⟨o,e,c,d⟩:=st;exact⟨o,e,fun v z=>by rw[d] at z;cases z⟩
 keep:=fun i h h' st k=>st.at fun o e=>k it (by simp) o e
 item:=by
  intro X hP hw hK i ae s σ H E BK I hf st hg;subst hP hw hK;have hc:X.calm=true:=BK.elim id fun z=>(show False from z).elim;obtain⟨xs,x,hq,hx⟩:=hg;obtain⟨its,rv,p,hz⟩:=I.tuple hq;obtain⟨u,hu,ru⟩:=rv.get hx;obtain⟨f0,f1,f2,f3,f4,f5⟩:=hf it (by simp);refine wpAny_pyNext_tuple_item st (show s.heap.IsTuple a its.toArray from p) (x:=u) (by simpa using hu) fun h' aV sb=>?_;have I1:aD X ae σ H { s with heap:=h' }:=I.turned (t':=s.toks) (fun b o hb e=>(sb.2 b hb).trans e) f0 f1 f3 f4 f5;obtain⟨o,e,c,d⟩:=id aV;exact⟨u,rfl,BI (s:={ s with heap:=h' }) e c d (by decide) ⟨x,H,I1,ru,⟨rfl,fun ys hy=>by rw[I.qh hy hq];exact hx⟩,aV,fun b hb=>(hf b hb).1⟩⟩
 done:=by
  intro X hP hw hK i ae s σ H E BK I hf st hg;subst hP hw hK;have hc:X.calm=true:=BK.elim id fun z=>(show False from z).elim;obtain⟨xs,hq,hx⟩:=hg;obtain⟨its,rv,p,hz⟩:=I.tuple hq;obtain⟨f0,f1,f2,f3,f4,f5⟩:=hf it (by simp);have hl:=rv.length;exact wpAny_pyNext_tuple_end (I.ok.hd hc) st (show s.heap.IsTuple a its.toArray from p) (by simp;lia) fun h' eb=>⟨rfl,I.turned (t':=s.toks) (fun b o hb e=>eb b o hb e) f0 f1 f3 f4 f5⟩
 self:=fun _ _ _ _ _ st h=>wpAny_pyIter_tupleiter st h
theorem wW{P:Program}{w:World}{K:PySem.W.Frag}{tg:Expr}(it:Addr)(lo:Int)(n:Nat):wU P w K tg (BJ lo n) [it] it (fun i h=>IsRangeIter h it (lo+(i:Nat)*1) ((n:Int)-(i:Nat)) 1) where
 mem:=by simp
 obj:=fun i h st b hb=>by
  have e:b=it:=by simpa using hb
  subst e;exact⟨_,st,fun v z=>by
   have z':Data.fields _=Data.cell v:=z;cases z'⟩
 keep:=fun i h h' st k=>k it (by simp) _ st
 item:=by
  intro X hP hw hK i ae s σ H E hc I hf st hg;subst hP hw hK;obtain⟨f0,f1,f2,f3,f4,f5⟩:=hf it (by simp);refine wpAny_pyNext_range_item st (by have:i<n:=hg;lia) fun h' aV sb=>?_;have I1:aD X ae σ H { s with heap:=h',toks:=s.toks+1 }:=I.turned (fun b o hb e=>(sb.2 b hb).trans e) f0 f1 f3 f4 f5;have qi:IsRangeIter h' it (lo+((i+1:Nat):Int)*1) ((n:Int)-((i+1:Nat):Int)) 1:=by
   rw[show lo+((i+1:Nat):Int)*1=lo+(i:Int)*1+1 by lia,show (n:Int)-((i+1:Nat):Int)=(n:Int)-(i:Int)-1 by lia];exact aV
  exact⟨_,rfl,BI (s:={ s with heap:=h',toks:=s.toks+1 }) (n:="range_iterator") qi rfl rfl (by decide) ⟨.int (lo+i),H,I1,⟨s.toks,by rw[Int.mul_one]⟩,⟨rfl,rfl⟩,qi,fun b hb=>(hf b hb).1⟩⟩
 done:=by
  intro X hP hw hK i ae s σ H E hc I hf st hg;subst hP hw hK;obtain⟨f0,f1,f2,f3,f4,f5⟩:=hf it (by simp);have he:X.A.handled=none\/∃p φ,X.A.handled=some (.ref p)/\H p=some (.ext φ)/\∀h,φ h->ux p h:=hc.elim (fun z=>.inl (I.ok.hd z)) id;rcases he with hn|⟨p,φ,hp,hH,hφ⟩
  .exact wpAny_pyNext_range_end hn st (by have:n<=i:=hg;lia) fun h' eb=>⟨rfl,I.turned (t':=s.toks) (fun b o hb e=>eb b o hb e) f0 f1 f3 f4 f5⟩
  .exact wS hp (hφ _ (I.br p _ hH).1) st (by have:n<=i:=hg;lia) fun h' eb=>⟨rfl,I.kept (t':=s.toks) eb⟩
 self:=fun _ _ _ _ _ st h=>wpAny_pyIter_rangeiter st h
section
variable {X:Cx} {tg:Expr}
def L4(K:PySem.W.Frag)(tl:TE):TI:=fun σ H R=>tl σ H fun x H1=>∃a,x=.ref a/\(∃xs,bn K H1 a xs)/\R (E2 K a) H1
def Qw(K:PySem.W.Frag)(tl:TE):TI:=fun σ H R=>tl σ H fun x H1=>∃a,x=.ref a/\(∃xs,bK K H1 a xs)/\R (L3 K a) H1
theorem di{l:Expr}{tl:TE}(hl:PE X l tl):PI X tg l (L4 X.K tl):=by
 intro ae s σ H R I h;refine bZ (hl ae s σ H _ I h) fun v s1 ⟨x,H1,I1,r1,q1⟩=>?_;obtain⟨a,e,⟨xs,hq⟩,q⟩:=q1;subst e;cases r1;obtain⟨its,rv,p,hz⟩:=I1.list hq;refine rL p.isList ?_;refine⟨s1.heap.objs.size,[s1.heap.objs.size],_,_,H1,rfl,I1.kept (t':=s1.toks) fun b o e=>cf _ e,zG a _,⟨_,cI _ rfl,rfl,rfl⟩,fun b hb=>?_,q⟩;have e:b=s1.heap.objs.size:=by simpa using hb
 subst e;exact I1.wT (aN _) (I1.br.fresh (aN _))
theorem lT{l:Expr}{tl:TE}(hl:PE X l tl):PI X tg l (Qw X.K tl):=by
 intro ae s σ H R I h;refine bZ (hl ae s σ H _ I h) fun v s1 ⟨x,H1,I1,r1,q1⟩=>?_;obtain⟨a,e,⟨xs,hq⟩,q⟩:=q1;subst e;cases r1;obtain⟨its,rv,p,hz⟩:=I1.tuple hq;refine wJ (show s1.heap.IsTuple a its.toArray from p) ?_;refine⟨s1.heap.objs.size,[s1.heap.objs.size],_,_,H1,rfl,I1.kept (t':=s1.toks) fun b o e=>cf _ e,wV a _,⟨_,cI _ rfl,rfl,rfl⟩,fun b hb=>?_,q⟩;have e:b=s1.heap.objs.size:=by simpa using hb
 subst e;exact I1.wT (aN _) (I1.br.fresh (aN _))
theorem BL{ae:List (Addr×Obj)}{σ:St}{H:Hp}{s:Shared}{R:It->Hp->Prop}{E:Value->Shared->Prop}{lo hi:Int}{t u v:Tok}{tk:Nat}(I:aD X ae σ H s)(h1:-(2 ^ 62)<=lo)(h2:lo<2 ^ 62)(h3:-(2 ^ 62)<=hi)(h4:hi<2 ^ 62)(q:R (BJ lo (hi-lo).toNat) H):wpAny (model X.prog X.w) X.A (pyIter (.ref s.heap.objs.size)) (U7 X ae σ tg R) E { s with heap:=s.heap.push { cls:=.type "range",data:=.fields #[.int lo t,.int hi u,.int 1 v] },toks:=tk }:=by
 refine wpAny_pyIter_range (IsRange.new ..) (small_one h1 h2 h3 h4) ?_;have I1:aD X ae σ H { s with heap:=s.heap.push { cls:=.type "range",data:=.fields #[.int lo t,.int hi u,.int 1 v] },toks:=tk }:=I.kept fun b o e=>cf _ e;refine⟨(s.heap.push { cls:=.type "range",data:=.fields #[.int lo t,.int hi u,.int 1 v] }).objs.size,[(s.heap.push { cls:=.type "range",data:=.fields #[.int lo t,.int hi u,.int 1 v] }).objs.size],_,_,H,rfl,
  I1.kept (t':=tk) fun b o e=>cf _ e,wW _ lo (hi-lo).toNat,?_,fun b hb=>?_,q⟩
 .have e1:lo+((0:Nat):Int)*1=lo:=by simp
  have e2:(((hi-lo).toNat:Nat):Int)-((0:Nat):Int)=Builtin.Range.rangeSize lo hi 1:=by rw[rangeSize_one];split <;> lia
  show IsRangeIter _ _ (lo+((0:Nat):Int)*1) ((((hi-lo).toNat:Nat):Int)-((0:Nat):Int)) 1;rw[e1,e2];exact cI _ rfl
 .have e:b=(s.heap.push { cls:=.type "range",data:=.fields #[.int lo t,.int hi u,.int 1 v] }).objs.size:=by simpa using hb
  subst e;exact I1.wT (aN _) (I1.br.fresh (aN _))
def L5(ta:TA):TI:=fun σ H R=>ta σ H fun vs H1=>∃j:Int,vs=[.int j]/\-(2 ^ 62)<=j/\j<2 ^ 62/\R (BJ 0 j.toNat) H1
theorem a7{a:Expr}{ta:TA}{p pos:Pos}(hg:Gl X "range")(hm:X.mg "range"=none)(ha:PA X [a] ta)(hs:starEach [a] X.env=[(false,eval a X.env)]:=by rfl):PI X tg (.Call (.Name "range" p) [a] [] pos) (L5 ta):=by
 intro ae s σ H R I h;refine Call_ (lQ I hg hm boot_range (vU (bZ (ha pos ae s σ H _ I h) fun us s1 ⟨vs,H1,I1,r1,q1⟩=>?_) hs rfl));obtain⟨j,e,q1,q2,q⟩:=q1;subst e;cases r1 with
 |cons r rr=>
  cases rr;obtain⟨t,rfl⟩:=r;exact call_range_1 (BL I1 (by lia) (by lia) q1 q2 (by simpa using q))
def Qx(wi:TI)(g:TG)(tb:TS):TS:=fun D σ H=>wi σ H fun J H1=>∃W:Nat->Nat->St->Hp->Prop,(∃m,W 0 m σ H1)/\∀i m σ H,W i m σ H->
 (J.stop i H/\D.nx σ H)\/(J.go i H/\∃N:St->Hp->Prop,(∀σ' H',N σ' H'->∃m',m'<m/\W (i+1) m' σ' H')/\∀x H',J.Hi i H x H'->g x σ H' fun σ2 H2=>tb { D with nx:=N,ct:=N,bk:=D.nx } σ2 H2)
def oP(fp:List Addr)(h:Heap):List (Addr×Obj):=fp.filterMap fun b=>(h.get? b).map fun o=>(b,o)
theorem gQ(hb:b∈fp)(e:h.get? b=some o):(b,o)∈oP fp h:=jP.mpr ⟨b,hb,by rw[e];rfl⟩
theorem zH(hp:p∈oP fp h):p.1∈fp/\h.get? p.1=some p.2:=by
 obtain⟨b,hb,e⟩:=jP.mp hp;cases q:h.get? b with
 |none=>rw[q] at e;cases e
 |some o=>
  rw[q] at e;have e':(b,o)=p:=bi e;subst e';exact⟨hb,q⟩
theorem aD.pinned(I:aD X ae σ H s)(hf:∀b∈fp,fN X ae H b)(ho:∀b∈fp,∃o,s.heap.get? b=some o/\∀v,o.data≠.cell v):aD X (ae++oP fp s.heap) σ H s:=
 I.ji fun p hp=>(cQ.mp hp).elim (fun z=>I.pin p (cz _ z)) fun z=>by
  obtain⟨hb,e⟩:=zH z;obtain⟨f0,f1,f2,_⟩:=hf p.1 hb;obtain⟨o,e',d⟩:=ho p.1 hb;rw[e] at e';cases e';exact⟨e,f0,f1,f2,d⟩
theorem aD.kI(I:aD X (ae++pl) σ H s):aD X ae σ H s:=I.ji fun p hp=>I.pin p (cz _ (fR _ hp))
theorem bW(hp:PassesOwn (model X.prog X.w) X.A X.env X.xe)(hc:X.calm=true)(hi:PI X tg f_ wi)(hg:PG X tg g)(hb:pK X body tb)(hs:∀x,foldedSetIterable f_ X.env x=pure x:=by intro _;rfl):PS X (.For tg f_ body [] pos) (Qx wi g tb):=by
 intro ae s σ H D I h;refine wpAny_For (bZ (hi ae s σ H _ I h) fun v s1 h1=>bZ h1 fun LZ s2 h2=>?_) hs;obtain⟨it,fp,tn,J,H2,e,I2,T,qi,f2,W,⟨m0,w0⟩,BH⟩:=h2;subst e;have wX:∀ {H':Hp},(∀b∈fp,H' b=none)->∀b∈fp,fN X ae H' b:=fun hn b hb=>⟨hn b hb,(f2 b hb).2⟩
 refine codeAny_forLoop_any (fun n s'=>∃i σ' H',aD X ae σ' H' s'/\tn i s'.heap/\(∀b∈fp,H' b=none)/\W i n σ' H') ?_ m0 ⟨0,σ,H2,I2,qi,fun b hb=>(f2 b hb).1,w0⟩;rintro n s3 ⟨i,σ3,H3,I3,wY,IF,w3⟩;rcases BH i n σ3 H3 w3 with ⟨stop,qn⟩|⟨go,N,hN,step⟩
 .refine jU hp (bZ (T.done X rfl rfl rfl i ae s3 σ3 H3 X.xe (.inl hc) I3 (wX IF) wY stop) fun r s4 ⟨hr,I4⟩=>?_);subst hr;exact oE ⟨σ3,H3,I4,qn⟩
 .refine jU hp (bZ (T.item X rfl rfl rfl i ae s3 σ3 H3 X.xe (.inl hc) I3 (wX IF) wY go) fun r s4 ⟨u,hr,h4⟩=>?_);subst hr;refine jU hp (bZ h4 fun _ s5 ⟨x,H5,I5,r5,y5,uq,Qy⟩=>?_);have Qz:=I5.pinned (wX Qy) (T.obj _ _ uq);refine jU hp (bZ (hg _ s5 σ3 H5 x u _ Qz r5 (step x H5 y5)) fun _ s6 ⟨σ6,H6,I6,q6⟩=>?_);refine jU hp (bZ (hb _ s6 σ6 H6 _ I6 q6) fun f s7 q7=>?_);have again:∀ {σ7:St} {H7:Hp},aD X (ae++oP fp s5.heap) σ7 H7 s7->N σ7 H7->∃m,m<n/\∃i σ' H',aD X ae σ' H' s7/\tn i s7.heap/\(∀b∈fp,H' b=none)/\W i m σ' H':=fun {σ7 H7} I7 n7=>by
   obtain⟨m',hm,w7⟩:=hN σ7 H7 n7;refine⟨m',hm,i+1,σ7,H7,I7.kI,T.keep _ _ _ uq fun b hb o e=>(I7.pin (b,o) (cz _ (cz _ (gQ hb e)))).1,fun b hb=>?_,w7⟩;obtain⟨o,e,d⟩:=T.obj _ _ uq b hb;exact(I7.pin (b,o) (cz _ (cz _ (gQ hb e)))).2.1
  cases f with
  |next=>obtain⟨σ7,H7,I7,n7⟩:=q7;exact again I7 n7
  |cont=>obtain⟨σ7,H7,I7,n7⟩:=q7;exact again I7 n7
  |brk=>obtain⟨σ7,H7,I7,q7⟩:=q7;exact⟨σ7,H7,I7.kI,q7⟩
  |ret v=>obtain⟨x7,σ7,H7,I7,r7,q7⟩:=q7;exact⟨x7,σ7,H7,I7.kI,r7,q7⟩
end
theorem oQ{K:PySem.W.Frag}{a:Addr}{xs:List V}{g:TG}{tb:TS}{D:uz}{σ:St}{H:Hp}(Pv:Nat->St->Hp->Prop)(h0:Pv 0 σ H)(hl:∀i σ H,i<=xs.length->Pv i σ H->bn K H a xs)(hs:∀i x σ H,xs[i]?=some x->Pv i σ H->g x σ H fun σ2 H2=>tb { D with nx:=Pv (i+1),ct:=Pv (i+1),bk:=D.nx } σ2 H2)(hd:∀σ H,Pv xs.length σ H->D.nx σ H):
  ∃W:Nat->Nat->St->Hp->Prop,(∃m,W 0 m σ H)/\∀i m σ H,W i m σ H->
   ((E2 K a).stop i H/\D.nx σ H)\/((E2 K a).go i H/\∃N:St->Hp->Prop,(∀σ' H',N σ' H'->∃m',m'<m/\W (i+1) m' σ' H')/\∀x H',(E2 K a).Hi i H x H'->g x σ H' fun σ2 H2=>tb { D with nx:=N,ct:=N,bk:=D.nx } σ2 H2):=by
 refine⟨fun i m σ H=>m=xs.length-i/\i<=xs.length/\Pv i σ H,⟨xs.length,by simp,cS _,h0⟩,?_⟩;rintro i m σ H ⟨rfl,hi,p⟩;have q:=hl i σ H hi p;by_cases eS:i<xs.length
 .refine .inr ⟨⟨xs,xs[i],q,by simp[eS]⟩,Pv (i+1),fun σ' H' p'=>⟨xs.length-(i+1),by lia,rfl,eS,p'⟩,fun x H' y=>?_⟩;obtain⟨e,y⟩:=y;subst e;exact hs i x σ _ (y xs q) p
 .have e:i=xs.length:=by lia
  subst e;exact .inl ⟨⟨xs,q,aN _⟩,hd σ H p⟩
theorem jl{K:PySem.W.Frag}{a:Addr}{xs:List V}{g:TG}{tb:TS}{D:uz}{σ:St}{H:Hp}(Pv:Nat->St->Hp->Prop)(h0:Pv 0 σ H)(hl:∀i σ H,i<=xs.length->Pv i σ H->bK K H a xs)(hs:∀i x σ H,xs[i]?=some x->Pv i σ H->g x σ H fun σ2 H2=>tb { D with nx:=Pv (i+1),ct:=Pv (i+1),bk:=D.nx } σ2 H2)(hd:∀σ H,Pv xs.length σ H->D.nx σ H):
  ∃W:Nat->Nat->St->Hp->Prop,(∃m,W 0 m σ H)/\∀i m σ H,W i m σ H->
   ((L3 K a).stop i H/\D.nx σ H)\/((L3 K a).go i H/\∃N:St->Hp->Prop,(∀σ' H',N σ' H'->∃m',m'<m/\W (i+1) m' σ' H')/\∀x H',(L3 K a).Hi i H x H'->g x σ H' fun σ2 H2=>tb { D with nx:=N,ct:=N,bk:=D.nx } σ2 H2):=by
 refine⟨fun i m σ H=>m=xs.length-i/\i<=xs.length/\Pv i σ H,⟨xs.length,by simp,cS _,h0⟩,?_⟩;rintro i m σ H ⟨rfl,hi,p⟩;have q:=hl i σ H hi p;by_cases eS:i<xs.length
 .refine .inr ⟨⟨xs,xs[i],q,by simp[eS]⟩,Pv (i+1),fun σ' H' p'=>⟨xs.length-(i+1),by lia,rfl,eS,p'⟩,fun x H' y=>?_⟩;obtain⟨e,y⟩:=y;subst e;exact hs i x σ _ (y xs q) p
 .have e:i=xs.length:=by lia
  subst e;exact .inl ⟨⟨xs,q,aN _⟩,hd σ H p⟩
theorem cC{lo:Int}{n:Nat}{g:TG}{tb:TS}{D:uz}{σ:St}{H:Hp}(Pv:Nat->St->Hp->Prop)(h0:Pv 0 σ H)(hs:∀i σ H,i<n->Pv i σ H->g (.int (lo+i)) σ H fun σ2 H2=>tb { D with nx:=Pv (i+1),ct:=Pv (i+1),bk:=D.nx } σ2 H2)(hd:∀σ H,Pv n σ H->D.nx σ H):
  ∃W:Nat->Nat->St->Hp->Prop,(∃m,W 0 m σ H)/\∀i m σ H,W i m σ H->
   ((BJ lo n).stop i H/\D.nx σ H)\/((BJ lo n).go i H/\∃N:St->Hp->Prop,(∀σ' H',N σ' H'->∃m',m'<m/\W (i+1) m' σ' H')/\∀x H',(BJ lo n).Hi i H x H'->g x σ H' fun σ2 H2=>tb { D with nx:=N,ct:=N,bk:=D.nx } σ2 H2):=by
 refine⟨fun i m σ H=>m=n-i/\i<=n/\Pv i σ H,⟨n,by simp,cS _,h0⟩,?_⟩;rintro i m σ H ⟨rfl,hi,p⟩;by_cases eS:i<n
 .refine .inr ⟨eS,Pv (i+1),fun σ' H' p'=>⟨n-(i+1),by lia,rfl,eS,p'⟩,fun x H' y=>?_⟩;obtain⟨e,y⟩:=y;subst e y;exact hs i σ _ eS p
 .have e:i=n:=by lia
  subst e;exact .inl ⟨aN _,hd σ H p⟩
theorem BM(Pv:St->Hp->Prop)(μ:St->Hp->Nat)(h0:Pv σ H)(hs:∀σ H,Pv σ H->c σ H fun b H1=>if b=true then tb { D with nx:=fun σ' H'=>Pv σ' H'/\μ σ' H'<μ σ H,ct:=fun σ' H'=>Pv σ' H'/\μ σ' H'<μ σ H,bk:=D.nx } σ H1 else D.nx σ H1)(mono:∀σ H Q Q',(∀b H1,Q b H1->Q' b H1)->c σ H Q->c σ H Q'):BF c tb D σ H:=by
 refine⟨fun m σ H=>m=μ σ H/\Pv σ H,⟨_,rfl,h0⟩,?_⟩;rintro m σ H ⟨rfl,p⟩;refine mono σ H _ _ (fun b H1 q=>?_) (hs σ H p);cases b with
 |true=>exact⟨_,fun σ' H' ⟨p',l⟩=>⟨_,l,rfl,p'⟩,q⟩
 |false=>exact q
abbrev R2:=V->V->Hp->VK->Prop
def jC(X:Cx)(f:Value->Value->Sem Value)(r:R2):Prop:=
 ∀ (ae:List (Addr×Obj)) (s:Shared) (σ:St) (H:Hp) (x y:V) (v u:Value) (Q:VK),aD X ae σ H s->bj x v->bj y u->r x y H Q->
  wpAny (model X.prog X.w) X.A (f v u) (EP X ae σ Q) X.xe s
def QA(X:Cx)(f:Value->Sem Value)(r:V->Hp->VK->Prop):Prop:=
 ∀ (ae:List (Addr×Obj)) (s:Shared) (σ:St) (H:Hp) (x:V) (v:Value) (Q:VK),aD X ae σ H s->bj x v->r x H Q->
  wpAny (model X.prog X.w) X.A (f v) (EP X ae σ Q) X.xe s
def eK(X:Cx)(f:Value)(r:List V->Hp->VK->Prop):Prop:=
 ∀ (ae:List (Addr×Obj)) (s:Shared) (σ:St) (H:Hp) (xs:List V) (us:List Value) (Q:VK),aD X ae σ H s->aP xs us->r xs H Q->
  wpAny (model X.prog X.w) X.A (call f us) (EP X ae σ Q) X.xe s
def kJ(r:R2)(ta tb:TE):TE:=fun σ H Q=>ta σ H fun x H1=>tb σ H1 fun y H2=>r x y H2 Q
def U8(r:V->Hp->VK->Prop)(ta:TE):TE:=fun σ H Q=>ta σ H fun x H1=>r x H1 Q
def rI(C:Int->Int->Prop)(g:Int->Int->V):R2:=fun x y H Q=>∃i j,x=.int i/\y=.int j/\C i j/\Q (g i j) H
def EJ(g:Int->Int->V):R2:=fun x y H Q=>∃i j,x=.int i/\y=.int j/\Q (g i j) H
def rU(g:Int->V):V->Hp->VK->Prop:=fun x H Q=>∃i,x=.int i/\Q (g i) H
section
variable {X:Cx} {a b c:Expr} {ta tb tc:TE} {pos:Pos}
theorem IG(ha:PE X a ta)(hb:PE X b tb){ae:List (Addr×Obj)}{s:Shared}{σ:St}{H:Hp}{R:V->V->Hp->Prop}(I:aD X ae σ H s)(h:ta σ H fun x H1=>tb σ H1 fun y H2=>R x y H2){Q:Value->Shared->Prop}{f:Value->Value->Sem Value}(hf:∀v u s2 x y H2,aD X ae σ H2 s2->bj x v->bj y u->R x y H2->wpAny (model X.prog X.w) X.A (f v u) Q X.xe s2):
  wpAny (model X.prog X.w) X.A (eval a X.env) (fun v s₁=>wpAny (model X.prog X.w) X.A (eval b X.env) (fun u s₂=>wpAny (model X.prog X.w) X.A (f v u) Q X.xe s₂) X.xe s₁) X.xe s:=by
 refine bZ (ha ae s σ H _ I h) fun v s1 ⟨x,H1,I1,r1,q1⟩=>?_;refine bZ (hb ae s1 σ H1 _ I1 q1) fun u s2 ⟨y,H2,I2,r2,q2⟩=>?_;exact hf v u s2 x y H2 I2 r1 r2 q2
theorem ba{op:Operator}{r:R2}(ho:jC X (binaryOp op) r)(ha:PE X a ta)(hb:PE X b tb):PE X (.BinOp a op b pos) (kJ r ta tb):=by
 intro ae s σ H Q I h;exact wpAny_BinOp (IG ha hb I h fun v u s2 x y H2 I2 rx ry q=>ho ae s2 σ H2 x y v u Q I2 rx ry q)
theorem BO(ho:QA X (unaryOp op) r)(ha:PE X a ta):PE X (.UnaryOp op a pos) (U8 r ta):=by
 intro ae s σ H Q I h;exact UnaryOp_ (bZ (ha ae s σ H _ I h) fun v s1 ⟨x,H1,I1,r1,q1⟩=>ho ae s1 σ H1 x v Q I1 r1 q1)
theorem Le{f:Value->Value->Sem Value}{C:Int->Int->Prop}{g:Int->Int->Int}(rule:∀ (i j:Int) (t u:Tok) (s:Shared) (Q:Value->Shared->Prop) (E:Value->Shared->Prop),C i j->Q (.int (g i j) s.toks) { s with toks:=s.toks+1 }->wpAny (model X.prog X.w) X.A (f (.int i t) (.int j u)) Q E s):
  jC X f (rI C fun i j=>.int (g i j)):=by
 intro ae s σ H x y v u Q I rx ry h;obtain⟨i,j,rfl,rfl,hc,q⟩:=h;obtain⟨t,rfl⟩:=rx;obtain⟨t',rfl⟩:=ry;exact rule i j t t' s _ _ hc ⟨.int (g i j),H,I.tok _,⟨_,rfl⟩,q⟩
theorem L6{f:Value->Value->Sem Value}{g:Int->Int->Int}(rule:∀ (i j:Int) (t u:Tok) (s:Shared) (Q:Value->Shared->Prop) (E:Value->Shared->Prop),Q (.int (g i j) s.toks) { s with toks:=s.toks+1 }->wpAny (model X.prog X.w) X.A (f (.int i t) (.int j u)) Q E s):
  jC X f (EJ fun i j=>.int (g i j)):=by
 intro ae s σ H x y v u Q I rx ry h;obtain⟨i,j,rfl,rfl,q⟩:=h;obtain⟨t,rfl⟩:=rx;obtain⟨t',rfl⟩:=ry;exact rule i j t t' s _ _ ⟨.int (g i j),H,I.tok _,⟨_,rfl⟩,q⟩
theorem II{f:Value->Value->Sem Value}{g:Int->Int->Bool}(rule:∀ (i j:Int) (t u:Tok) (s:Shared) (Q:Value->Shared->Prop) (E:Value->Shared->Prop),Q (.bool (g i j)) s->wpAny (model X.prog X.w) X.A (f (.int i t) (.int j u)) Q E s):
  jC X f (EJ fun i j=>.bl (g i j)):=by
 intro ae s σ H x y v u Q I rx ry h;obtain⟨i,j,rfl,rfl,q⟩:=h;obtain⟨t,rfl⟩:=rx;obtain⟨t',rfl⟩:=ry;exact rule i j t t' s _ _ ⟨.bl (g i j),H,I,rfl,q⟩
def IJ(i j:Int):Prop:=0<j/\j<1073741824
def QB(i j:Int):Prop:=0<=j/\j<=1000000/\i.natAbs<2 ^ 64
def BQ(i j:Int):Prop:=(-(2 ^ 64)<i/\i<2 ^ 64)\/(-(2 ^ 64)<j/\j<2 ^ 64)
theorem BQ.ok(h:BQ i j):IntMulOk i j:=by
 rcases h with ⟨h1,h2⟩|⟨h1,h2⟩
 .exact .of_left (intBits_le_64 h1 h2)
 .exact .of_right (intBits_le_64 h1 h2)
theorem dz:jC X (binaryOp .Add) (EJ fun i j=>.int (i+j)):=L6 fun _ _ _ _ _ _ _ q=>add_int q
theorem lU:jC X (binaryOp .Sub) (EJ fun i j=>.int (i-j)):=L6 fun _ _ _ _ _ _ _ q=>sub_int q
theorem oR:jC X (binaryOp .Mult) (rI BQ fun i j=>.int (i*j)):=Le fun _ _ _ _ _ _ _ hc q=>mul_int q hc.ok
theorem nP:jC X (binaryOp .FloorDiv) (rI IJ fun i j=>.int (i / j)):=Le fun i j _ _ _ _ _ hc q=>by
 have h1:(0:Int)<j:=hc.1;have h2:j<1073741824:=hc.2;exact floordiv_int (by lia) (by rw[rb i (by lia)];exact q) (.inl (PyProof.noPylong_small (by lia)))
theorem gR:jC X (binaryOp .Mod) (rI (fun _ j=>0<j) fun i j=>.int (i % j)):=Le fun i j _ _ _ _ _ hc q=>by
 have h1:(0:Int)<j:=hc;exact mod_int' (by lia) (by rw[vW i (by lia)];exact q)
theorem BU:jC X (binaryOp .Pow) (rI QB fun i j=>.int (i ^ j.toNat)):=Le fun _ _ _ _ _ _ _ hc q=>pow_int_small hc.1 hc.2.1 hc.2.2 q
theorem BV:jC X (inplaceOp .FloorDiv) (rI IJ fun i j=>.int (i / j)):=Le fun i j _ _ _ _ _ hc q=>by
 have h1:(0:Int)<j:=hc.1;have h2:j<1073741824:=hc.2;exact ifloordiv_int (by lia) (by rw[rb i (by lia)];exact q) (.inl (PyProof.noPylong_small (by lia)))
theorem WI{f:Value->Sem Value}{g:Int->Int}(rule:∀ (i:Int) (t:Tok) (s:Shared) (Q:Value->Shared->Prop) (E:Value->Shared->Prop),Q (.int (g i) s.toks) { s with toks:=s.toks+1 }->wpAny (model X.prog X.w) X.A (f (.int i t)) Q E s):
  QA X f (rU fun i=>.int (g i)):=by
 intro ae s σ H x v Q I rx h;obtain⟨i,rfl,q⟩:=h;obtain⟨t,rfl⟩:=rx;exact rule i t s _ _ ⟨.int (g i),H,I.tok _,⟨_,rfl⟩,q⟩
theorem wZ:QA X (unaryOp .USub) (rU fun i=>.int (-i)):=WI fun _ _ _ _ _ q=>neg_int q
end
def IK:V->V->Bool
 |.bp,.bp=>true|.bp,.int _=>true|.int _,.bp=>true|.bp,.bl _=>true|.bl _,.bp=>true|.bp,.str _=>true|.str _,.bp=>true
 |.int _,.int _=>true|.bl _,.bl _=>true|.str _,.str _=>true|.AW _,.AW _=>true
 |.int _,.str _=>true|.str _,.int _=>true|.bl _,.str _=>true|.str _,.bl _=>true
 |_,_=>false
def L7:R2:=fun x y H Q=>IK x y=true/\Q (.bl (decide (x=y))) H
def U9:R2:=fun x y H Q=>IK x y=true/\Q (.bl (!decide (x=y))) H
theorem yo:decide (V.int i=V.int j)=(i==j):=by
 rw[jT];simp
theorem BW:decide (V.bl i=V.bl j)=(i==j):=by
 rw[jT];simp
theorem yp:decide (V.str i=V.str j)=(i==j):=by
 rw[jT];simp
theorem yq:decide (V.AW i=V.AW j)=(i.toList==j.toList):=by
 rw[jT];cases i;cases j;simp
section
variable {X:Cx} {a b c:Expr} {ta tb tc:TE} {pos:Pos}
theorem bg(I:aD X ae σ H s)(q:Q (.bl k) H)(e:k=k'):EP X ae σ Q (.bool k') s:=by
 subst e;exact⟨.bl k,H,I,rfl,q⟩
theorem ij:jC X (compareOp .Eq) L7:=by
 intro ae s σ H x y v u Q I rx ry h;obtain⟨hs,q⟩:=h;cases x with
 |bp=>
  cases rx;cases y with
  |bp=>cases ry;exact PySem.EqNone.eq_none_none (bg I q (by simp))
  |bl j=>cases ry;exact PySem.EqNone.eq_none_bool (bg I q (by simp))
  |int j=>obtain⟨t',rfl⟩:=ry;exact PySem.EqNone.eq_none_int (bg I q (by simp))
  |str j=>obtain⟨t',rfl⟩:=ry;exact PySem.EqNone.eq_none_str (bg I q (by simp))
  |_=>exact absurd (show false=true from hs) bH
 |bl i=>
  cases rx;cases y with
  |bp=>cases ry;exact PySem.EqNone.eq_bool_none (bg I q (by simp))
  |bl j=>cases ry;exact eq_bool (bg I q BW)
  |str j=>obtain⟨t',rfl⟩:=ry;exact PySem.EqMixed.eq_bool_str (bg I q (by simp))
  |_=>exact absurd (show false=true from hs) bH
 |int i=>
  obtain⟨t,rfl⟩:=rx;cases y with
  |bp=>cases ry;exact PySem.EqNone.eq_int_none (bg I q (by simp))
  |int j=>obtain⟨t',rfl⟩:=ry;exact eq_int (bg I q yo)
  |str j=>obtain⟨t',rfl⟩:=ry;exact PySem.EqMixed.eq_int_str (bg I q (by simp))
  |_=>exact absurd (show false=true from hs) bH
 |str i=>
  obtain⟨t,rfl⟩:=rx;cases y with
  |bp=>cases ry;exact PySem.EqNone.eq_str_none (bg I q (by simp))
  |bl j=>cases ry;exact PySem.EqMixed.eq_str_bool (bg I q (by simp))
  |int j=>obtain⟨t',rfl⟩:=ry;exact PySem.EqMixed.eq_str_int (bg I q (by simp))
  |str j=>obtain⟨t',rfl⟩:=ry;exact eq_str (bg I q yp)
  |_=>exact absurd (show false=true from hs) bH
 |AW i=>
  obtain⟨t,rfl⟩:=rx;cases y with
  |AW j=>obtain⟨t',rfl⟩:=ry;exact PySem.W.eq_bytes (bg I q yq)
  |_=>exact absurd (show false=true from hs) bH
 |_=>cases y <;> exact absurd (show false=true from hs) bH
theorem qj:jC X (compareOp .NotEq) U9:=by
 intro ae s σ H x y v u Q I rx ry h;obtain⟨hs,q⟩:=h;cases x with
 |bp=>
  cases rx;cases y with
  |bp=>cases ry;exact PySem.EqNone.ne_none_none (bg I q (by simp))
  |bl j=>cases ry;exact PySem.EqNone.ne_none_bool (bg I q (by simp))
  |int j=>obtain⟨t',rfl⟩:=ry;exact PySem.EqNone.ne_none_int (bg I q (by simp))
  |str j=>obtain⟨t',rfl⟩:=ry;exact PySem.EqNone.ne_none_str (bg I q (by simp))
  |_=>exact absurd (show false=true from hs) bH
 |bl i=>
  cases rx;cases y with
  |bp=>cases ry;exact PySem.EqNone.ne_bool_none (bg I q (by simp))
  |bl j=>cases ry;exact ne_bool (bg I q (congrArg not BW))
  |str j=>obtain⟨t',rfl⟩:=ry;exact PySem.EqMixed.ne_bool_str (bg I q (by simp))
  |_=>exact absurd (show false=true from hs) bH
 |int i=>
  obtain⟨t,rfl⟩:=rx;cases y with
  |bp=>cases ry;exact PySem.EqNone.ne_int_none (bg I q (by simp))
  |int j=>obtain⟨t',rfl⟩:=ry;exact ne_int (bg I q (congrArg not yo))
  |str j=>obtain⟨t',rfl⟩:=ry;exact PySem.EqMixed.ne_int_str (bg I q (by simp))
  |_=>exact absurd (show false=true from hs) bH
 |str i=>
  obtain⟨t,rfl⟩:=rx;cases y with
  |bp=>cases ry;exact PySem.EqNone.ne_str_none (bg I q (by simp))
  |bl j=>cases ry;exact PySem.EqMixed.ne_str_bool (bg I q (by simp))
  |int j=>obtain⟨t',rfl⟩:=ry;exact PySem.EqMixed.ne_str_int (bg I q (by simp))
  |str j=>obtain⟨t',rfl⟩:=ry;exact ne_str (bg I q (congrArg not yp))
  |_=>exact absurd (show false=true from hs) bH
 |AW i=>
  obtain⟨t,rfl⟩:=rx;cases y with
  |AW j=>obtain⟨t',rfl⟩:=ry;exact PySem.W.ne_bytes (bg I q (congrArg not yq))
  |_=>exact absurd (show false=true from hs) bH
 |_=>cases y <;> exact absurd (show false=true from hs) bH
theorem yr:jC X (compareOp .Lt) (EJ fun i j=>.bl (decide (i<j))):=II fun _ _ _ _ _ _ _ q=>lt_int q
theorem uC:jC X (compareOp .LtE) (EJ fun i j=>.bl (decide (i<=j))):=II fun _ _ _ _ _ _ _ q=>le_int q
theorem uD:jC X (compareOp .Gt) (EJ fun i j=>.bl (decide (j<i))):=II fun _ _ _ _ _ _ _ q=>gt_int q
theorem iR:jC X (compareOp .Is) (fun x y H Q=>y=.bp/\Q (.bl (decide (x=.bp))) H):=by
 intro ae s σ H x y v u Q I rx ry h;obtain⟨rfl,q⟩:=h;cases ry;refine is_none_gen (bg I q ?_);cases x <;> first
  |(cases rx;rfl)
  |(obtain⟨t,rfl⟩:=rx;rfl)
theorem nQ:jC X (compareOp .IsNot) (fun x y H Q=>y=.bp/\Q (.bl (!decide (x=.bp))) H):=by
 intro ae s σ H x y v u Q I rx ry h;obtain⟨rfl,q⟩:=h;cases ry;refine isnot_none_gen (bg I q ?_);cases x <;> first
  |(cases rx;rfl)
  |(obtain⟨t,rfl⟩:=rx;rfl)
theorem aQ(b:Expr)(h:op≠.In:=by decide)(h2:op≠.NotIn:=by decide):behindInMarks op b=false:=by
 have e1:(op==CmpOp.In)=false:=by cases op <;> first|rfl|exact absurd rfl h
 have e2:(op==CmpOp.NotIn)=false:=by cases op <;> first|rfl|exact absurd rfl h2
 cases b <;> simp[behindInMarks,e1,e2]
theorem fW(ho:jC X (compareOp op) r)(ha:PE X a ta)(hb:PE X b tb)(hm:behindInMarks op b=false):PE X (.Compare a [op] [b] pos) (kJ r ta tb):=by
 intro ae s σ H Q I h;exact wpAny_Compare1 (IG ha hb I h fun v u s2 x y H2 I2 rx ry q=>ho ae s2 σ H2 x y v u Q I2 rx ry q) hm
def ik(t:TE):TT:=fun σ H Q=>t σ H fun x H'=>∃k,x=.bl k/\Q k H'
theorem aI(ho:jC X (compareOp op) r)(ha:PE X a ta)(hb:PE X b tb)(hm:behindInMarks op b=false):PT X (.Compare a [op] [b] pos) (ik (kJ r ta tb)):=by
 intro ae s σ H Q I h;refine wpAny_isTrue_Compare1 (bZ (ha ae s σ H _ I h) fun v s1 ⟨x,H1,I1,r1,q1⟩=>bZ (hb ae s1 σ H1 _ I1 q1) fun u s2 ⟨y,H2,I2,r2,q2⟩=>
  bZ (ho ae s2 σ H2 x y v u _ I2 r1 r2 q2) fun c s3 ⟨z,H3,I3,r3,k,e,q3⟩=>?_) hm
 subst e;cases r3;exact iF ⟨H3,I3,q3⟩
def BY(r r':R2)(ta tb tc:TE):TE:=fun σ H Q=>ta σ H fun x H1=>tb σ H1 fun y H2=>r x y H2 fun z H3=>∃k,z=.bl k/\
 (if k=true then tc σ H3 fun w' H4=>r' y w' H4 Q else Q (.bl false) H3)
theorem BZ(ho:jC X (compareOp op) r)(qg:jC X (compareOp Lf) r')(ha:PE X a ta)(hb:PE X b tb)(hc:PE X c tc)(hm:lastMarks [op,Lf] [b,c]=false:=by with_unfolding_all rfl):PE X (.Compare a [op,Lf] [b,c] pos) (BY r r' ta tb tc):=by
 intro ae s σ H Q I h;refine Compare_chain (bZ (ha ae s σ H _ I h) fun v s1 ⟨x,H1,I1,r1,q1⟩=>chain_link (bZ (hb ae s1 σ H1 _ I1 q1) fun u s2 ⟨y,H2,I2,r2,q2⟩=>
  bZ (ho ae s2 σ H2 x y v u _ I2 r1 r2 q2) fun d s3 ⟨z,H3,I3,r3,k,e,q3⟩=>?_)) hm
 subst e;cases r3;refine iF ?_;cases k with
 |false=>exact ite_ff ⟨.bl false,H3,I3,rfl,q3⟩
 |true=>exact ite_tt (chain_last (bZ (hc ae s3 σ H3 _ I3 q3) fun w' s4 ⟨z',H4,I4,r4,q4⟩=>qg ae s4 σ H4 y z' u w' Q I4 r2 r4 q4))
theorem B0{op Lf:CmpOp}{r r':R2}(ho:jC X (compareOp op) r)(qg:jC X (compareOp Lf) r')(ha:PE X a ta)(hb:PE X b tb)(hc:PE X c tc)(hm:lastMarks [op,Lf] [b,c]=false:=by with_unfolding_all rfl):PT X (.Compare a [op,Lf] [b,c] pos) (ik (BY r r' ta tb tc)):=by
 intro ae s σ H Q I h;refine isTrue_chain (bZ (ha ae s σ H _ I h) fun v s1 ⟨x,H1,I1,r1,q1⟩=>test_link (bZ (hb ae s1 σ H1 _ I1 q1) fun u s2 ⟨y,H2,I2,r2,q2⟩=>
  bZ (ho ae s2 σ H2 x y v u _ I2 r1 r2 q2) fun d s3 ⟨z,H3,I3,r3,k,e,q3⟩=>?_)) hm
 subst e;cases r3;refine iF ?_;cases k with
 |false=>
  obtain⟨k',e',q'⟩:=q3;cases e';exact ite_ff ⟨H3,I3,q'⟩
 |true=>
  refine ite_tt (test_last (bZ (hc ae s3 σ H3 _ I3 q3) fun w' s4 ⟨z',H4,I4,r4,q4⟩=>bZ (qg ae s4 σ H4 y z' u w' _ I4 r2 r4 q4) fun d' s5 ⟨z2,H5,I5,r5,k2,e2,q5⟩=>?_));subst e2;cases r5;exact iF ⟨H5,I5,q5⟩
theorem sk:(sizeLine:Nat)<2 ^ 63:=by rw[iK];decide
theorem B1(r:aP [x] us):∃u,us=[u]/\bj x u:=by
 cases r with
 |cons r1 r2=>cases r2;exact⟨_,rfl,r1⟩
theorem B3(r:aP [x,y] us):∃u w',us=[u,w']/\bj x u/\bj y w':=by
 cases r with
 |cons r1 r2=>
  cases r2 with
  |cons r3 r4=>cases r4;exact⟨_,_,rfl,r1,r3⟩
theorem qk(hc:X.calm=true):eK X (.builtin "max") (fun xs H Q=>∃i j,xs=[.int i,.int j]/\Q (.int (if j > i then j else i)) H):=by
 intro ae s σ H xs us Q I r h;obtain⟨i,j,rfl,q⟩:=h;obtain⟨u,w',rfl,⟨t,rfl⟩,⟨t',rfl⟩⟩:=B3 r;refine max_two_ints (I.ok.hd hc) fun h' tk k=>⟨_,H,I.kept k,?_,q⟩
 by_cases hj:j > i
 .rw[ak hj,ak hj];exact⟨_,rfl⟩
 .rw[al hj,al hj];exact⟨_,rfl⟩
theorem ql(hc:X.calm=true):eK X (.builtin "min") (fun xs H Q=>∃i j,xs=[.int i,.int j]/\Q (.int (if j<i then j else i)) H):=by
 intro ae s σ H xs us Q I r h;obtain⟨i,j,rfl,q⟩:=h;obtain⟨u,w',rfl,⟨t,rfl⟩,⟨t',rfl⟩⟩:=B3 r;refine min_two_ints (I.ok.hd hc) fun h' tk k=>⟨_,H,I.kept k,?_,q⟩
 by_cases hj:j<i
 .rw[ak hj,ak hj];exact⟨_,rfl⟩
 .rw[al hj,al hj];exact⟨_,rfl⟩
end
structure w4(h:Heap)(x dx C:Addr)(mA:Str->Option Value):Prop where
 obj:h.get? x=some (PySem.W.instObj C dx)
 ns:h.Ns1 dx mA
 ne:dx≠x
theorem zI{h:Heap}{dx:Addr}{mA:Str->Option Value}(n:h.Ns1 dx mA):∃od,h.get? dx=some od/\∀name,PySem.W.lookIn name od=some (mA name):=by
 obtain⟨o,es,ep,ho,hd,hk,_,hm⟩:=n;refine⟨o,ho,fun name=>?_⟩;have e:=hm name;unfold nsFind findBy at e;rw[<-Array.find?_toList] at e;unfold PySem.W.lookIn;rw[hd];dsimp only;split
 .rename_i y q;rw[q] at e;exact congrArg some e
 .rename_i q;rw[q] at e;have a:es.toList.any (·.refKey)=false:=by
   rw[wB];intro y hy;obtain⟨z,t,pS⟩:=hk y (Array.mem_toList_iff.mp hy);simp[DictEntry.refKey,pS]
  have a':¬ es.toList.any (·.refKey)=true:=by rw[a];exact bH
  rw[al a'];exact congrArg some e
theorem w4.look(I:w4 h x dx C mA):∃od,PySem.W.InstAt h x (PySem.W.instObj C dx) C (some od)/\∀name,PySem.W.lookIn name od=some (mA name):=
 let ⟨od,ho,hl⟩:=zI I.ns
 ⟨od,⟨I.obj,rfl,rfl,ho⟩,hl⟩
section
variable {prog:Program} {w:World} {A:Around} {E:Value->Shared->Prop} {s:Shared} {K:PySem.W.Frag} {x dx C f:Addr} {mA:Str->Option Value} {name:Str} {v:Value}
theorem E3(X:K.In s.heap)(I:w4 s.heap x dx C mA)(hg:PySem.W.plainGet K C name=true)(hh:PySem.W.hasDictIn K C=true)(ha:PySem.W.findIn K (.ref C) name=some none)(hv:mA name=some v)(IL:PySem.W.handedIn v=true)(h:Q v { s with toks:=s.toks+1 }):
  wpAny (model prog w) A (getAttr (.ref x) name E4) Q E s:=by
 obtain⟨od,J,hl⟩:=I.look;exact PySem.W.get_value X J (wg hg).1 (PySem.W.findObj_own hh ha rfl (by rw[hl,hv])) IL h
theorem B4(X:K.In s.heap)(I:w4 s.heap x dx C mA)(hg:PySem.W.plainGet K C name=true)(hf:PySem.W.findIn K (.ref C) name=some (some (.ref f)))(ht:PySem.W.isFn K (.ref f)=true)(hv:mA name=none)(h:Q (.ref f,[.ref x]) s):
  wpAny (model prog w) A (getMethod (.ref x) name pl) Q E s:=by
 obtain⟨od,J,hl⟩:=I.look;exact PySem.W.method_fn X J (wg hg).1 (wg hg).2 hf (fD.mp ht) (by show (PySem.W.lookIn name od).map (·.isSome)=some false;rw[hl,hv];rfl) h
theorem E5(X:K.In s.heap)(I:w4 s.heap x dx C mA)(hs:PySem.W.findIn K (.ref C) "__setattr__"=some (some (.builtin "object.__setattr__")))(hp:PySem.W.plainOver K C=true)(ht:PySem.W.takerIn K C name=some none)(hh:PySem.W.hasDictIn K C=true)(hw:PySem.Within mA ns)(j9:ns.length<=sizeLine)(h:∀h',w4 h' x dx C (fun y=>if y=name then some v else mA y)->Heap.SameBut dx s.heap h'->Q () { s with heap:=h',toks:=s.toks+2 }):
  wpAny (model prog w) A (setAttr (.ref x) name v) Q E s:=by
 obtain⟨od,J,hl⟩:=I.look;refine PySem.W.set_plain X J hs (PySem.W.osa_open (s:={ s with toks:=s.toks+1 }) (r:=none) X J hp ht fun b=>?_);obtain⟨cd,hc,Br⟩:=PySem.W.any_some hh;have hx:s.heap.get? x=some ⟨.ref C,some dx,.plain,#[]⟩:=I.obj;refine ap (wpAny_pure (ap (ap (wpAny_loadPart hx (ap (PySem.W.Looks.here (s:={ s with toks:=s.toks+1 }) (PySem.W.looks_clsIn X hc) ?_))))));rw[Br];refine wpAny_pure (a:=some dx) (ap (wpAny_pure (ap ?_)));refine wpAny_nsSet1 (s:={ s with toks:=s.toks+1 }) I.ns fun h' Lg vL=>?_;obtain⟨oD,ZU,ZV,WJ,L8,E6⟩:=Lg.count (PySem.Within.cons name v hw);refine ap (wpAny_lookBehind WJ (by rw[L8];exact pastItsLine_dict (bf E6 (by rw[dt];lia))) ?_);exact wpAny_pure (h _ ⟨(vL.2 _ (cW I.ne)).trans I.obj,Lg,I.ne⟩ vL)
theorem B5(X:K.In s.heap)(hm:PySem.W.makesIn K C=true)(hi:PySem.W.findIn K (.ref C) "__init__"=some (some (.ref f)))(hf:PySem.W.typeIn K (.ref f)=some (.type "function"))(h:codeAny (model prog w) (A.under (.builtin "type.__call__" ⟨.ref C::vs,kw⟩)) (.call (.ref f) ⟨.ref (s.heap.objs.size+1)::vs,kw⟩) (PySem.W.InitBack (s.heap.objs.size+1) R)
   { s with heap:=(s.heap.push PySem.W.emptyDict).push (PySem.W.instObj C s.heap.objs.size) }):
  codeAny (model prog w) A (.call (.ref C) ⟨vs,kw⟩) R s:=by
 obtain⟨hh,g,d,t,os⟩:=s;exact PySem.W.make_core (PySem.W.makes_of X hm) (PySem.W.looks_findIn X hi) (fun self=>PySem.W.bind_fn X self hf) (.inl rfl) h
end
def ck(f:Str)(v:V):List (Str×V)->List (Str×V)
 |[]=>[(f,v)]
 |(g,x)::r=>if g=f then (g,v)::r else (g,x)::ck f v r
theorem aR(f g:Str)(v:V):∀fs:List (Str×V),(ck f v fs).lookup g=if g=f then some v else fs.lookup g
 |[]=>by
  show List.lookup g [(f,v)]=_;by_cases h:g=f
  .have hb:(g==f)=true:=fD.mpr h;simp only[List.lookup,hb,ak h]
  .have hb:(g==f)=false:=lB.mpr h;simp only[List.lookup,hb,al h]
 |(k,x)::r=>by
  have ih:=aR f g v r;rw[show ck f v ((k,x)::r)=(if k=f then (k,v)::r else (k,x)::ck f v r) from rfl];by_cases hk:k=f
  .rw[ak hk];by_cases h:g=k
   .have hb:(g==k)=true:=fD.mpr h;simp only[List.lookup,hb,ak (h.trans hk)]
   .have hb:(g==k)=false:=lB.mpr h;simp only[List.lookup,hb,al (fun e:g=f=>h (e.trans hk.symm))]
  .rw[al hk];by_cases h:g=k
   .have hb:(g==k)=true:=fD.mpr h;simp only[List.lookup,hb,al (fun e:g=f=>hk (h.symm.trans e))]
   .have hb:(g==k)=false:=lB.mpr h;simp only[List.lookup,hb];exact ih
theorem lV(f:Str)(v:V):∀fs:List (Str×V),f∈(ck f v fs).map (·.1)/\∀g,g∈fs.map (·.1)->g∈(ck f v fs).map (·.1)
 |[]=>⟨by simp[ck],fun g h=>by simp at h⟩
 |(k,x)::r=>by
  obtain⟨i1,i2⟩:=lV f v r;rw[show ck f v ((k,x)::r)=(if k=f then (k,v)::r else (k,x)::ck f v r) from rfl];by_cases hk:k=f
  .rw[ak hk];subst hk;exact⟨by simp,fun g h=>by simpa using h⟩
  .rw[al hk];refine⟨?_,fun g h=>?_⟩
   .rw[f9];exact bz _ i1
   .rw[f9] at h |-;rcases bo.mp h with e|e
    .exact bo.mpr (.inl e)
    .exact bz _ (i2 g e)
theorem de(f:Str)(v:V):∀fs:List (Str×V),(ck f v fs).length<=fs.length+1
 |[]=>by simp[ck]
 |(k,x)::r=>by
  have ih:=de f v r;rw[show ck f v ((k,x)::r)=(if k=f then (k,v)::r else (k,x)::ck f v r) from rfl];by_cases hk:k=f
  .rw[ak hk,dt,dt];lia
  .rw[al hk,dt,dt];lia
theorem pP.some_of(r:pP (some v) o):∃u,o=some u/\bj v u:=by
 cases o with
 |none=>exact(show False from r).elim
 |some u=>exact⟨u,rfl,r⟩
theorem pP.none_of(r:pP none o):o=none:=by
 cases o with
 |none=>rfl
 |some u=>exact(show False from r).elim
theorem zJ(r:bj v u):PySem.W.handedIn u=true:=by
 cases v with
 |bp=>cases (show u=Value.none from r);rfl
 |bl b=>cases (show u=Value.bool b from r);rfl
 |int i=>obtain⟨t,e⟩:=(show ∃t,u=Value.int i t from r);cases e;rfl
 |str x=>obtain⟨t,e⟩:=(show ∃t,u=Value.str x t from r);cases e;rfl
 |AW b=>obtain⟨t,e⟩:=(show ∃t,u=Value.bytes b t from r);cases e;rfl
 |Iv b=>obtain⟨t,e⟩:=(show ∃t,u=Value.float b t from r);cases e;rfl
 |ref a=>cases (show u=Value.ref a from r);rfl
 |ty n=>cases (show u=Value.type n from r);rfl
section
variable {P:Program} {w:World} {H H':Hp} {h h':Heap} {a C dx:Addr} {fs WD:List (Str×V)}
theorem nR(br:j6 P w H h)(e:H a=some (.ins C dx fs)):∃mA,w4 h a dx C mA/\(∀f,pP (fs.lookup f) (mA f))/\PySem.Within mA (fs.map (·.1))/\fs.length<=1000/\H dx=some (.own a):=by
 obtain⟨d,z,ne,ob,mA,n,r,q⟩:=(show ci P w H h a (.ins C dx fs) from br a _ e)
 exact⟨mA,⟨ob,n,ne⟩,r,q,z,d⟩
end
structure A0(K:PySem.W.Frag)(C:Addr):Prop where
 pg:PySem.W.plainGet K C Str.empty=true
 hd:PySem.W.hasDictIn K C=true
 po:PySem.W.plainOver K C=true
 sa:PySem.W.findIn K (.ref C) "__setattr__"=some (some (.builtin "object.__setattr__"))
theorem A0.get{K:PySem.W.Frag}{C:Addr}(c:A0 K C)(f:Str):PySem.W.plainGet K C f=true:=c.pg
def eT(K:PySem.W.Frag)(C:Addr)(f:Str):Prop:=PySem.W.findIn K (.ref C) f=some none
theorem eT.L9{K:PySem.W.Frag}{C:Addr}{f:Str}(n:eT K C f):PySem.W.takerIn K C f=some none:=by
 unfold PySem.W.takerIn;rw[show PySem.W.findIn K (.ref C) f=some none from n];rfl
structure E7(K:PySem.W.Frag)(C:Addr)(m:Str)(f:Addr):Prop where
 at_:PySem.W.findIn K (.ref C) m=some (some (.ref f))
 fn:PySem.W.isFn K (.ref f)=true
 kp:PySem.W.keepIn K (.ref f)=true
section
variable {X:Cx} {ae:List (Addr×Obj)} {σ:St} {H:Hp} {s:Shared} {a C dx:Addr} {fs:List (Str×V)} {f:Str} {v:V} {A:Around} {E:Value->Shared->Prop}
theorem w6(I:aD X ae σ H s)(e:H a=some (.ins C dx fs))(c:A0 X.K C)(n:eT X.K C f)(l:fs.lookup f=some v)(h:∀u s',aD X ae σ H s'->bj v u->Q u s'):wpAny (model X.prog X.w) A (getAttr (.ref a) f b) Q E s:=by
 obtain⟨mA,O,r,_,_,_⟩:=nR I.br e;obtain⟨u,hu,ru⟩:=pP.some_of (v:=v) (o:=mA f) (by rw[<-l];exact r f);exact E3 I.j7 O (c.get f) c.hd n hu (zJ ru) (h u _ (I.tok _) ru)
theorem oU(I:aD X ae σ H s)(e:H a=some (.ins C dx fs))(c:A0 X.K C)(k:E7 X.K C m g)(l:fs.lookup m=none)(h:Q (.ref g,[.ref a]) s):wpAny (model X.prog X.w) A (getMethod (.ref a) m pl) Q E s:=by
 obtain⟨mA,O,r,_,_,_⟩:=nR I.br e;have hn:mA m=none:=pP.none_of (by rw[<-l];exact r m);exact B4 I.j7 O (c.get m) k.at_ k.fn hn h
theorem w9(I:aD X ae σ H s)(e:H a=some (.ins C dx fs))(c:A0 X.K C)(n:eT X.K C f)(hl:fs.length<1000)(ry:bj y u)(h:∀s',aD X ae σ (upd H a (.ins C dx (ck f y fs))) s'->Q () s'):wpAny (model X.prog X.w) A (setAttr (.ref a) f u) Q E s:=by
 obtain⟨mA,O,r,wi,_,ho⟩:=nR I.br e;have hz:(fs.map (·.1)).length<=sizeLine:=by rw[aW,iK];lia
 refine E5 I.j7 O c.sa c.po n.L9 c.hd wi hz fun h' O' sb=>h _ ?_;have hd:∃o,h'.get? dx=some o:=let ⟨o,_,_,e',_⟩:=O'.ns;⟨o,e'⟩;refine I.write (x:=a) (e:=dx) (by rw[e];exact True.intro) (.inr ho) (fun b q hb z=>(sb.2 b hb).trans z) hd ?_;refine⟨by rw[ao O.ne];exact ho,?_,O.ne,O'.obj,_,O'.ns,fun g=>?_,fun g hg=>?_⟩
 .have:=de f y fs;lia
 .show pP ((ck f y fs).lookup g) (if g=f then some u else mA g);rw[aR];by_cases q:g=f
  .rw[ak q,ak q];exact ry
  .rw[al q,al q];exact r g
 .by_cases q:g=f
  .rw[q];exact(lV f y fs).1
  .refine(lV f y fs).2 g (wi g fun z=>hg ?_);show (if g=f then some u else mA g)=none;rw[al q];exact z
theorem aD.made(I:aD X ae σ H s):aD X ae σ (upd (upd H s.heap.objs.size (.own (s.heap.objs.size+1))) (s.heap.objs.size+1) (.ins C s.heap.objs.size []))
  { s with heap:=(s.heap.push PySem.W.emptyDict).push (PySem.W.instObj C s.heap.objs.size) }:=by
 have e1:(s.heap.push PySem.W.emptyDict).get? s.heap.objs.size=some PySem.W.emptyDict:=cI s.heap rfl;have e2:((s.heap.push PySem.W.emptyDict).push (PySem.W.instObj C s.heap.objs.size)).get? (s.heap.objs.size+1)=some (PySem.W.instObj C s.heap.objs.size):=by
  have:=cI (s.heap.push PySem.W.emptyDict) (o:=PySem.W.instObj C s.heap.objs.size) rfl;rwa [gI] at this
 have e3:(s.heap.push PySem.W.emptyDict).Ns s.heap.objs.size (fun _=>none):=⟨PySem.W.emptyDict,#[],_,e1,rfl,(fun e he=>absurd he (by simp)),fun _=>rfl⟩
 have I1:=I.laid (a:=s.heap.objs.size) (o:=.own (s.heap.objs.size+1)) (h':=s.heap.push PySem.W.emptyDict) (t':=s.toks) (fun b u q=>cf _ q) (aN _) ⟨_,e1⟩;refine I1.laid (a:=s.heap.objs.size+1) (o:=.ins C s.heap.objs.size []) (t':=s.toks) (fun b u q=>cf _ q) (rZ (gI _ _)) ?_;have ne:s.heap.objs.size≠s.heap.objs.size+1:=aY (kD _);refine⟨by rw[ao ne,ah],cS _,ne,e2,fun _=>none,(Heap.Ns1.of_empty e3).at fun o q=>cf _ q,fun _=>True.intro,fun y hy=>absurd rfl hy⟩
theorem E8(hb:attributeBase e f env (eval e env)=eval e env)(h:wpAny (model prog w) A (eval e env) (fun o s₁=>wpAny (model prog w) A (getAttr o f true) Q E s₁) E s):wpAny (model prog w) A (eval (.Attribute e f pos) env) Q E s:=
 Attribute_any_ h (by rw[arm_eval_Attribute,hb])
end
def L_(K:PySem.W.Frag)(ta:TE)(f:Str):TE:=fun σ H Q=>ta σ H fun x H1=>∃a C dx fs v,x=.ref a/\H1 a=some (.ins C dx fs)/\A0 K C/\eT K C f/\fs.lookup f=some v/\Q v H1
def QC(K:PySem.W.Frag)(ta tv:TE)(f:Str):TS:=fun D σ H=>tv σ H fun y H1=>ta σ H1 fun x H2=>∃a C dx fs,x=.ref a/\H2 a=some (.ins C dx fs)/\A0 K C/\eT K C f/\fs.length<1000/\
 D.nx σ (upd H2 a (.ins C dx (ck f y fs)))
section
variable {X:Cx} {o e value:Expr} {f:Str} {pos zF Ma:Pos} {ta tv:TE}
theorem gT(he:PE X e ta)(hb:attributeBase e f X.env (eval e X.env)=eval e X.env):PE X (.Attribute e f pos) (L_ X.K ta f):=by
 intro ae s σ H Q I h;refine E8 hb (bZ (he ae s σ H _ I h) fun u s1 ⟨x,H1,I1,rx,a,C,dx,fs,v,ex,ea,c,n,l,q⟩=>?_);subst ex;obtain rfl:u=Value.ref a:=rx;exact w6 I1 ea c n l fun u' s2 I2 ru=>⟨v,H1,I2,ru,q⟩
theorem lW(ha:PE X o ta)(hv:PE X value tv)(hs:swapsWith value (some (.Attribute o f zF)) pos.line X.env=pure false):PS X (.Assign [.Attribute o f zF] value pos) (QC X.K ta tv f):=by
 intro ae s σ H D I h;refine plainObj_wpAny_Assign_Attribute (bZ (hv ae s σ H _ I h) fun u s1 ⟨y,H1,I1,ry,q⟩=>bZ (ha ae s1 σ H1 _ I1 q) fun ov s2 ⟨x,H2,I2,rx,a,C,dx,fs,ex,ea,c,n,l,q2⟩=>?_) hs;subst ex;obtain rfl:ov=Value.ref a:=rx;exact w9 I2 ea c n l ry fun s3 I3=>⟨σ,_,I3,q2⟩
end
section
variable {X:Cx} {ae:List (Addr×Obj)} {σ:St} {H:Hp} {s:Shared} {A:Around} {E:Value->Shared->Prop} {Q:Value->Shared->Prop} {c:Value} {b:Bool}
inductive lX (K:PySem.W.Frag) (H:Hp):V->Value->Prop where
 |bp:lX K H .bp (.type "NoneType")
 |bl (x:Bool):lX K H (.bl x) (.type "bool")
 |int (i:Int):lX K H (.int i) (.type "int")
 |str (x:Str):lX K H (.str x) (.type "str")
 |Iv (x:UInt64):lX K H (.Iv x) (.type "float")
 |lst {a:Addr} {xs:List V} (e:H a=some (.lst xs)):lX K H (.ref a) (.type "list")
 |qf {a:Addr} {o:Obj} {xs:List V} (e:H a=some (.qf o (.lst xs))):lX K H (.ref a) (.type "list")
 |tup {a:Addr} {xs:List V} (e:H a=some (.tup xs)):lX K H (.ref a) (.type "tuple")
 |dK {a:Addr} {kG:List (pO×V)} (e:H a=some (.dK kG)):lX K H (.ref a) (.type "dict")
 |dT {a:Addr} {kG:List (List pO×V)} (e:H a=some (.dT kG)):lX K H (.ref a) (.type "dict")
 |ins {a C dx:Addr} {fs:List (Str×V)} (e:H a=some (.ins C dx fs)) (cl:A0 K C) (ha:PySem.W.findIn K (.ref C) "__class__"=some (some (.builtin "object.__class__")))
   (hn:PySem.W.specialIn K (.builtin "object.__class__") "__get__"=some (some (.builtin "getset_descriptor.__get__"))) (QD:PySem.W.takesIn K (.builtin "object.__class__")=some true)
   (hm:PySem.W.mroIn K C (.type "object")=some true):lX K H (.ref a) (.ref C)
theorem qm(I:aD X ae σ H s)(rx:bj x u)(ty:lX X.K H x t)(e:PySem.W.kitOne X.K t c=some b)(h:∀tk,Q (.bool b) { s with toks:=tk }):
  wpAny (model X.prog X.w) A (call (.builtin "isinstance") [u,c]) Q E s:=by
 cases ty with
 |bp=>cases (show u=Value.none from rx);exact gj PySem.W.kitx_none I.j7 True.intro e (fun z=>nomatch z) h
 |bl y=>cases (show u=Value.bool y from rx);exact gj PySem.W.kitx_bool I.j7 True.intro e (fun z=>nomatch z) h
 |int i=>obtain⟨t,q⟩:=(show ∃t,u=Value.int i t from rx);cases q;exact gj PySem.W.kitx_int I.j7 True.intro e (fun z=>nomatch z) h
 |str y=>obtain⟨t,q⟩:=(show ∃t,u=Value.str y t from rx);cases q;exact gj PySem.W.kitx_str I.j7 True.intro e (fun z=>nomatch z) h
 |Iv y=>obtain⟨t,q⟩:=(show ∃t,u=Value.float y t from rx);cases q;exact gj PySem.W.kitx_float I.j7 True.intro e (fun z=>nomatch z) h
 |@lst a xs ea=>
  cases (show u=Value.ref a from rx);obtain⟨_,_,n,_,h1⟩:=(show ci X.prog X.w H s.heap a (.lst xs) from I.br a _ ea)
  exact gj PySem.W.kitx_list I.j7 ⟨_,h1,rfl⟩ e (fun z=>nomatch z) h
 |@qf a ob xs ea=>
  cases (show u=Value.ref a from rx);obtain⟨_,_,_,n,_,h1⟩:=(show ci X.prog X.w H s.heap a (.qf ob (.lst xs)) from I.br a _ ea)
  exact gj PySem.W.kitx_list I.j7 ⟨_,h1,rfl⟩ e (fun z=>nomatch z) h
 |@tup a xs ea=>
  cases (show u=Value.ref a from rx);obtain⟨_,_,_,p⟩:=(show ci X.prog X.w H s.heap a (.tup xs) from I.br a _ ea)
  obtain⟨o,h1,h2,_⟩:=p;exact gj PySem.W.kitx_tuple I.j7 ⟨o,h1,h2⟩ e (fun z=>nomatch z) h
 |@dK a kG ea=>
  cases (show u=Value.ref a from rx);obtain⟨_,_,vs,_,p⟩:=(show ci X.prog X.w H s.heap a (.dK kG) from I.br a _ ea)
  obtain⟨o,es,ep,h1,h2,_⟩:=p;exact gj PySem.W.kitx_dict I.j7 ⟨o,h1,h2.1⟩ e (fun z=>nomatch z) h
 |@dT a kG ea=>
  cases (show u=Value.ref a from rx);obtain⟨_,_,xs,_,o,es,ep,h1,h2,_⟩:=(show ci X.prog X.w H s.heap a (.dT kG) from I.br a _ ea)
  exact gj PySem.W.kitx_dict I.j7 ⟨o,h1,h2.1⟩ e (fun z=>nomatch z) h
 |@ins a C dx fs ea cl ha hn QD hm=>
  cases (show u=Value.ref a from rx);obtain⟨mA,O,_⟩:=nR I.br ea;obtain⟨od,J,_⟩:=O.look;exact gj (PySem.W.kitx_own (cl.get _) cl.hd ha hn QD hm) I.j7 J e (fun z=>nomatch z) h
end
structure aZ(k:Nat)(A:Around):Prop where
 hd:A.handled=none
 dp:A.depth+3*k+5<recursionLimit
 un:A.units+16*k+200<cLine
 gd:A.guards=some []
theorem aZ.mono(r:aZ k A)(h:j<=k):aZ j A:=⟨r.hd,by have:=r.dp;lia,by have:=r.un;lia,r.gd⟩
theorem aZ.deeper(r:aZ (k+1) A)(env:Env):aZ k (A.deeper env):=
 ⟨r.hd,by have:=r.dp;show A.depth+1+3*k+5<_;lia,by have:=r.un;show A.units+3+16*k+200<_;lia,r.gd⟩
theorem aZ.in1(r:aZ (k+1) A):aZ k A.in1:=
 ⟨r.hd,by have:=r.dp;show A.depth+3*k+5<_;lia,by have:=r.un;show A.units+1+16*k+200<_;lia,r.gd⟩
theorem w_{A:Around}{C:Addr}{us:List Value}{kw:List (Str×Value)}:(A.under (.builtin "type.__call__" ⟨.ref C::us,kw⟩)).depth=A.depth+1:=by
 first|rfl|simp[Around.under,Code.weight,Code.isCreation,Code.isGuard,Code.isCaller,Code.frames,Code.isFrame,guardIds]
theorem xb{A:Around}{C:Addr}{us:List Value}{kw:List (Str×Value)}:(A.under (.builtin "type.__call__" ⟨.ref C::us,kw⟩)).units=A.units+1:=by
 first|rfl|simp[Around.under,Code.cUnits,Code.frames,Code.isFrame]
theorem aZ.make(r:aZ (k+1) A)(C:Addr)(us:List Value)(kw:List (Str×Value)):aZ k (A.under (.builtin "type.__call__" ⟨.ref C::us,kw⟩)):=
 ⟨r.hd,by have:=r.dp;rw[w_];lia,by have:=r.un;rw[xb];lia,r.gd⟩
theorem aZ.depth(r:aZ k A):A.depth<recursionLimit:=by have:=r.dp;lia
theorem aZ.u(r:aZ k A)(h:n<=200:=by decide):A.units+n<cLine:=by have:=r.un;lia
def gU:TA:=fun _ H Q=>Q [] H
def bF(ta:TE)(tr:TA):TA:=fun σ H Q=>ta σ H fun x H1=>tr σ H1 fun xs H2=>Q (x::xs) H2
section
variable {X:Cx} {e:Expr} {es:List Expr} {te:TE} {t:TA} {pos:Pos}
theorem af:PA X [] gU:=fun _ _ _ _ H Q I h=>Calls.spliced_nil ⟨[],H,I,.nil,h⟩
theorem aa(ha:PE X e te)(hr:PA X es t)(hs:starEach (e::es) X.env=(false,eval e X.env)::starEach es X.env:=by rfl):PA X (e::es) (bF te t):=by
 intro pos ae s σ H Q I h;rw[hs];show wpAny _ _ (spliced ((false,eval e X.env)::backTo pos (starEach es X.env))) _ _ s;refine Calls.spliced_cons (bZ (ha ae s σ H _ I h) fun u s1 ⟨x,H1,I1,r1,q1⟩=>?_);exact bZ (hr pos ae s1 σ H1 _ I1 q1) fun us s2 ⟨xs,H2,I2,r2,q2⟩=>⟨x::xs,H2,I2,.cons r1 r2,q2⟩
def IM(t:TA):TE:=fun σ H Q=>t σ H fun xs H1=>xs.length<=sizeLine/\∀p,H1 p=none->Q (.ref p) (upd H1 p (.tup xs))
def Mb(t:TA):TE:=fun σ H Q=>t σ H fun xs H1=>xs.length<=sizeLine/\∀p,H1 p=none->Q (.ref p) (upd H1 p (.lst xs))
theorem lY{x1}(h:PA X es t):PE X (.Tuple es x1 pos) (IM t):=by
 intro ae s σ H Q I hq;refine wpAny_Tuple_spliced (bZ (h pos ae s σ H _ I hq) fun us s1 ⟨xs,H1,I1,r,z,q⟩=>⟨by rw[<-r.length];exact z,?_⟩);have hf:H1 s1.heap.objs.size=none:=I1.br.fresh (aN _);refine⟨.ref s1.heap.objs.size,upd H1 s1.heap.objs.size (.tup xs),I1.laid (t':=s1.toks) (fun b u e=>cf _ e) (aN _) ?_,rfl,q _ hf⟩;exact⟨z,us,r,⟨_,cI _ rfl,rfl,_,rfl,rfl⟩⟩
theorem cu(h:PA X es t):PE X (.List es pos) (Mb t):=by
 intro ae s σ H Q I hq;refine wpAny_List_spliced (bZ (h pos ae s σ H _ I hq) fun us s1 ⟨xs,H1,I1,r,z,q⟩=>⟨by rw[<-r.length];exact z,?_⟩);have hf:H1 s1.heap.objs.size=none:=I1.br.fresh (aN _);refine⟨.ref s1.heap.objs.size,upd H1 s1.heap.objs.size (.lst xs),I1.laid (t':=s1.toks) (fun b u e=>cf _ e) (aN _) ?_,rfl,q _ hf⟩;exact⟨z,us,0,r,cI _ rfl⟩
end
abbrev Sp:=List V->Hp->VK->XK->Prop
abbrev nU:=List Env->Hp->Shared->XK->Value->Shared->Prop
structure sq(P:Program)(w:World)(K:PySem.W.Frag)(mg:Str->Option Value)(base:Heap)(A:Around)(outer:List Env)(s:Shared)(H:Hp):Prop where
 frames:A.frames=some outer
 mod:Mod K mg base
 bs:∀b o,base.get? b=some o->s.heap.get? b=some o/\H b=none
 yj:base.objs.size<=s.heap.objs.size
 iO:s.heap.FunFrames base outer
 AY:∀b∈jB outer,H b=none
 br:j6 P w H s.heap
 bare:AllBare s.gens
def CE(outer:List Env)(P:Program)(w:World)(H:Hp)(s:Shared)(Q:VK)(u:Value)(s':Shared):Prop:=
 ∃v H',s'.os=s.os/\AllBare s'.gens/\Un (jB outer) [] H H' s.heap s'.heap/\j6 P w H' s'.heap/\bj v u/\Q v H'
def CR(CX:nU)(outer:List Env)(P:Program)(w:World)(H:Hp)(s:Shared)(Q:VK)(E:XK)(r:Result)(s':Shared):Prop:=
 match r with
 |.ok (.ret u)=>CE outer P w H s Q u s'
 |.ok _=>False
 |.error e=>CX outer H s E e s'
structure a9(P:Program)(w:World)(K:PySem.W.Frag)(mg:Str->Option Value)(base:Heap)(CX:nU)(k:Nat)(f:Addr)(fd:FuncData)(ps:List Str)(sp:Sp):Prop where
 len:∀vs H Q E,sp vs H Q E->vs.length=ps.length
 run:∀ (A:Around) (outer:List Env) (s:Shared) (H:Hp) (args:Args) (us:List Value) (vs:List V) (Q:VK) (E:XK),aZ k A->sq P w K mg base A outer s H->BindsTo s fd args (ps.zip us)->aP vs us->sp vs H Q E->
  codeAny (model P w) A (.call (.ref f) args) (CR CX outer P w H s Q E) s
theorem sq.make{P:Program}{w:World}{K:PySem.W.Frag}{mg:Str->Option Value}{base:Heap}{A:Around}{outer:List Env}{s:Shared}{H:Hp}(e:sq P w K mg base A outer s H)(C:Addr)(us:List Value)(kw:List (Str×Value)):
  sq P w K mg base (A.under (.builtin "type.__call__" ⟨.ref C::us,kw⟩)) outer s H:=⟨by first|exact e.frames|(simpa [Around.under,Code.envs,Code.isFrame,pushEnvs] using e.frames),e.mod,e.bs,e.yj,e.iO,e.AY,e.br,e.bare⟩
section
variable {X:Cx} {ae:List (Addr×Obj)} {σ:St} {H:Hp} {s s':Shared}
theorem aD.E9(I:aD X ae σ H s):sq X.prog X.w X.K X.mg X.base X.A X.stack s H:=
 ⟨I.ok.frames,I.ok.mod,I.bs,bf I.ok.yj I.sz,I.stack,I.nK,I.br,I.bare⟩
theorem aD.after(I:aD X ae σ H s)(h:CE X.stack X.prog X.w H s Q u s'):EP X ae σ Q u s':=by
 obtain⟨v,H',os,bare,un,br,r,q⟩:=h;obtain⟨hh,g,d,t,WK⟩:=s';obtain rfl:WK=s.os:=os;exact⟨v,H',I.call (h':=hh) (g':=g) (d':=d) (t':=t) (ch:=[]) un br bare (fun b z=>absurd z (by simp)),r,q⟩
end
def kL(sp:Sp)(il:List V)(E:XK)(t:TA):TE:=fun σ H Q=>t σ H fun vs H1=>sp (vs++il) H1 Q E
def yt(C:Addr)(m:Str)(sp:Sp)(il:List V)(E:XK)(ta:TE)(t:TA):TE:=fun σ H Q=>ta σ H fun x H1=>∃a dx fs,x=.ref a/\H1 a=some (.ins C dx fs)/\fs.lookup m=none/\
 t σ H1 fun vs H2=>sp (x::(vs++il)) H2 Q E
def Mc(C:Addr)(sp:Sp)(il:List V)(E:XK)(t:TA):TE:=fun σ H Q=>t σ H fun vs H1=>∀x dx,H1 x=none->H1 dx=none->dx≠x->
 sp (.ref x::(vs++il)) (upd (upd H1 dx (.own x)) x (.ins C dx [])) (fun v H2=>v=.bp/\Q (.ref x) H2) E
def eL(K:PySem.W.Frag)(fd:FuncData)(ps:List Str)(ds:List Value):Prop:=
 ∀ (s:Shared) (us:List Value),K.In s.heap->(us++ds).length=ps.length->BindsTo s fd ⟨us,[]⟩ (ps.zip (us++ds))
theorem eL.all{K:PySem.W.Frag}{fd:FuncData}{ps:List Str}(h:∀us:List Value,us.length=ps.length->bindArgs fd ⟨us,[]⟩=pure (ps.zip us)):eL K fd ps []:=fun s us _ hl=>by
 rw[rO] at hl |-;exact .of_eq (h us hl)
def eU(CX:nU)(X:Cx)(E:XK):Prop:=∀ (ae:List (Addr×Obj)) (σ:St) (H:Hp) (s:Shared) (e:Value) (s':Shared),aD X ae σ H s->CX X.stack H s E e s'->X.xe e s'
section
variable {X:Cx} {CX:nU} {k:Nat} {f C:Addr} {fd:FuncData} {ps:List Str} {sp:Sp} {il:List V} {ds:List Value} {E:XK} {x m:Str} {p pos m7:Pos} {e o:Expr} {es:List Expr} {ta:TE} {t:TA}
theorem xc(F:a9 X.prog X.w X.K X.mg X.base CX k f fd ps sp)(hr:aZ k X.A)(hb:eL X.K fd ps ds)(hd:aP il ds)(hx:eU CX X E)(I:aD X ae σ H s)(r:aP vs us)(h:sp (vs++il) H Q E):wpAny (model X.prog X.w) X.A (call (.ref f) us) (EP X ae σ Q) X.xe s:=by
 have r2:aP (vs++il) (us++ds):=r.append hd;have hl:(us++ds).length=ps.length:=by rw[<-r2.length];exact F.len _ _ _ _ h
 refine jY (iI (F.run X.A X.stack s H ⟨us,[]⟩ (us++ds) (vs++il) Q E hr I.E9 (hb s us I.j7 hl) r2 h) fun r s' hq=>?_);cases r with
 |error e=>exact hx ae σ H s e s' I hq
 |ok fl=>
  cases fl with
  |ret u=>exact I.after hq
  |next=>exact False.elim hq
  |brk=>exact False.elim hq
  |cont=>exact False.elim hq
theorem E_(F:a9 X.prog X.w X.K X.mg X.base CX k f fd ps sp)(hr:aZ k X.A)(hg:Gl X x)(hm:X.mg x=some (.ref f))(hk:PySem.W.keepIn X.K (.ref f)=true)(hb:eL X.K fd ps ds)(hd:aP il ds)(hx:eU CX X E)(ha:PA X (e::es) t)(m8:(x==("__debug__":Str))=false:=by decide)(he:starEach (e::es) X.env=(false,eval e X.env)::starEach es X.env:=by rfl)(mG:(backTo pos (starEach es X.env)).any (·.1)=false:=by rfl):
  PE X (.Call (.Name x p) (e::es) [] pos) (kL sp il E t):=by
 intro ae s σ H Q I h;refine jQ (jk I hg hm ?_ m8);refine ow (h₀:=X.base) I.ok.mod.EH hk (bZ (ha pos ae s σ H _ I h) fun us s1 ⟨vs,H1,I1,r,q⟩=>⟨I1.j7,?_⟩) he mG;exact xc F hr hb hd hx I1 r q
theorem cM(he:PE X o ta)(c:A0 X.K C)(hm:E7 X.K C m f)(F:a9 X.prog X.w X.K X.mg X.base CX k f fd ps sp)(hr:aZ k X.A)(hb:eL X.K fd ps ds)(hd:aP il ds)(hx:eU CX X E)(ha:PA X (e::es) t)(fh:starEach (e::es) X.env=(false,eval e X.env)::starEach es X.env:=by rfl)(mG:(backTo pos (starEach es X.env)).any (·.1)=false:=by rfl)(ht:eval (.Call (.Attribute o m m7) (e::es) [] pos) X.env=(do
   let ov <- eval o X.env
   standAt m7.atName
   let (f,first) <- holding [ov] (getMethod ov m pl)
   callWith pos f first (backTo pos (starEach (e::es) X.env)) (backToKw pos (keywordEach [] X.env))):=by rfl):
  PE X (.Call (.Attribute o m m7) (e::es) [] pos) (yt C m sp il E ta t):=by
 intro ae s σ H Q I h;refine PySem.W.methodCall_KW (pl:=pl) (bZ (he ae s σ H _ I h) fun u s1 ⟨x,H1,I1,rx,a,dx,fs,ex,ea,l,q⟩=>?_) ht;subst ex;obtain rfl:u=Value.ref a:=rx;refine oU I1 ea c hm l ?_;refine ow (first:=[.ref a]) (h₀:=X.base) I.ok.mod.EH hm.kp (bZ (ha pos ae s1 σ H1 _ I1 q) fun us s2 ⟨vs,H2,I2,r,q2⟩=>⟨I2.j7,?_⟩) fh mG;exact xc (us:=.ref a::us) (vs:=.ref a::vs) F hr hb hd hx I2 (.cons rfl r) q2
theorem uE{pl:Sem Bool}(he:PE X o ta)(c:A0 X.K C)(hm:E7 X.K C m f)(F:a9 X.prog X.w X.K X.mg X.base CX k f fd ps sp)(hr:aZ k X.A)(hb:eL X.K fd ps ds)(hd:aP il ds)(hx:eU CX X E)(ht:eval (.Call (.Attribute o m m7) [] [] pos) X.env=(do
   let ov <- eval o X.env
   standAt m7.atName
   let (f,first) <- holding [ov] (getMethod ov m pl)
   callWith pos f first (backTo pos (starEach [] X.env)) (backToKw pos (keywordEach [] X.env))):=by rfl):
  PE X (.Call (.Attribute o m m7) [] [] pos) (yt C m sp il E ta gU):=by
 intro ae s σ H Q I h;refine PySem.W.methodCall_KW (pl:=pl) (bZ (he ae s σ H _ I h) fun u s1 ⟨x,H1,I1,rx,a,dx,fs,ex,ea,l,q⟩=>?_) ht;subst ex;obtain rfl:u=Value.ref a:=rx;refine oU I1 ea c hm l ?_;exact PySem.W.callWith_K0 (first:=[.ref a]) I1.j7 hm.kp (xc (us:=[.ref a]) (vs:=[.ref a]) F hr hb hd hx I1 (.cons rfl .nil) q)
structure Mk(K:PySem.W.Frag)(C f:Addr):Prop where
 makes:PySem.W.makesIn K C=true
 init:PySem.W.findIn K (.ref C) "__init__"=some (some (.ref f))
 fn:PySem.W.isFn K (.ref f)=true
 kp:PySem.W.keepIn K (.ref C)=true
theorem B6(M:Mk X.K C f)(F:a9 X.prog X.w X.K X.mg X.base CX k f fd ps sp)(hr:aZ (k+1) X.A)(hb:eL X.K fd ps ds)(hd:aP il ds)(hx:eU CX X E)(I:aD X ae σ H s)(r:aP vs us)(h:∀x dx,H x=none->H dx=none->dx≠x->sp (.ref x::(vs++il)) (upd (upd H dx (.own x)) x (.ins C dx [])) (fun v H2=>v=.bp/\Q (.ref x) H2) E):
  wpAny (model X.prog X.w) X.A (call (.ref C) us) (EP X ae σ Q) X.xe s:=by
 have hq:=h (s.heap.objs.size+1) s.heap.objs.size (I.br.fresh (Nat.le_succ _)) (I.br.fresh (aN _)) (aY (kD _));have I2:=aD.made (C:=C) I;have r2:aP (V.ref (s.heap.objs.size+1)::(vs++il)) (Value.ref (s.heap.objs.size+1)::(us++ds)):=.cons rfl (r.append hd);have hl:(Value.ref (s.heap.objs.size+1)::us++ds).length=ps.length:=by
  have e:=r2.length;rw[F.len _ _ _ _ hq] at e;exact e.symm
 refine jY (B5 (f:=f) I.j7 M.makes M.init (fD.mp M.fn) (iI (F.run _ X.stack _ _ ⟨Value.ref (s.heap.objs.size+1)::us,[]⟩ (Value.ref (s.heap.objs.size+1)::(us++ds)) _ _ E (hr.make C us [])
  (I2.E9.make C us []) (hb _ (Value.ref (s.heap.objs.size+1)::us) I2.j7 hl) r2 hq) fun r s' IN=>?_))
 cases r with
 |error e=>exact hx ae σ _ _ e s' I2 IN
 |ok fl=>
  cases fl with
  |ret u=>
   obtain⟨v,H',I3,rv,ev,q3⟩:=I2.after IN;subst ev;exact⟨rv,⟨V.ref (s.heap.objs.size+1),H',I3,rfl,q3⟩⟩
  |next=>exact False.elim IN
  |brk=>exact False.elim IN
  |cont=>exact False.elim IN
theorem yu(M:Mk X.K C f)(F:a9 X.prog X.w X.K X.mg X.base CX k f fd ps sp)(hr:aZ (k+1) X.A)(hg:Gl X x)(hm:X.mg x=some (.ref C))(hb:eL X.K fd ps ds)(hd:aP il ds)(hx:eU CX X E)(ha:PA X (e::es) t)(m8:(x==("__debug__":Str))=false:=by decide)(he:starEach (e::es) X.env=(false,eval e X.env)::starEach es X.env:=by rfl)(mG:(backTo pos (starEach es X.env)).any (·.1)=false:=by rfl):
  PE X (.Call (.Name x p) (e::es) [] pos) (Mc C sp il E t):=by
 intro ae s σ H Q I h;refine jQ (jk I hg hm ?_ m8);refine ow (h₀:=X.base) I.ok.mod.EH M.kp (bZ (ha pos ae s σ H _ I h) fun us s1 ⟨vs,H1,I1,r,q⟩=>⟨I1.j7,?_⟩) he mG;exact B6 M F hr hb hd hx I1 r q
end
def PK(X:Cx)(B7:List Keyword)(t:TA):Prop:=
 ∀ (pos:Pos) (ae:List (Addr×Obj)) (s:Shared) (σ:St) (H:Hp) (Q:List V->Hp->Prop),aD X ae σ H s->t σ H Q->wpAny (model X.prog X.w) X.A (evalAll ((backToKw pos (keywordEach B7 X.env)).map (·.2))) (AP X ae σ Q) X.xe s
section
variable {X:Cx} {CX:nU} {k:Nat} {f C:Addr} {fd:FuncData} {ps ks:List Str} {sp:Sp} {E:XK} {x m:Str} {p pos m7 QE:Pos} {e o:Expr} {es:List Expr} {B7:List Keyword} {te ta:TE} {t tk:TA} {nm:Option Str}
theorem B8:PK X [] gU:=fun _ _ _ _ H Q I h=>wpAny_evalAll_nil ⟨[],H,I,.nil,h⟩
theorem su(ha:PE X e te)(hr:PK X B7 t):PK X (⟨nm,e,QE⟩::B7) (bF te t):=by
 intro pos ae s σ H Q I h;show wpAny _ _ (evalAll ((do let v <- eval e X.env;standAt pos;pure v)::(backToKw pos (keywordEach B7 X.env)).map (·.2))) _ _ s;refine wpAny_evalAll_cons (ap (bZ (ha ae s σ H _ I h) fun u s1 ⟨x,H1,I1,r1,q1⟩=>ap (lJ (wpAny_pure ?_))));exact bZ (hr pos ae s1 σ H1 _ I1 q1) fun us s2 ⟨xs,H2,I2,r2,q2⟩=>⟨x::xs,H2,I2,.cons r1 r2,q2⟩
variable {g:List Value->List Value->List Value} {gV:List V->List V->List V}
end
structure aw(N P:List Str)(sc:Scope):Prop where
 kind:sc.kind=.function
 co:sc.isCoroutine=false
 gen:sc.isGenerator=false
 nd:N.Nodup
 pre:N.take P.length=P
 par:∀x∈P,sc.names.lookup x=some .local\/sc.names.lookup x=some .cell
 B9:∀y∈sc.names,y.2≠.free
theorem qo{kindOf:Str->Option NameKind}{x:Str}:∀ {binds:List (Str×Value)} {m:Str->Option Value},(∀v,(x,v)∉binds)->bindL kindOf binds m x=m x
 |[],_,_=>rfl
 |(n,v)::r,m,h=>by
  unfold bindL;rw[qo fun w hw=>h w (bz _ hw)];split
  .have:x≠n:=by rintro rfl;exact h v bC
   simp[this]
  .rfl
theorem qp{kindOf:Str->Option NameKind}{x:Str}:∀ {binds:List (Str×Value)} {m:Str->Option Value},(∀v,(x,v)∉binds)->bindC kindOf binds m x=m x
 |[],_,_=>rfl
 |(n,v)::r,m,h=>by
  unfold bindC;rw[qp fun w hw=>h w (bz _ hw)];split
  .rfl
  .have:x≠n:=by rintro rfl;exact h v bC
   simp[this]
theorem lZ{kindOf:Str->Option NameKind}{x:Str}{v:Value}:∀ {P:List Str} {vs:List Value} {i:Nat} {m:Str->Option Value},P.Nodup->P[i]?=some x->vs[i]?=some v->kindOf x=some .local->
  bindL kindOf (P.zip vs) m x=some v
 |[],_,_,_,_,h,_,_=>by simp at h
 |_::_,[],_,_,_,_,h,_=>by simp at h
 |p::P,w::vs,0,m,nd,h1,h2,hk=>by
  simp at h1 h2;subst h1;subst h2;show bindL kindOf ((p,w)::P.zip vs) m p=_;unfold bindL;rw[qo fun v hv=>(dC.mp nd).1 (lH hv).1,ak hk];simp
 |p::P,w::vs,i+1,m,nd,h1,h2,hk=>by
  show bindL kindOf ((p,w)::P.zip vs) m x=_;unfold bindL;exact lZ (i:=i) (dC.mp nd).2 (by simpa using h1) (by simpa using h2) hk
theorem l6{kindOf:Str->Option NameKind}{x:Str}{v:Value}:∀ {P:List Str} {vs:List Value} {i:Nat} {m:Str->Option Value},P.Nodup->P[i]?=some x->vs[i]?=some v->kindOf x≠some .local->
  bindC kindOf (P.zip vs) m x=some v
 |[],_,_,_,_,h,_,_=>by simp at h
 |_::_,[],_,_,_,_,h,_=>by simp at h
 |p::P,w::vs,0,m,nd,h1,h2,hk=>by
  simp at h1 h2;subst h1;subst h2;show bindC kindOf ((p,w)::P.zip vs) m p=_;unfold bindC;rw[qp fun v hv=>(dC.mp nd).1 (lH hv).1,al hk];simp
 |p::P,w::vs,i+1,m,nd,h1,h2,hk=>by
  show bindC kindOf ((p,w)::P.zip vs) m x=_;unfold bindC;exact l6 (i:=i) (dC.mp nd).2 (by simpa using h1) (by simpa using h2) hk
def start(N:List Str)(vs:List V):St:=vs.map some++List.replicate (N.length-vs.length) none
def fQ(CX:nU)(P:Program)(w:World)(K:PySem.W.Frag)(mg:Str->Option Value)(base:Heap)(N:List Str)(qual:Str)(scope:Scope)(f:Addr)(cd:Value)(A:Around)(outer:List Env)(s:Shared)(H:Hp)(E:XK):Cx where
 prog:=P
 w:=w
 K:=K
 mg:=mg
 base:=base
 A:=A.deeper (envOfC qual scope s.heap.objs.size f cd)
 N:=N
 s₀:=s
 H₀:=H
 env:=envOfC qual scope s.heap.objs.size f cd
 outer:=outer
 stack:=envOfC qual scope s.heap.objs.size f cd::outer
 ex:=[]
 calm:=true
 fn:=fun _=>true
 pn:=[]
 xe:=fun e s'=>wpAny (model P w) (A.deeper (envOfC qual scope s.heap.objs.size f cd)) (leaving (envOfC qual scope s.heap.objs.size f cd) e) (fun _ uF=>CX outer H s E e uF) (fun e' uF=>CX outer H s E e' uF) s'
theorem kM{sc:Scope}{n:Nat}{x:Str}(h:sc.names.lookup x=some .cell):∃c,(cellsFrom n sc.names []).lookup x=some c:=by
 have q:=v7 sc.names n [] (.inl h);exact v3.mp q
theorem zK{CX:nU}{P:Program}{w:World}{K:PySem.W.Frag}{mg:Str->Option Value}{base:Heap}{N ps:List Str}{qual:Str}{scope:Scope}{f:Addr}{cd:Value}{A:Around}{outer:List Env}{s s1:Shared}{H:Hp}{E:XK}{us:List Value}{vs:List V}(S:aw N ps scope)(hd:A.handled=none)(e0:sq P w K mg base A outer s H)(hl:vs.length=ps.length)(r:aP vs us)(x:InCallC s s.heap.objs.size (bindL (envOfC qual scope s.heap.objs.size f cd).kindOf (ps.zip us) fun _=>none) (cellsFrom (s.heap.objs.size+1) scope.names []) (bindC (envOfC qual scope s.heap.objs.size f cd).kindOf (ps.zip us) fun _=>none) s1):
  aD (fQ CX P w K mg base N qual scope f cd A outer s H E) [] (start N vs) H s1:=by
 have mG:ps.length<=N.length:=by have:=congrArg List.length S.pre;rw[kF] at this;lia
 obtain⟨h1,tk,rfl,hk⟩:=x.done;have EK:∀b:Addr,b∉(fQ CX P w K mg base N qual scope f cd A outer s H E).ex:=fun b z=>absurd (show b∈([]:List Addr) from z) (by simp);refine⟨⟨e0.mod,S.kind,rfl,rfl,aN _,fun y z c h1 h2=>?_,fun y hy=>?_,fun y c _ h=>?_,fun _=>hd,wE e0.frames,.inr ⟨rfl,rfl⟩,fun b z=>absurd z (EK b),e0.bs,e0.yj,fun b _ _=>EK b,fun b z=>absurd z (EK b),e0.iO,e0.AY⟩,
  rfl,e0.bare,Un.kept hk,⟨_,x.toInCall.ns,fun i y v h1 h2 h3=>?_⟩,fun y c h=>⟨_,x.cell y c h⟩,e0.br.fresh (aN _),fun y c h=>?_,fun p hp=>absurd (show p∈([]:List (Addr×Obj)) from hp) (by simp),e0.br.kept hk,?_⟩
 .exact name_of_addr x.apart (eX h1) (eX h2)
 .have hy:scope.names.lookup y=some .cell\/scope.names.lookup y=some .free:=hy;rcases hy with hy|hy
  .exact kM hy
  .exact absurd rfl (S.B9 _ (eX hy))
 .exact ii (x.above y c (eX h))
 .have hi:i<vs.length:=by
   unfold start at h2;by_cases hi:i<vs.length
   .exact hi
   .rw[qc (by simpa using hi)] at h2;rw[v5] at h2;split at h2 <;> cases h2
  have ha:vs[i]?=some v:=by
   unfold start at h2;rw[my (by simpa using hi),bA] at h2;cases e:vs[i]? with
   |none=>rw[e] at h2;cases h2
   |some a=>rw[e] at h2;cases h2;rfl
  obtain⟨u,hu,rv⟩:=r.get ha;have hp:ps[i]?=some y:=by
   rw[<-S.pre,on (by lia)];exact h1
  have Md:ps.Nodup:=by rw[<-S.pre];exact S.nd.sublist (List.take_sublist _ _)
  refine⟨u,rv,?_⟩;rcases S.par y (dA hp) with k|k
  .exact .inl ⟨k,lZ Md hp hu k⟩
  .obtain⟨c,e⟩:=kM (n:=s.heap.objs.size+1) k;refine .inr ⟨.inl k,c,e,?_⟩;have q:=x.cell y c e;rw[l6 Md hp hu (by show scope.names.lookup y≠_;rw[k];decide)] at q;exact q
 .exact e0.br.fresh (ii (x.above y c (eX h)))
 .unfold start;show _=N.length;rw[dP,aW,og];lia
theorem B_{CX:nU}{P:Program}{w:World}{K:PySem.W.Frag}{mg:Str->Option Value}{base:Heap}{k:Nat}{f:Addr}{name qual:Str}{params:Arguments}{body:List Stmt}{scope:Scope}{dV kV jm pm bL ct oc:Value}{an od:Option Addr}{qq:Array (Option Value)}{N ps:List Str}{sp:Sp}(lk:K.lookup f=some ⟨oc,od,.func (PySem.W.fnOf name qual params body scope dV kV jm pm an bL ct),qq⟩)(mI:PySem.W.codeIn K bL qual=true)(S:aw N ps scope)(len:∀vs H Q E,sp vs H Q E->vs.length=ps.length)(iS:∀ (A:Around) (outer:List Env) (s:Shared) (H:Hp) (vs:List V) (Q:VK) (E:XK),aZ k (A.deeper (envOfC qual scope s.heap.objs.size f bL))->sp vs H Q E->
   ∃t,pK (fQ CX P w K mg base N qual scope f bL A outer s H E) body t/\t { nx:=fun _ H'=>Q .bp H',rt:=Q } (start N vs) H):
  a9 P w K mg base CX (k+1) f (PySem.W.fnOf name qual params body scope dV kV jm pm an bL ct) ps sp:=by
 refine⟨len,fun A outer s H args us vs Q E hr e0 hb r uG=>?_⟩;have hl:=len _ _ _ _ uG;have KX:K.In s.heap:=e0.mod.EH.keeps fun b o e=>(e0.bs b o e).1;have QF:s.heap.NoLimit:=e0.mod.nolimit.keeps fun b o e=>(e0.bs b o e).1;have Ca:∀y∈ps.zip us,scope.names.lookup y.1=some .local\/(scope.names.lookup y.1=some .cell/\((cellsFrom (s.heap.objs.size+1) scope.names []).lookup y.1).isSome=true):=fun ⟨n,v⟩ hy=>by
  rcases S.par n (lH hy).1 with q|q
  .exact .inl q
  .exact .inr ⟨q,v7 _ _ _ (.inl q)⟩
 refine codeAny_call_function hr.depth (KX _ _ lk) rfl S.co S.gen rfl (PySem.W.codeRec_of KX mI) (hb _ _ _ _ ?_);refine wpAny_newFunctionEnv_cells S.kind Ca fun env he s1 x=>?_;subst he;refine⟨QF.keeps x.toInCall.keep,codeAny_func ?_⟩;obtain⟨t,ht,hq⟩:=iS A outer s H vs Q E (hr.deeper _) uG;have I:aD (fQ CX P w K mg base N qual scope f bL A outer s H E) [] (start N vs) H s1:=zK S hr.hd e0 hl r x;refine eQ (ht [] s1 (start N vs) H _ I hq) (fun fl s' hs=>?_) fun e s' hs=>hs;have dN:∀ {σ':St} {H':Hp} {v:V} {u:Value},aD (fQ CX P w K mg base N qual scope f bL A outer s H E) [] σ' H' s'->bj v u->Q v H'->CE outer P w H s Q u s':=
  fun {σ' H' v u} J rv q=>⟨v,H',J.os,J.bare,J.base,J.br,rv,q⟩
 cases fl with
 |ret u=>
  obtain⟨v,σ',H',J,rv,q⟩:=hs;exact dN J rv q
 |next=>
  obtain⟨σ',H',J,q⟩:=hs;exact dN (v:=V.bp) (u:=Value.none) J rfl q
 |brk=>
  obtain⟨_,_,_,q⟩:=hs;exact False.elim q
 |cont=>
  obtain⟨_,_,_,q⟩:=hs;exact False.elim q
section
variable {X:Cx} {x:Str} {p pos:Pos} {e:Expr} {es:List Expr} {t:TA} {id T:String} {r:List V->Hp->VK->Prop}
def QG(r:List V->Hp->VK->Prop)(t:TA):TE:=fun σ H Q=>t σ H fun vs H1=>r vs H1 Q
theorem au(hc:eK X (.builtin id) r)(hg:Gl X x)(hm:X.mg x=none)(hv:bootBuiltins x=some (.builtin id))(ha:PA X (e::es) t)(hn:x≠"__name__":=by decide)(m8:(x==("__debug__":Str))=false:=by decide)(he:starEach (e::es) X.env=(false,eval e X.env)::starEach es X.env:=by rfl)(mG:(backTo pos (starEach es X.env)).any (·.1)=false:=by rfl):PE X (.Call (.Name x p) (e::es) [] pos) (QG r t):=by
 intro ae s σ H Q I h;refine jQ (lQ I hg hm hv ?_ hn m8);exact PyProof.Rows.callWith_builtin1 (bZ (ha pos ae s σ H _ I h) fun us s1 ⟨vs,H1,I1,r1,q1⟩=>hc ae s1 σ H1 vs us Q I1 r1 q1) he mG
theorem cD(hc:eK X (.type T) r)(hg:Gl X x)(hm:X.mg x=none)(hv:bootBuiltins x=some (.type T))(ha:PA X (e::es) t)(hn:x≠"__name__":=by decide)(m8:(x==("__debug__":Str))=false:=by decide)(he:starEach (e::es) X.env=(false,eval e X.env)::starEach es X.env:=by rfl)(mG:(backTo pos (starEach es X.env)).any (·.1)=false:=by rfl):PE X (.Call (.Name x p) (e::es) [] pos) (QG r t):=by
 intro ae s σ H Q I h;refine jQ (lQ I hg hm hv ?_ hn m8);exact vU (bZ (ha pos ae s σ H _ I h) fun us s1 ⟨vs,H1,I1,r1,q1⟩=>hc ae s1 σ H1 vs us Q I1 r1 q1) he mG
end
end L2
namespace HT
open PySem PyProof.Rows
section
open PySem.SeqAt
open PySem.AutoSeq1 (wpAny_loadPart')
open PySem.MeetsSeq PySem.MeetsSeq2 PySem.MeetsSeq3
end
section
variable {prog:Program} {w:World} {A:Around} {E:Value->Shared->Prop} {s:Shared}
def eH(n d:Nat):Option Int->Nat
 |none=>d
 |some v=>if v<0 then (v+(n:Int)).toNat else min v.toNat n
theorem IP(n d:Nat)(hd:d<=n)(o:Option Int):eH n d o<=n:=by
 cases o with
 |none=>exact hd
 |some v=>
  show (if v<0 then (v+(n:Int)).toNat else min v.toNat n)<=n;by_cases hv:v<0
  .rw[ak hv];lia
  .rw[al hv];exact Nat.min_le_right _ _
theorem yv(v:Int)(n d:Nat):(if v<0 then max (v+(n:Int)) 0 else min v (n:Int))=((eH n d (some v):Nat):Int):=by
 show (if v<0 then max (v+(n:Int)) 0 else min v (n:Int))=(((if v<0 then (v+(n:Int)).toNat else min v.toNat n):Nat):Int);by_cases hv:v<0
 .simp only[ak hv];lia
 .simp only[al hv];lia
theorem xf(lo hi:Option Int)(n:Nat):Builtin.Slice.sliceAdjust lo hi 1 (n:Int)=(((eH n 0 lo:Nat):Int),((eH n n hi:Nat):Int)):=by
 have h1:¬ ((1:Int)<0):=by lia
 unfold Builtin.Slice.sliceAdjust;simp only[h1,gJ];refine jZ ?_ ?_
 .cases lo with
  |none=>rfl
  |some v=>exact yv v n 0
 .cases hi with
  |none=>rfl
  |some v=>exact yv v n n
theorem xg(i j:Nat):Builtin.Slice.slicePlaces (i:Int) (j:Int) 1=j-i:=by
 unfold Builtin.Slice.slicePlaces;have h1:(1:Int) > 0:=by lia
 simp only[h1,if_true,Int.ediv_one];split <;> lia
theorem oW(p:IsPart v o)(h:Q o s):wpAny (model prog w) A (Builtin.Slice.slicePartIndex v) Q E s:=by
 cases p with
 |none=>exact slicePart_none h
 |int i t=>exact slicePart_int h
theorem gu{sl:Addr}{vl vu:Value}{lo hi:Option Int}{n:Nat}{Q:Int×Int×Nat->Shared->Prop}(hs:s.heap.IsSliceOf sl vl vu .none)(pl:IsPart vl lo)(pu:IsPart vu hi)(h:Q (((eH n 0 lo:Nat):Int),1,eH n n hi-eH n 0 lo) s):wpAny (model prog w) A (Builtin.Slice.sliceApplied (.ref sl) (pure (n:Int))) Q E s:=by
 obtain⟨os,EL,Pk,Me⟩:=id hs;unfold Builtin.Slice.sliceApplied Builtin.Slice.sliceFields;refine ap (ap (ff EL Me (x:=vl) rfl (ap (ff EL Me (x:=vu) rfl (ap (ff EL Me (x:=.none) rfl (wpAny_pure ?_)))))));refine ap (slicePart_none ?_);show wpAny _ _ (if ((1:Int)==0)=true then _ else _) _ _ s;rw[al (by decide)];refine ap (oW pl (ap (oW pu (ap (wpAny_pure ?_)))));show wpAny _ _ (match Builtin.Slice.sliceAdjust lo hi 1 (n:Int) with|(lo,hi)=>pure (lo,(1:Int),Builtin.Slice.slicePlaces lo hi 1)) _ _ s;rw[xf lo hi n];show wpAny _ _ (pure (((eH n 0 lo:Nat):Int),(1:Int),Builtin.Slice.slicePlaces ((eH n 0 lo:Nat):Int) ((eH n n hi:Nat):Int) 1)) _ _ s;rw[xg];exact wpAny_pure h
theorem Cb(xs:Array Value)(i k:Nat):((List.range k).filterMap fun (m:Nat)=>xs[((i:Int)+(m:Int)*1).toNat]?).toArray=((xs.toList.drop i).take k).toArray:=by
 have e:(fun (m:Nat)=>xs[((i:Int)+(m:Int)*1).toNat]?)=fun m=>xs[i+m]?:=by
  funext m;have:((i:Int)+(m:Int)*1).toNat=i+m:=by lia
  rw[this]
 rw[e];have:=pick_run xs i k;rw[List.filterMap_map] at this;have e2:((fun x=>xs[x]?) ∘ fun x=>i+x)=fun m=>xs[i+m]?:=rfl;rw[e2] at this;rw[this]
theorem kO{t sl:Addr}{items:Array Value}{vl vu:Value}{lo hi:Option Int}{Q:Value->Shared->Prop}(ht:IsTup s.heap t items)(hs:s.heap.IsSliceOf sl vl vu .none)(pl:IsPart vl lo)(pu:IsPart vu hi)(hw:¬ (eH items.size 0 lo=0/\eH items.size items.size hi=items.size))(h:Q (.ref s.heap.objs.size) { s with heap:=s.heap.push { cls:=.type "tuple",data:=.seq ((items.toList.drop (eH items.size 0 lo)).take (eH items.size items.size hi-eH items.size 0 lo)).toArray } })(j9:items.size<=sizeLine):wpAny (model prog w) A (getItem (.ref t) (.ref sl)) Q E s:=by
 have yw:sizeOk (.seq ((items.toList.drop (eH items.size 0 lo)).take (eH items.size items.size hi-eH items.size 0 lo)).toArray):=by
  show ((items.toList.drop (eH items.size 0 lo)).take (eH items.size items.size hi-eH items.size 0 lo)).toArray.size<=sizeLine;rw[cA,kF,List.length_drop,jO];lia
 have hj:eH items.size items.size hi<=items.size:=IP _ _ (aN _) hi;obtain⟨os,EL,Pk,Me⟩:=id hs;have QH:s.TypeIs (.ref sl) "slice":=⟨os,EL,Pk⟩
 unfold getItem;try with_reducible refine fS ?_
 first|refine ap (wpAny_pure ?_)|skip
 refine ap (wpAny_sequenceKey ht.typeIs (by decide) ?_);refine ap (lz (name:=Str.ofString "__getitem__") ht.typeIs qa
  (iH qa ht.typeIs entry_tuple_getitem ?_ (args_tuple_getitem _ _)))
 show wpAny _ _ (Builtin.Tuple.tupleItemsOf (.ref t) >>= _) _ _ s;refine ap (tupleItemsOf_ ht ?_);refine ap (wpAny_typeOf QH ?_);rw[ak (by decide)];refine ap (gu hs pl pu ?_);have Cd:¬ ((((eH items.size 0 lo:Nat):Int)==0&&(1:Int)==1&&(eH items.size items.size hi-eH items.size 0 lo)==items.size)=true):=by
  intro q;rw[e_,e_] at q;have q1:((eH items.size 0 lo:Nat):Int)=0:=eq_of_beq q.1.1;have q2:eH items.size items.size hi-eH items.size 0 lo=items.size:=eq_of_beq q.2;exact hw ⟨by lia,by lia⟩
 show wpAny _ _ (if (((eH items.size 0 lo:Nat):Int)==0&&(1:Int)==1&&(eH items.size items.size hi-eH items.size 0 lo)==items.size)=true then _ else _) _ _ s;rw[al Cd,Cb];first
  |exact ap (m:=Builtin.Tuple.tupleExact _) (ic (wpAny_pure ⟨_,rfl,wpAny_pure h⟩) yw)
  |exact ap (m:=Builtin.Tuple.tupleExact _) (ic (ap (wpAny_pure (wpAny_pure ⟨_,rfl,wpAny_pure h⟩))) yw)
  |exact ap (ap (m:=Builtin.Tuple.tupleExact _) (ic (wpAny_pure (wpAny_pure ⟨_,rfl,wpAny_pure h⟩)) yw))
  |exact ap (ap (m:=Builtin.Tuple.tupleExact _) (ic (wpAny_pure ⟨_,rfl,wpAny_pure h⟩) yw))
end
end HT
namespace L2
open PySem PySem.Spec PyProof.Rows
abbrev TO:=St->Hp->(Option Int->Hp->Prop)->Prop
def PO(X:Cx)(e:Option Expr)(t:TO):Prop:=
 ∀ (ae:List (Addr×Obj)) (s:Shared) (σ:St) (H:Hp) (Q:Option Int->Hp->Prop),aD X ae σ H s->t σ H Q->
  wpAny (model X.prog X.w) X.A (evalPart e X.env) (fun u s'=>∃o H',aD X ae σ H' s'/\IsPart u o/\Q o H') X.xe s
def yx:TO:=fun _ H Q=>Q none H
def Hj(t:TE):TO:=fun σ H Q=>t σ H fun x H1=>∃i,x=.int i/\Q (some i) H1
section
variable {X:Cx} {e:Expr} {te:TE} {lo hi:Option Expr} {tl th:TO} {pos p2:Pos}
theorem yy:PO X none yx:=by
 intro ae s σ H Q I h;rw[evalPart_none];exact wpAny_pure ⟨none,H,I,.none,h⟩
theorem yz(h:PE X e te):PO X (some e) (Hj te):=by
 intro ae s σ H Q I hw;rw[evalPart_some];refine bZ (h ae s σ H _ I hw) fun u s1 ⟨x,H1,I1,r1,q1⟩=>?_;obtain⟨i,rfl,q⟩:=q1;obtain⟨t,rfl⟩:=r1;exact⟨some i,H1,I1,.int i t,q⟩
def QI(X:Cx)(r:V->Option Int->Option Int->Hp->VK->Prop):Prop:=
 ∀ (ae:List (Addr×Obj)) (s:Shared) (σ:St) (H:Hp) (x:V) (v vl vu:Value) (lo hi:Option Int) (sl:Addr) (Q:VK),aD X ae σ H s->bj x v->s.heap.IsSliceOf sl vl vu .none->IsPart vl lo->IsPart vu hi->r x lo hi H Q->
  ∃T id,typeLookup (.type T) "__getitem__"=pure (some (.builtin id))/\s.TypeIs v T/\wpAny (model X.prog X.w) X.A (getItem v (.ref sl)) (EP X ae σ Q) X.xe s
def U_(r:V->Option Int->Option Int->Hp->VK->Prop)(te:TE)(tl th:TO):TE:=fun σ H Q=>te σ H fun x H1=>tl σ H1 fun l H2=>th σ H2 fun u H3=>r x l u H3 Q
theorem uH(hr:QI X r)(he:PE X e te)(hl:PO X lo tl)(hu:PO X hi th):PE X (.Subscript e (.Slice lo hi none p2) pos) (U_ r te tl th):=by
 intro ae s σ H Q I h;refine Subscript_ (bZ (he ae s σ H _ I h) fun v s1 ⟨x,H1,I1,r1,q1⟩=>?_);refine wpAny_Slice (bZ (hl ae s1 σ H1 _ I1 q1) fun vl s2 ⟨l,H2,I2,pl,q2⟩=>bZ (hu ae s2 σ H2 _ I2 q2) fun vu s3 ⟨u,H3,I3,pu,q3⟩=>?_);rw[evalPart_none];refine wpAny_pure ?_;have I4:aD X ae σ H3 { s3 with heap:=s3.heap.push { cls:=.type "slice",data:=.fields #[vl,vu,.none] } }:=I3.kept (t':=s3.toks) fun b ob q=>cf _ q;obtain⟨T,id,hT,ht,hg⟩:=hr ae { s3 with heap:=s3.heap.push { cls:=.type "slice",data:=.fields #[vl,vu,.none] } } σ H3 x v vl vu l u s3.heap.objs.size Q I4 r1 (Heap.IsSliceOf.new ..) pl pu q3;show wpAny (model X.prog X.w) X.A (subscriptTail e (.Slice lo hi none p2) v (.ref s3.heap.objs.size)) (EP X ae σ Q) X.xe { s3 with heap:=s3.heap.push { cls:=.type "slice",data:=.fields #[vl,vu,.none] } };exact tail_any (ops:=[.ref s3.heap.objs.size,v]) ht hT hg (by with_unfolding_all rfl)
def sv(xs:List V)(lo hi:Option Int):List V:=(xs.drop (HT.eH xs.length 0 lo)).take (HT.eH xs.length xs.length hi-HT.eH xs.length 0 lo)
theorem uI(xs:List V)(lo hi:Option Int):(sv xs lo hi).length<=xs.length:=by
 unfold sv;rw[kF,List.length_drop];lia
def QJ(K:PySem.W.Frag):V->Option Int->Option Int->Hp->VK->Prop:=fun x lo hi H Q=>∃a xs,x=.ref a/\bK K H a xs/\
 ¬ (HT.eH xs.length 0 lo=0/\HT.eH xs.length xs.length hi=xs.length)/\∀p,H p=none->Q (.ref p) (upd H p (.tup (sv xs lo hi)))
theorem IQ:QI X (QJ X.K):=by
 intro ae s σ H x v vl vu lo hi sl Q I rx hs pl pu h;obtain⟨a,xs,rfl,hx,hw,q⟩:=h;cases rx;obtain⟨its,r,ht,hz⟩:=I.tuple hx;have eA:its.toArray.size=xs.length:=by rw[cA];exact r.length.symm
 refine⟨"tuple",_,qa.lookup,ht.typeIs,?_⟩;refine HT.kO ht hs pl pu (by rw[eA];exact hw) ?_ (by rw[eA];exact hz);rw[eA];refine⟨.ref s.heap.objs.size,_,I.laid (t':=s.toks) (o:=.tup (sv xs lo hi)) (fun b ob q=>cf _ q) (aN _) ?_,rfl,q _ (I.br.fresh (aN _))⟩;exact⟨bf (uI xs lo hi) hz,_,(r.drop (HT.eH xs.length 0 lo)).take (HT.eH xs.length xs.length hi-HT.eH xs.length 0 lo),j5.new _ _⟩
end
def Ce(n:Nat)(i:Int):Option Nat:=if 0<=i then (if i<n then some i.toNat else none) else if -(n:Int)<=i then some (i+n).toNat else none
def Cf{α:Type}(xs:List α)(i:Int):Option α:=(Ce xs.length i).bind fun j=>xs[j]?
theorem yA(h:Ce n i=some j):seqIndex? i n=some j/\j<n/\-(n:Int)<=i/\i<n:=by
 unfold Ce at h;by_cases h0:0<=i
 .rw[ak h0] at h;by_cases h1:i<n
  .rw[ak h1] at h;have e:i.toNat=j:=bi h;exact⟨by rw[seqIndex_of h0 h1,e],by lia,by lia,h1⟩
  .rw[al h1] at h;cases h
 .rw[al h0] at h;by_cases h1:-(n:Int)<=i
  .rw[ak h1] at h;have e:(i+n).toNat=j:=bi h;exact⟨by rw[seqIndex_neg (by lia) h1,e],by lia,h1,by lia⟩
  .rw[al h1] at h;cases h
theorem yB(h:Cf xs i=some v):∃j,seqIndex? i xs.length=some j/\xs[j]?=some v/\j<xs.length/\-(xs.length:Int)<=i/\i<xs.length:=by
 unfold Cf at h;cases e:Ce xs.length i with
 |none=>rw[e] at h;cases h
 |some j=>
  rw[e] at h;obtain⟨h1,h2,h3,h4⟩:=yA e;exact⟨j,h1,h,h2,h3,h4⟩
theorem aM{α:Type}{xs:List α}{j:Nat}{v:α}(h:xs[j]?=some v):Cf xs (j:Int)=some v:=by
 have hj:j<xs.length:=(cH.mp h).1;have e:Ce xs.length (j:Int)=some j:=by
  unfold Ce;rw[ak (by lia),ak (by lia)];simp
 unfold Cf;rw[e];exact h
theorem Cg(xs:List α)(v:α):Cf (xs++[v]) (-1)=some v:=by
 have hl:(xs++[v]).length=xs.length+1:=by simp
 have e:Ce (xs++[v]).length (-1)=some xs.length:=by
  unfold Ce;rw[hl,al (by decide),ak (by lia)];congr 1;lia
 unfold Cf;rw[e];show (xs++[v])[xs.length]?=some v;simp
def Fa(b:Expr):Prop:=∀o i,subscripted b false o i=operate [o,i] (getItem o i)
def QK(X:Cx)(r:R2):Prop:=
 ∀ (value slice:Expr) (ae:List (Addr×Obj)) (s:Shared) (σ:St) (H:Hp) (x y:V) (v u:Value) (Q:VK),aD X ae σ H s->bj x v->bj y u->r x y H Q->
  subscripted slice false v u=operate [v,u] (getItem v u)->wpAny (model X.prog X.w) X.A (subscriptTail value slice v u) (EP X ae σ Q) X.xe s
def WL(X:Cx)(id:String)(r:V->List V->Hp->VK->Prop):Prop:=
 ∀ (ae:List (Addr×Obj)) (s:Shared) (σ:St) (H:Hp) (x:V) (xs:List V) (v:Value) (us:List Value) (Q:VK),aD X ae σ H s->bj x v->aP xs us->r x xs H Q->
  wpAny (model X.prog X.w) X.A (call (.builtin id) (v::us)) (EP X ae σ Q) X.xe s
section
variable {X:Cx} {a b:Expr} {ta tb:TE} {pos:Pos}
theorem bh(hr:QK X r)(ha:PE X a ta)(hb:PE X b tb)(hs:Fa b):PE X (.Subscript a b pos) (kJ r ta tb):=by
 intro ae s σ H Q I h;exact Subscript_ (IG ha hb I h fun v u s2 x y H2 I2 rx ry q=>hr a b ae s2 σ H2 x y v u Q I2 rx ry q (hs _ _))
def zL(K:PySem.W.Frag):R2:=fun x y H Q=>∃p xs i v,x=.ref p/\y=.int i/\bn K H p xs/\Cf xs i=some v/\Q v H
def xh(K:PySem.W.Frag):R2:=fun x y H Q=>∃p xs i v,x=.ref p/\y=.int i/\bK K H p xs/\Cf xs i=some v/\Q v H
theorem bv:QK X (zL X.K):=by
 intro value slice ae s σ H x y v u Q I rx ry h hs;obtain⟨p,xs,i,z,rfl,rfl,hq,he,q⟩:=h;cases rx;obtain⟨t,rfl⟩:=ry;obtain⟨its,r,pl,hz⟩:=I.list hq;obtain⟨j,h1,h2,h3,h4,h5⟩:=yB he;obtain⟨w,ew,ID⟩:=r.get h2;have hl:=r.length;have hn:=sk;have dN:EP X ae σ Q w s:=⟨z,H,I,ID,q⟩
 by_cases h0:0<=i
 .have hj:i.toNat=j:=by
   rw[seqIndex_of h0 h5] at h1;exact bi h1
  exact item_listR pl.isList h0 (by lia) (by rw[hj];simpa using ew) dN hs
 .have hj:(i+(its.toArray.size:Int)).toNat=j:=by
   rw[seqIndex_neg (by lia) h4] at h1;rw[cA,<-hl];exact bi h1
  exact subscriptTail_builtinR (x:=w) pl.isList.typeIs slot_list_getitem.lookup
   (wpAny_getItem_list_neg (Q:=fun r s'=>r=w/\EP X ae σ Q r s') pl.isList (by lia) (by rw[cA] <;> lia) (by lia) (by rw[hj];simpa using ew) ⟨rfl,dN⟩) hs
theorem cw:QK X (xh X.K):=by
 intro value slice ae s σ H x y v u Q I rx ry h hs;obtain⟨p,xs,i,z,rfl,rfl,hq,he,q⟩:=h;cases rx;obtain⟨t,rfl⟩:=ry;obtain⟨its,r,pl,hz⟩:=I.tuple hq;obtain⟨j,h1,h2,h3,h4,h5⟩:=yB he;obtain⟨w,ew,ID⟩:=r.get h2;have hl:=r.length;have hn:=sk;have dN:EP X ae σ Q w s:=⟨z,H,I,ID,q⟩
 exact subscriptTail_builtinR (x:=w) pl.typeIs slot_tuple_getitem.lookup
  (getItem_tuple (j:=j) (Q:=fun r s'=>r=w/\EP X ae σ Q r s') pl (by lia) (by lia) (by rw[cA,<-hl];exact h1) (by simpa using ew) ⟨rfl,dN⟩) hs
theorem xi(its:List Value)(n j:Nat)(u:Value):Obj.mapSeq (·.setIfInBounds j u) { cls:=.type "list",data:=.seq its.toArray n }={ cls:=.type "list",data:=.seq (its.set j u).toArray n }:=by
 simp[Obj.mapSeq]
theorem aD.lst(I:aD X ae σ H s)(h:H p=some (.lst xs)):
  ∃ (its:List Value) (n:Nat),aP xs its/\s.heap.get? p=some { cls:=.type "list",data:=.seq its.toArray n }/\xs.length<=sizeLine:=by
 obtain⟨z,its,n,r,e⟩:=I.br p _ h;exact⟨its,n,r,e,z⟩
theorem aD.IR{ae:List (Addr×Obj)}{σ:St}{H:Hp}{s:Shared}{p:Addr}{xs ys:List V}{its its':List Value}{n n':Nat}{f:Obj->Obj}(I:aD X ae σ H s)(h:H p=some (.lst xs))(ho:s.heap.get? p=some { cls:=.type "list",data:=.seq its.toArray n })(hf:f { cls:=.type "list",data:=.seq its.toArray n }={ cls:=.type "list",data:=.seq its'.toArray n' })(r:aP ys its')(hz:ys.length<=sizeLine)(t:Nat):
  aD X ae σ (upd H p (.lst ys)) { s with heap:=s.heap.update p f,toks:=t }:=by
 have e:(s.heap.update p f).get? p=some { cls:=.type "list",data:=.seq its'.toArray n' }:=by
  rw[ot f ho (by rw[hf] <;> rfl),hf]
 refine I.write (x:=p) (e:=p) (by rw[h];trivial) (.inl rfl) (fun b u hb q=>(oq _ _ (cW hb)).trans q) ⟨_,e⟩ ?_;exact⟨hz,its',n',r,e⟩
def Mf:V->V->V->Hp->(Hp->Prop)->Prop:=fun o i v H Q=>∃p xs k j,o=.ref p/\i=.int k/\H p=some (.lst xs)/\Ce xs.length k=some j/\Q (upd H p (.lst (xs.set j v)))
theorem kP:LX X Mf:=by
 intro ae s σ H o i v ov iv u Q I ro ri rv h;obtain⟨p,xs,k,j,rfl,rfl,hp,hj,q⟩:=h;cases ro;obtain⟨t,rfl⟩:=ri;obtain⟨its,n,r,ho,hz⟩:=I.lst hp;obtain⟨h1,h2,h3,h4⟩:=yA hj;have hl:=r.length;have hn:=sk;have I':aD X ae σ (upd H p (.lst (xs.set j v))) { s with heap:=s.heap.update p (Obj.mapSeq (·.setIfInBounds j u)) }:=
  I.IR hp ho (xi its n j u) (r.set rv j) (by rw[rM];exact hz) s.toks
 by_cases h0:0<=k
 .have hk:k.toNat=j:=by
   rw[seqIndex_of h0 h4] at h1;exact bi h1
  exact PySem.W.ki_setAt ho h0 (by lia) (by rw[cA,<-hl];exact h4) (by rw[hk];exact⟨_,I',q⟩)
 .have hk:(k+(its.toArray.size:Int)).toNat=j:=by
   rw[seqIndex_neg (by lia) h3] at h1;rw[cA,<-hl];exact bi h1
  exact PySem.W.ki_setBack ho (by lia) (by rw[cA,<-hl];exact h3) (by lia) (by rw[hk];exact⟨_,I',q⟩)
def ee:V->Bool
 |.bp=>true
 |.bl _=>true
 |.int _=>true
 |.str _=>true
 |_=>false
def ut:V->V->Bool
 |.bp,.bp=>true
 |.bl a,.bl b=>a==b
 |.bl a,.int b=>(if a then 1 else 0)==b
 |.int a,.bl b=>a==(if b then 1 else 0)
 |.int a,.int b=>a==b
 |.str a,.str b=>a==b
 |_,_=>false
theorem sw(ry:bj y u)(rx:bj x v)(fy:ee y=true)(fx:ee x=true):SeqAt.EqAt A s u v (ut y x):=by
 cases y with
 |bp=>
  cases ry;cases x with
  |bp=>cases rx;exact SeqAt.EqAt.same _
  |bl b=>cases rx;exact SeqAt.EqAt.none_bool b
  |int b=>obtain⟨t,rfl⟩:=rx;exact SeqAt.EqAt.none_int b t
  |str b=>obtain⟨t,rfl⟩:=rx;exact SeqAt.EqAt.none_str b t
  |_=>exact absurd (show false=true from fx) bH
 |bl a=>
  cases ry;cases x with
  |bp=>cases rx;exact SeqAt.EqAt.bool_none a
  |bl b=>cases rx;exact SeqAt.EqAt.bool_bool a b
  |int b=>obtain⟨t,rfl⟩:=rx;exact SeqAt.EqAt.bool_int a b t
  |str b=>obtain⟨t,rfl⟩:=rx;exact SeqAt.EqAt.bool_str a b t
  |_=>exact absurd (show false=true from fx) bH
 |int a=>
  obtain⟨t',rfl⟩:=ry;cases x with
  |bp=>cases rx;exact SeqAt.EqAt.int_none a t'
  |bl b=>cases rx;exact SeqAt.EqAt.int_bool a t' b
  |int b=>obtain⟨t,rfl⟩:=rx;exact SeqAt.EqAt.int_int a t' b t
  |str b=>obtain⟨t,rfl⟩:=rx;exact SeqAt.EqAt.int_str a t' b t
  |_=>exact absurd (show false=true from fx) bH
 |str a=>
  obtain⟨t',rfl⟩:=ry;cases x with
  |bp=>cases rx;exact SeqAt.EqAt.str_none a t'
  |bl b=>cases rx;exact SeqAt.EqAt.str_bool a t' b
  |int b=>obtain⟨t,rfl⟩:=rx;exact SeqAt.EqAt.str_int a t' b t
  |str b=>obtain⟨t,rfl⟩:=rx;exact SeqAt.EqAt.str_str a t' b t
  |_=>exact absurd (show false=true from fx) bH
 |_=>exact absurd (show false=true from fy) bH
def sG(x:V)(u:Value):Bool:=match u with
 |.none=>ut .bp x
 |.bool b=>ut (.bl b) x
 |.int i _=>ut (.int i) x
 |.str z _=>ut (.str z) x
 |_=>false
theorem Ch(r:bj y u)(f:ee y=true):sG x u=ut y x:=by
 cases y with
 |bp=>cases r;rfl
 |bl b=>cases r;rfl
 |int i=>obtain⟨t,rfl⟩:=r;rfl
 |str z=>obtain⟨t,rfl⟩:=r;rfl
 |_=>exact absurd (show false=true from f) bH
theorem jo:∀ {xs:List V} {us:List Value},aP xs us->xs.all ee=true->us.any (sG x)=xs.any fun y=>ut y x
 |_,_,.nil,_=>rfl
 |y::xs,u::us,.cons r t,f=>by
  rw[oF,e_] at f;rw[rS,rS,Ch r f.1,jo t f.2]
theorem gv(rx:bj x v)(fx:ee x=true):∀ {xs:List V} {us:List Value},aP xs us->xs.all ee=true->∀u∈us,SeqAt.EqAt A s u v (sG x u)
 |_,_,.nil,_=>fun u hu=>by cases hu
 |y::xs,u::us,.cons r t,f=>fun u' hu=>by
  rw[oF,e_] at f;rcases bo.mp hu with rfl|hu
  .rw[Ch r f.1];exact sw r rx f.1 fx
  .exact gv rx fx t f.2 u' hu
def yC(x:V)(xs:List V):Bool:=xs.any fun y=>ut y x
def Mg(K:PySem.W.Frag)(IS:Bool):R2:=fun x y H Q=>∃p xs,y=.ref p/\(bn K H p xs\/bK K H p xs)/\ee x=true/\xs.all ee=true/\Q (.bl (if IS then !yC x xs else yC x xs)) H
theorem l8:jC X (compareOp .In) (Mg X.K false):=by
 intro ae s σ H x y v u Q I rx ry h;obtain⟨p,xs,rfl,hq,fx,fs,q⟩:=h;cases ry;rcases hq with hq|hq
 .obtain⟨its,r,pl,hz⟩:=I.list hq;refine SeqAt.in_listAt (sG x) pl.isList (fun w hw=>gv rx fx r fs w (by simpa using hw)) ⟨.bl _,H,I,rfl,?_⟩;rw[show its.toArray.any (sG x)=its.any (sG x) by simp,jo r fs];exact q
 .obtain⟨its,r,pl,hz⟩:=I.tuple hq;refine SeqAt.in_tupleAt (sG x) pl (fun w hw=>gv rx fx r fs w (by simpa using hw)) ⟨.bl _,H,I,rfl,?_⟩;rw[show its.toArray.any (sG x)=its.any (sG x) by simp,jo r fs];exact q
theorem fu:jC X (compareOp .NotIn) (Mg X.K true):=by
 intro ae s σ H x y v u Q I rx ry h;obtain⟨p,xs,rfl,hq,fx,fs,q⟩:=h;cases ry;rcases hq with hq|hq
 .obtain⟨its,r,pl,hz⟩:=I.list hq;refine SeqAt.notIn_listAt (sG x) pl.isList (fun w hw=>gv rx fx r fs w (by simpa using hw)) ⟨.bl _,H,I,rfl,?_⟩;rw[show its.toArray.any (sG x)=its.any (sG x) by simp,jo r fs];exact q
 .obtain⟨its,r,pl,hz⟩:=I.tuple hq;refine SeqAt.notIn_tupleAt (sG x) pl (fun w hw=>gv rx fx r fs w (by simpa using hw)) ⟨.bl _,H,I,rfl,?_⟩;rw[show its.toArray.any (sG x)=its.any (sG x) by simp,jo r fs];exact q
theorem aG:eK X (.builtin "len") (fun xs H Q=>∃p ys,xs=[.ref p]/\(bn X.K H p ys\/bK X.K H p ys)/\Q (.int ys.length) H):=by
 intro ae s σ H xs us Q I r h;obtain⟨p,ys,rfl,hq,q⟩:=h;obtain⟨u,rfl,rx⟩:=B1 r;cases rx;have hn:=sk;rcases hq with hq|hq
 .obtain⟨its,r',pl,hz⟩:=I.list hq;have eA:=r'.length;exact Calls.call_len_list pl.isList (by simp only[cA] <;> lia) ⟨.int ys.length,H,I.tok _,⟨s.toks+1,by rw[cA,eA]⟩,q⟩
 .obtain⟨its,r',pl,hz⟩:=I.tuple hq;have eA:=r'.length;exact len_tuple pl (by simp only[cA] <;> lia) ⟨.int ys.length,H,I.tok _,⟨s.toks+1,by rw[cA,eA]⟩,q⟩
theorem sH:eK X (.type "list") (fun xs H Q=>∃p ys,xs=[.ref p]/\(bn X.K H p ys\/bK X.K H p ys)/\∀l,H l=none->Q (.ref l) (upd H l (.lst ys))):=by
 intro ae s σ H xs us Q I r h;obtain⟨p,ys,rfl,hq,q⟩:=h;obtain⟨u,rfl,rx⟩:=B1 r;cases rx;have dN:∀ (its:List Value),aP ys its->ys.length<=sizeLine->∀ (h':Heap) (c':Nat),(∀b o',s.heap.get? b=some o'->h'.get? b=some o')->
   h'.get? s.heap.objs.size=some { cls:=.type "list",dict:=none,data:=.seq its.toArray c',slots:=#[] }->EP X ae σ Q (.ref s.heap.objs.size) { s with heap:=h' }:=fun its r' hz h' c' kp e=>
  ⟨.ref s.heap.objs.size,_,I.laid (t':=s.toks) kp (aN _) (show ci X.prog X.w _ h' _ (.lst ys) from ⟨hz,its,c',r',e⟩),rfl,q _ (I.br.fresh (aN _))⟩
 rcases hq with hq|hq
 .obtain⟨its,r',pl,hz⟩:=I.list hq;have eA:=r'.length;obtain⟨o,ho,hc,n,hd⟩:=pl.isList;exact call_list_seq p (.inl rfl) ho hc hd (fun h' c' kp e=>dN its r' hz h' c' kp e) (by simp only[cA] <;> lia)
 .obtain⟨its,r',pl,hz⟩:=I.tuple hq;have eA:=r'.length;obtain⟨o,ho,hc,n,hd⟩:=pl;exact call_list_seq p (.inr rfl) ho hc hd (fun h' c' kp e=>dN its r' hz h' c' kp e) (by simp only[cA] <;> lia)
theorem cx:eK X (.type "tuple") (fun xs H Q=>∃p ys,xs=[.ref p]/\((bn X.K H p ys/\∀l,H l=none->Q (.ref l) (upd H l (.tup ys)))\/(bK X.K H p ys/\Q (.ref p) H))):=by
 intro ae s σ H xs us Q I r h;obtain⟨p,ys,rfl,h⟩:=h;obtain⟨u,rfl,rx⟩:=B1 r;cases rx;rcases h with ⟨hq,q⟩|⟨hq,q⟩
 .obtain⟨its,r',pl,hz⟩:=I.list hq;have eA:=r'.length;refine call_tuple_list pl.isList (fun h' kp=>?_) (by simp only[cA] <;> lia);have I1:aD X ae σ H { s with heap:=h' }:=I.kept (t':=s.toks) kp;have I2:aD X ae σ (upd H h'.objs.size (.tup ys)) { s with heap:=h'.push { cls:=.type "tuple",data:=.seq its.toArray } }:=
   I1.laid (t':=s.toks) (fun b o e=>cf _ e) (aN _) (show ci X.prog X.w _ _ _ (.tup ys) from ⟨hz,its,r',j5.new _ _⟩)
  exact⟨.ref h'.objs.size,_,I2,rfl,q _ (I1.br.fresh (aN _))⟩
 .obtain⟨its,r',pl,hz⟩:=I.tuple hq;exact call_tuple_same pl ⟨.ref p,H,I,rfl,q⟩
def Va(K:PySem.W.Frag)(T:String)(x:V)(H:Hp):Prop:=match x with
 |.str _=>T="str"
 |.int _=>T="int"
 |.ref p=>(T="list"/\∃xs,bn K H p xs)\/(T="tuple"/\∃o,K.lookup p=some o/\o.cls=.type "tuple"/\o.dict=none)\/
   (T="dict"/\((∃kG,H p=some (.dK kG))\/∃kG,H p=some (.dT kG)))\/(T="set"/\∃S n,H p=some (.set S n))
 |_=>False
theorem IT(I:aD X ae σ H s)(r:bj x v)(ty:Va X.K T x H):
  s.TypeIs v T/\∀a,v=.ref a->∃ob,s.heap.get? a=some ob/\ob.dict=none:=by
 cases x with
 |str z=>
  obtain⟨t,rfl⟩:=r;cases (show T="str" from ty);exact⟨typeIs_str s z t,fun _ e=>nomatch e⟩
 |int i=>
  obtain⟨t,rfl⟩:=r;cases (show T="int" from ty);exact⟨typeIs_int s i t,fun _ e=>nomatch e⟩
 |ref p=>
  cases r;rcases ty with ⟨rfl,xs,hq⟩|⟨rfl,o,hk,hc,hd⟩|⟨rfl,hk⟩|⟨rfl,S,n,hk⟩
  .obtain⟨its,_,pl,_⟩:=I.list hq;refine⟨pl.isList.typeIs,fun a e=>?_⟩;cases e;obtain⟨o,n,e,c,hd,_⟩:=pl;exact⟨o,e,hd⟩
  .refine⟨⟨o,I.j7 p o hk,hc⟩,fun a e=>?_⟩;cases e;exact⟨o,I.j7 _ o hk,hd⟩
  .have z:∃o,s.heap.get? p=some o/\o.ExactDict:=by
    rcases hk with ⟨kG,hk⟩|⟨kG,hk⟩
    .obtain⟨_,_,_,_,o,_,_,e,ex,_⟩:=I.br p _ hk;exact⟨o,e,ex⟩
    .obtain⟨_,_,_,_,o,_,_,e,ex,_⟩:=I.br p _ hk;exact⟨o,e,ex⟩
   obtain⟨o,e,ex⟩:=z;refine⟨⟨o,e,ex.1⟩,fun a e2=>?_⟩;cases e2;exact⟨o,e,ex.2.1⟩
  .obtain⟨o,_,_,_,e,ex,_⟩:=I.br p _ hk;refine⟨⟨o,e,ex.1⟩,fun a e2=>?_⟩;cases e2;exact⟨o,e,ex.2.1⟩
 |_=>exact False.elim ty
def WM(K:PySem.W.Frag)(T:String)(r:V->List V->Hp->VK->Prop)(to:TE)(t:TA):TE:=fun σ H Q=>to σ H fun x H1=>Va K T x H1/\t σ H1 fun xs H2=>r x xs H2 Q
variable {o e:Expr} {es:List Expr} {to:TE} {t:TA} {name:Str} {m7 m9:Pos} {T id:String} {r:V->List V->Hp->VK->Prop}
theorem io(pa:PlainAttrs T)(slot:Slot T name id)(WN:typeOf (.builtin id)=pure (.type "method_descriptor"))(hm:WL X id r)(ho:PE X o to)(ha:PA X (e::es) t)(Mh:attributeBase o name X.env (eval o X.env)=eval o X.env:=by rfl)(QL:((backTo m9 (starEach (e::es) X.env)).all (fun x=>!x.1)&&(backToKw m9 (keywordEach [] X.env)).all (fun x=>x.1.isSome)
   && decide ((e::es).length+([]:List Keyword).length+(if ([]:List Keyword).isEmpty then 0 else 1)<30))=true:=by rfl)(Mi:(m7.endLine==m9.line)=true:=by rfl)(hs:starEach (e::es) X.env=(false,eval e X.env)::starEach es X.env:=by rfl)(xj:(backTo m9 (starEach es X.env)).any (·.1)=false:=by rfl):
  PE X (.Call (.Attribute o name m7) (e::es) [] m9) (WM X.K T r to t):=by
 intro ae s σ H Q I h;refine wpAny_Call_method_late Mh QL Mi rfl (bZ (ho ae s σ H _ I h) fun v s1 ⟨x,H1,I1,r1,ty,q1⟩=>?_);obtain⟨h1,h2⟩:=IT I1 r1 ty;refine⟨T,id,pa,slot,WN,h1,h2,?_⟩;have hA:=ha m9 ae s1 σ H1 _ I1 q1;rw[hs] at hA |-;refine Calls.callWith_builtin (by show (false||(backTo m9 (starEach es X.env)).any (·.1))=false;rw[xj] <;> rfl) (Calls.evalArgs_plain ?_);exact bZ hA fun us s2 ⟨vs,H2,I2,r2,q2⟩=>hm ae s2 σ H2 x vs v us Q I2 r1 r2 q2
end
def Vb(X:Cx)(id:String)(r:V->List V->Hp->VK->Prop):Prop:=
 ∀ (ae:List (Addr×Obj)) (s:Shared) (σ:St) (H:Hp) (x:V) (xs:List V) (v:Value) (us:List Value) (Q:VK),aD X ae σ H s->bj x v->aP xs us->r x xs H Q->
  wpAny (model X.prog X.w) X.A (call (.builtin id) (v::us)) (EP X ae σ Q) X.xe s
theorem aP.one{x:V}{us:List Value}(h:aP [x] us):∃u,us=[u]/\bj x u:=by
 cases h with
 |cons r h=>cases h;exact⟨_,rfl,r⟩
theorem aP.two{x y:V}{us:List Value}(h:aP [x,y] us):∃u v,us=[u,v]/\bj x u/\bj y v:=by
 cases h with
 |cons r h=>
  cases h with
  |cons q h=>cases h;exact⟨_,_,rfl,r,q⟩
section
variable {X:Cx} {ae:List (Addr×Obj)} {σ:St} {H:Hp} {s:Shared} {l b:Addr} {xs ys zs:List V}
theorem aD.QM{its its':List Value}{n:Nat}{f:Array Value->Array Value}{t':Nat}(I:aD X ae σ H s)(hH:H l=some (.lst xs))(e:s.heap.get? l=some { cls:=.type "list",data:=.seq its.toArray n })(hf:f its.toArray=its'.toArray)(hv:aP ys its')(hz:ys.length<=sizeLine):
  aD X ae σ (upd H l (.lst ys)) { s with heap:=s.heap.update l (Obj.mapSeq f),toks:=t' }:=by
 have q:=PySem.IsL.update e f;rw[hf] at q;refine I.write (x:=l) (e:=l) (by rw[hH];exact trivial) (.inl rfl) (fun b' u hb hu=>(oq s.heap (Obj.mapSeq f) (cW hb)).trans hu) ⟨_,q⟩ ?_;exact⟨hz,its',_,hv,q⟩
theorem aD.Mj(I:aD X ae σ H s)(hv:aP ys its)(hz:ys.length<=sizeLine):
  aD X ae σ (upd H s.heap.objs.size (.lst ys)) { s with heap:=s.heap.push { cls:=.type "list",data:=.seq its.toArray },toks:=t' }:=
 I.laid (fun _ _ q=>cf _ q) (aN _) ⟨hz,its,0,hv,cI _ rfl⟩
theorem aD.fresh(I:aD X ae σ H s):H s.heap.objs.size=none:=I.br.fresh (aN _)
theorem aD.Fb(I:aD X ae σ H s)(hH:H l=some (.lst xs)):xs.length<=sizeLine/\∃ (its:List Value) (n:Nat),aP xs its/\xs.length=its.length/\s.heap.get? l=some { cls:=.type "list",data:=.seq its.toArray n }:=by
 obtain⟨z,its,n,r,e⟩:=I.br l _ hH;exact⟨z,its,n,r,r.length,e⟩
end
section
variable {X:Cx}
def Fc:V->List V->Hp->VK->Prop:=fun x vs H Q=>∃l xs y,x=.ref l/\vs=[y]/\H l=some (.lst xs)/\xs.length<sizeLine/\Q .bp (upd H l (.lst (xs++[y])))
theorem b_:Vb X "list.append" Fc:=by
 intro ae s σ H x vs v us Q I rx rv h;obtain⟨l,xs,y,rfl,rfl,hH,hz,q⟩:=h;cases rx;obtain⟨u,rfl,ru⟩:=rv.one;obtain⟨z,its,n,r,hl,e⟩:=I.Fb hH;refine call_meets F.slot_list_append ⟨_,e,rfl⟩ F.entry_list_append (F.args_list_append_2 _ _) (PySem.list_append l its.toArray n u (by rw[cA];lia)) ⟨e,?_⟩;refine⟨.bp,_,I.QM (its':=its++[u]) hH e (by simp) (r.append (.cons ru .nil)) ?_,rfl,q⟩;rw[dP,List.length_singleton];lia
def Ml:R2:=fun x y H Q=>∃l b xs zs,x=.ref l/\y=.ref b/\H l=some (.lst xs)/\H b=some (.lst zs)/\xs.length+zs.length<=sizeLine/\∀p,H p=none->Q (.ref p) (upd H p (.lst (xs++zs)))
theorem sI:jC X (binaryOp .Add) Ml:=by
 intro ae s σ H x y v u Q I rx ry h;obtain⟨l,b,xs,zs,rfl,rfl,hH,hB,hz,q⟩:=h;cases rx;cases ry;obtain⟨z,its,n,r,hl,e⟩:=I.Fb hH;obtain⟨z2,Mm,n2,r2,Mn,e2⟩:=I.Fb hB;refine PySem.P.add_list e e2 ?_ (by rw[cA,cA];lia);have ea:its.toArray++Mm.toArray=(its++Mm).toArray:=by simp
 rw[ea];exact⟨.ref _,_,I.Mj (t':=s.toks) (r.append r2) (by rw[dP];lia),rfl,q _ I.fresh⟩
end
section
variable {prog:Program} {w:World} {A:Around} {E:Value->Shared->Prop} {s:Shared}
end
section
variable {X:Cx}
end
end L2
namespace Vc
open PySem PySem.W PySem.Calls PyProof.Rows
theorem m_:∀ (ns:List Int) (vs:List Value),WellAll P h vs (ns.map WData.int)->IntsAre vs ns:=by
 intro ns;induction ns with
 |nil=>
  intro vs w;rw[List.map_nil] at w;cases w;exact .nil
 |cons n ns ih=>
  intro vs w;rw[f9] at w;cases w with
  |cons a b=>
   cases a;exact .cons _ _ (ih _ b)
theorem zM{l:OpenLaw}{n:Nat}(hn:l.most=some n){P:Params}{h:Heap}{args:List WData}{Ci:List Value}(Fe:l.row.toRowW.claim.pre args=true)(QN:WellAll P h Ci args):
  ∃a vs ns,Ci=[Value.ref a]/\args=[WData.list (ns.map WData.int)]/\h.get? a=some { cls:=.type "list",data:=.seq vs.toArray }/\IntsAre vs ns/\ns.length<=n:=by
 have WO:WShape.hasAll [] args [.list .int]=true:=(pre_splitW Fe).1;have hc:l.pre.holds [] { args:=args }=true:=(pre_splitW Fe).2;obtain⟨d,r,rfl,h1,h2⟩:=hasAllW_cons WO;obtain rfl:=hasAllW_nil h2;obtain⟨xs,rfl,h3⟩:=hasW_list h1;obtain⟨ns,rfl⟩:=items_int h3;have eA:ns.length<=n:=by
  unfold OpenLaw.pre at hc;have h4:(WTm.not (.lt (.lit (.int (n:Int))) (.len (.arg 0)))).holds [] { args:=[.list (ns.map .int)] }=true:=by
   have h4:=(holds_andW hc).1;rw[hn] at h4;exact h4
  have h5:=condW_of h4 (w_not (w_lt w_lit (w_len_list (w_arg rfl))));rw[aW] at h5;refine Nat.le_of_not_lt fun q=>?_;have q':(n:Int)<((ns.length:Nat):Int):=by lia
  first
   |(rw[bD q'] at h5;exact absurd h5 (by decide))
   |(simp at h5;lia)
 cases QN with
 |cons w1 w2=>
  cases w2;cases w1 with
  |list ho uJ=>exact⟨_,_,ns,rfl,rfl,ho,m_ ns _ uJ,eA⟩
theorem zN(l:OpenLaw)(args:List WData):l.row.toRowW.claim.post args (.bool true) args=true:=
 postW_of (r:=l.row.toRowW) (X:=(true==true))
  (show WShape.has [] (.bool true) .bool=true by first|rfl|decide|simp[WShape.has,WShape.arms,WShape.armsAll])
  (show (WTm.eq .res (.lit (.bool true))).value [] { args:=args,res:=some (.bool true),after:=args }=some (.bool (true==true)) from w_eq_bool (w_res rfl) w_lit) rfl
theorem uK{l:OpenLaw}{n:Nat}{q:Program}{qr:List Str}{XP:(Str->Option Value)->Heap->Prop}{YP:World->Heap->Prop}{d:DefRec}(hn:l.most=some n)(Mo:d.params.defaults=[])(call:∀ (w:World) (s₀ s₁:Shared) (mg mb:Str->Option Value) (fa:Addr) (o:Obj) (pm cd jm:Value) (a:Addr) (vs:List Value) (ns:List Int),
   Ground q qr [] XP w s₀ mg mb s₁.heap->YP w s₁.heap->
   s₁.heap.get? fa=some o->o.data=.func (docDef d.name d.params d.body d.scope pm cd jm)->s₁.heap.CodeRec cd d.name->mg d.name=some (.ref fa)->
   s₁.heap.get? a=some { cls:=.type "list",data:=.seq vs.toArray }->IntsAre vs ns->ns.length<=n->s₁.gens=#[]->
   codeAny (model l.prog w) callerA (.call (.ref fa) ⟨[.ref a],[]⟩) (fun r s'=>r=.ok (.ret (.bool true))/\OldK s₁.heap s'.heap/\s'.os=s₁.os/\AllBare s'.gens) s₁):
  WalkO q qr XP YP l.row.toRowW d [] (fun f vs=>PySem.call f vs):=by
 intro w s₀ s₁ mg mb G Y fa o pm cd jm dV kV ho hd mI hD Mp hg args Ci as Fe WP ZW QN Pl;obtain rfl:dV=.none:=Dflts.none hD Mo;obtain rfl:kV=.none:=Dflts.noKw hD;obtain⟨a,vs,ns,rfl,rfl,IU,Cj,eA⟩:=zM hn Fe QN;refine enter_call (iI (call w s₀ s₁ mg mb fa o pm cd jm a vs ns G Y ho (fd_plain hd) mI Mp IU Cj eA hg) fun r s' hq=>?_);obtain⟨rfl,h2,h3,h4⟩:=hq;exact⟨.inl ⟨.bool true,.bool true,[],rfl,fun _=>rfl,.bool true,zN l _,fun _=>⟨List.Pairwise.nil,fun _ hm=>(nomatch hm)⟩⟩,h2,h3,h4⟩
section
variable {prog:Program} {w:World} {A:Around} {E:Value->Shared->Prop} {s:Shared} {K:Frag}
end
end Vc
namespace L2
open PySem PySem.Spec PyProof.Rows
theorem qt:∀ {vs:List Value} {ns:List Int},IntsAre vs ns->aP (ns.map V.int) vs
 |_,_,.nil=>.nil
 |_,_,.cons n t h=>.cons ⟨t,rfl⟩ (qt h)
def fv(s:Stmt)(j:Nat):Stmt:=match s with
 |.ClassDef _ _ _ body _ _ _ _ _ _ _=>body.getD j (.Pass ⟨0,0,0,0⟩)
 |_=>.Pass ⟨0,0,0,0⟩
def cp(s:Stmt):Arguments:=match s with
 |.FunctionDef _ a _ _ _ _ _ _ _ _=>a
 |_=>{ posonlyargs:=[],args:=[],vararg:=none,kwonlyargs:=[],kw_defaults:=[],kwarg:=none,defaults:=[] }
def bq(s:Stmt):List Stmt:=match s with
 |.FunctionDef _ _ b _ _ _ _ _ _ _=>b
 |_=>[]
def aj(s:Stmt):Scope:=match s with
 |.FunctionDef _ _ _ _ _ _ sc _ _ _=>sc
 |_=>{ kind:=.function,names:=[],isGenerator:=false,isCoroutine:=false }
abbrev a_:nU:=fun _ _ _ _ _ _=>False
abbrev E0:XK:=fun _ _ _=>False
theorem aL:eU a_ X E0:=fun _ _ _ _ _ _ _ h=>h.elim
structure dR(K:PySem.W.Frag)(x qual:Str)(st:Stmt)(f:Addr)(fd:FuncData):Prop where
 ex:∃ (oc:Value) (od:Option Addr) (kV jm pm:Value) (an:Option Addr) (bL ct:Value) (qq:Array (Option Value)),
  fd=PySem.W.fnOf x qual (cp st) (bq st) (aj st) .none kV jm pm an bL ct/\K.lookup f=some ⟨oc,od,.func fd,qq⟩/\PySem.W.codeIn K bL qual=true
 kp:PySem.W.keepIn K (.ref f)=true
section
variable {P:Program} {w:World} {K:PySem.W.Frag} {mg:Str->Option Value} {base:Heap}
theorem dR.ok{x qual:Str}{st:Stmt}{f:Addr}{fd:FuncData}{N ps:List Str}{k:Nat}{sp:Sp}(F:dR K x qual st f fd)(S:aw N ps (aj st))(len:∀vs H Q E,sp vs H Q E->vs.length=ps.length)(iS:∀ (bL:Value) (A:Around) (outer:List Env) (s:Shared) (H:Hp) (vs:List V) (Q:VK) (E:XK),aZ k (A.deeper (envOfC qual (aj st) s.heap.objs.size f bL))->sp vs H Q E->
   ∃t,pK (fQ a_ P w K mg base N qual (aj st) f bL A outer s H E).AZ (bq st) t/\t { nx:=fun _ H'=>Q .bp H',rt:=Q } (start N vs) H):a9 P w K mg base a_ (k+1) f fd ps sp:=by
 obtain⟨oc,od,kV,jm,pm,an,bL,ct,qq,rfl,lk,mI⟩:=F.ex;refine B_ lk mI S len fun A outer s H vs Q E hr uG=>?_;obtain⟨t,h,q⟩:=iS bL A outer s H vs Q E hr uG;exact⟨t,h.AZ,q⟩
theorem dR.binds{x qual:Str}{st:Stmt}{f:Addr}{fd:FuncData}{ps:List Str}(F:dR K x qual st f fd)(h:∀ (kV jm pm:Value) (an:Option Addr) (bL ct:Value) (us:List Value),us.length=ps.length->bindArgs (PySem.W.fnOf x qual (cp st) (bq st) (aj st) .none kV jm pm an bL ct) ⟨us,[]⟩=pure (ps.zip us)):eL K fd ps []:=by
 obtain⟨oc,od,kV,jm,pm,an,bL,ct,qq,rfl,lk,mI⟩:=F.ex;exact .all (h kV jm pm an bL ct)
theorem l9{x qual:Str}{st:Stmt}{f:Addr}{oc:Value}{od an:Option Addr}{qq:Array (Option Value)}{kV jm pm bL ct:Value}(l:K.lookup f=some ⟨oc,od,.func (PySem.W.fnOf x qual (cp st) (bq st) (aj st) .none kV jm pm an bL ct),qq⟩)(c:PySem.W.codeIn K bL qual=true)(k:PySem.W.keepIn K (.ref f)=true):dR K x qual st f (PySem.W.fnOf x qual (cp st) (bq st) (aj st) .none kV jm pm an bL ct):=⟨⟨oc,od,kV,jm,pm,an,bL,ct,qq,rfl,l,c⟩,k⟩
end
section
variable {X:Cx}
theorem pv(i:Nat)(hN:X.N[i]?=some x:=by rfl)(hv:Lc X.env.scope x:=by first|exact Or.inl rfl|exact Or.inr (Or.inl rfl)|exact Or.inr (Or.inr rfl))(hd:(x==("__debug__":Str))=false:=by decide)(mI:(x==("__classdict__":Str))=false:=by decide):PE X (.Name x pos) (a8 i):=Iy hN hv hd mI
end
theorem d8{A B:Prop}(h:B):if false=true then A else B:=by
 rw[al bH];exact h
theorem gW{A B:Prop}(h:A):if true=true then A else B:=by
 rw[ak rfl];exact h
theorem iT{c A B:Prop}[Decidable c](h1:c->A)(h2:¬ c->B):if c then A else B:=by
 by_cases h:c
 .rw[ak h];exact h1 h
 .rw[al h];exact h2 h
def av(H H':Hp):Prop:=∀b o,H b=some o->H' b=some o
theorem av.refl(H:Hp):av H H:=fun _ _ h=>h
theorem av.trans(a:av H H1)(b:av H1 H2):av H H2:=fun c o h=>b c o (a c o h)
theorem av.free(e:av H H')(h:H' l=Option.none):H l=Option.none:=by
 cases q:H l with
 |none=>rfl
 |some o=>
  rw[e l o q] at h;cases h
def uL(src:List (Option Nat))(σ:St):St:=src.map fun o=>match o with|some j=>σ.getD j none|none=>none
theorem yD{src:List (Option Nat)}{σ:St}{i:Nat}{v:V}(h:(uL src σ)[i]?=some (some v)):∃j,src[i]?=some (some j)/\σ[j]?=some (some v):=by
 unfold uL at h;rw[bA] at h;cases e:src[i]? with
 |none=>rw[e] at h;cases h
 |some o=>
  rw[e] at h;cases o with
  |none=>cases h
  |some j=>
   refine⟨j,rfl,?_⟩;have h':σ.getD j none=some v:=bi h;rw[bU] at h';cases e2:σ[j]? with
   |none=>rw[e2] at h';cases h'
   |some o=>rw[e2] at h';rw[show o=some v from h']
structure dS(NB:List Str)(src:List (Option Nat))(scope:Scope)(X:Cx):Prop where
 kind:scope.kind=.function
 nd:NB.Nodup
 len:src.length=NB.length
 cells:∀y∈scope.names,y.2=.cell->scope.names.lookup y.1=some .cell
 names:∀y∈scope.names,y.2=.local->scope.names.lookup y.1=some .local
 free:∀y∈scope.names,y.2=.free->X.env.scope.names.lookup y.1=some .cell\/X.env.scope.names.lookup y.1=some .free
 src:∀ (i:Nat) (x:Str) (j:Nat),NB[i]?=some x->src[i]?=some (some j)->X.N[j]?=some x/\scope.names.lookup x=some .free
def sJ(scope:Scope)(x:Str):Bool:=match scope.names.lookup x with
 |some .cell=>true
 |_=>false
theorem uM:sJ scope x=true↔scope.names.lookup x=some .cell:=by
 unfold sJ;split
 .rename_i h;exact⟨fun _=>h,fun _=>rfl⟩
 .rename_i h;exact⟨fun z=>(by cases z),fun z=>absurd z h⟩
def uN(X:Cx)(NB:List Str)(scope:Scope)(cl:List (Str×Addr))(C:Addr)(s₃:Shared)(H₃:Hp)(fp:List Addr):Cx:=
 { X with N:=NB,s₀:=s₃,H₀:=H₃,env:=compEnvC scope cl C X.env,outer:=X.stack,stack:=X.stack,ex:=fp,fn:=sJ scope,pn:=[],xe:=fun _ _=>False }
theorem j_:∀ (names:List (Str×NameKind)) (dv:List (Str×Addr)),(∀y∈names,y.2=NameKind.free->∃c,env.cells.lookup y.1=some c)->(∀x c,dv.lookup x=some c->env.cells.lookup x=some c)->
  ∃cl,(forIn names dv fun x r=>(if (x.2==NameKind.free)=true then (do let a <- cellOf env x.1;pure (ForInStep.yield ((x.1,a)::r))) else pure (ForInStep.yield r):Sem (ForInStep (List (Str×Addr)))))=(pure cl:Sem (List (Str×Addr)))/\
   (∀x c,cl.lookup x=some c->env.cells.lookup x=some c)/\(∀x c,dv.lookup x=some c->∃c',cl.lookup x=some c')/\∀x,(x,NameKind.free)∈names->∃c,cl.lookup x=some c
 |[],dv,_,ha=>⟨dv,by rw[wO],ha,fun x c h=>⟨c,h⟩,fun x h=>nomatch h⟩
 |(n,k)::r,dv,hf,ha=>by
  by_cases hk:k=NameKind.free
  .subst hk;obtain⟨c,hc⟩:=hf (n,NameKind.free) bC rfl;have Mq:∀x c',((n,c)::dv).lookup x=some c'->env.cells.lookup x=some c':=fun x c' h=>by
    rw[eZ] at h;cases hx:x==n with
    |true=>
     rw[hx] at h;cases h;have:x=n:=by simpa using hx
     rw[this];exact hc
    |false=>rw[hx] at h;exact ha x c' h
   obtain⟨cl,e1,e2,e3,e4⟩:=j_ r ((n,c)::dv) (fun y hy=>hf y (bz _ hy)) Mq;refine⟨cl,?_,e2,fun x c' h=>?_,fun x h=>?_⟩
   .rw[wK];have ec:cellOf env n=pure c:=by unfold cellOf;rw[hc]
    have e0:(if ((n,NameKind.free).2==NameKind.free)=true then (do let a <- cellOf env (n,NameKind.free).1;pure (ForInStep.yield (((n,NameKind.free).1,a)::dv))) else pure (ForInStep.yield dv):Sem (ForInStep (List (Str×Addr))))=pure (ForInStep.yield ((n,c)::dv)):=by
     rw[ak (show (NameKind.free==NameKind.free)=true by decide)];show cellOf env n >>= _=_;rw[ec];rfl
    rw[e0];exact e1
   .cases hx:x==n with
    |true=>exact e3 x c (by rw[eZ,hx])
    |false=>exact e3 x c' (by rw[eZ,hx];exact h)
   .rcases bo.mp h with h|h
    .cases h;exact e3 n c (by rw[eZ];simp)
    .exact e4 x h
  .obtain⟨cl,e1,e2,e3,e4⟩:=j_ r dv (fun y hy=>hf y (bz _ hy)) ha;refine⟨cl,?_,e2,e3,fun x h=>?_⟩
   .rw[wK];have hb:(k==NameKind.free)=false:=by simpa using hk
    have e0:(if ((n,k).2==NameKind.free)=true then (do let a <- cellOf env (n,k).1;pure (ForInStep.yield (((n,k).1,a)::dv))) else pure (ForInStep.yield dv):Sem (ForInStep (List (Str×Addr))))=pure (ForInStep.yield dv):=by
     rw[al (by show ¬ (k==NameKind.free)=true;rw[hb];decide)]
    rw[e0];exact e1
   .rcases bo.mp h with h|h
    .cases h;exact absurd rfl hk
    .exact e4 x h
theorem gX(ok:X.Ok)(S:dS NB src scope X):
  ∃cl,closureFor scope X.env=pure cl/\(∀x c,cl.lookup x=some c->X.env.cells.lookup x=some c)/\∀x,(x,NameKind.free)∈scope.names->∃c,cl.lookup x=some c:=by
 obtain⟨cl,e1,e2,_,e4⟩:=j_ (env:=X.env) scope.names [] (fun y hy hk=>ok.has y.1 (S.free y hy hk)) (fun x c h=>nomatch h);refine⟨cl,?_,e2,e4⟩;unfold closureFor;simp only[bind_pure];exact e1
theorem sK(h:scope.names.lookup x=some .free):(relabel scope env).names.lookup x=some .cell\/(relabel scope env).names.lookup x=some .free:=by
 have go:∀names:List (Str×NameKind),names.lookup x=some .free->
   (names.map fun (n,k)=>if (k==NameKind.free&&env.scope.kind==.function&&env.kindOf n==some .cell) then (n,NameKind.cell) else (n,k)).lookup x=some .cell\/
   (names.map fun (n,k)=>if (k==NameKind.free&&env.scope.kind==.function&&env.kindOf n==some .cell) then (n,NameKind.cell) else (n,k)).lookup x=some .free:=by
  intro names;induction names with
  |nil=>intro h;simp at h
  |cons y r ih=>
   intro h;obtain⟨n,k⟩:=y;rw[eZ] at h;rw[f9];cases hx:x==n with
   |true=>
    rw[hx] at h;cases h;by_cases hc:(NameKind.free==NameKind.free&&env.scope.kind==.function&&env.kindOf n==some .cell)=true
    .left;show List.lookup x ((if _ then _ else _)::_)=_;rw[ak hc,eZ,hx]
    .right;show List.lookup x ((if _ then _ else _)::_)=_;rw[al hc,eZ,hx]
   |false=>
    rw[hx] at h;by_cases hc:(k==NameKind.free&&env.scope.kind==.function&&env.kindOf n==some .cell)=true
    .show List.lookup x ((if _ then _ else _)::_)=_\/List.lookup x ((if _ then _ else _)::_)=_;rw[ak hc,eZ,hx];exact ih h
    .show List.lookup x ((if _ then _ else _)::_)=_\/List.lookup x ((if _ then _ else _)::_)=_;rw[al hc,eZ,hx];exact ih h
 exact go scope.names h
theorem kQ(h:(relabel scope env).names.lookup x=some k)(hk:k=.cell\/k=.free):(x,NameKind.free)∈scope.names\/(x,NameKind.cell)∈scope.names:=by
 have m:=eX h;obtain⟨⟨n,k'⟩,hm,e⟩:=aX.mp m;by_cases q:(k'==NameKind.free&&env.scope.kind==.function&&env.kindOf n==some .cell)=true
 .have e':(n,NameKind.cell)=(x,k):=by simpa [q] using e
  have k1:k'=NameKind.free:=by
   simp only[e_,fD] at q;exact q.1.1
  cases e';left;rw[<-k1];exact hm
 .have e':(n,k')=(x,k):=by simpa [q] using e
  cases e';rcases hk with z|z
  .subst z;exact .inr hm
  .subst z;exact .inl hm
theorem l_:∀ (names:List (Str×NameKind)) (h:Heap) (dv:List (Str×Addr)) (x:Str) (c:Addr),(cellsFrom h.objs.size names dv).lookup x=some c->dv.lookup x=some c\/(h.objs.size<=c/\(pushCells h names).IsCell c none)
 |[],_,_,_,_,e=>.inl e
 |(name,kind)::r,h,dv,x,c,e=>by
  unfold cellsFrom at e;unfold pushCells;split at e
  .rename_i hk;rw[ak hk];have j9:(h.push { cls:=.type "cell",data:=.cell none }).objs.size=h.objs.size+1:=gI ..;rw[<-j9] at e;rcases l_ r _ _ x c e with z|⟨z1,z2⟩
   .rw[eZ] at z;cases hx:x==name with
    |true=>
     rw[hx] at z;cases z;exact .inr ⟨aN _,_,pushCells_keeps r _ _ _ (cI _ rfl),rfl⟩
    |false=>rw[hx] at z;exact .inl z
   .exact .inr ⟨by lia,z2⟩
  .rename_i hk;rw[al hk];exact l_ r h dv x c e
theorem qu:∀ (names:List (Str×NameKind)) (n:Nat) (dv:List (Str×Addr)) (x:Str),(x,NameKind.cell)∈names->∃c,n<=c/\(cellsFrom n names dv).lookup x=some c:=by
 have up:∀ (names:List (Str×NameKind)) (n m:Nat) (dv:List (Str×Addr)) (x:Str) (c:Addr),dv.lookup x=some c->m<=c->m<=n->∃c',m<=c'/\(cellsFrom n names dv).lookup x=some c':=by
  intro names;induction names with
  |nil=>intro n m dv x c e h _;exact⟨c,h,e⟩
  |cons y r ih=>
   intro n m dv x c e h hm;obtain⟨name,kind⟩:=y;unfold cellsFrom;split
   .cases hx:x==name with
    |true=>exact ih (n+1) m _ x n (by rw[eZ,hx]) hm (by lia)
    |false=>exact ih (n+1) m _ x c (by rw[eZ,hx];exact e) h (by lia)
   .exact ih n m dv x c e h hm
 intro names;induction names with
 |nil=>intro n dv x h;cases h
 |cons y r ih=>
  intro n dv x h;obtain⟨name,kind⟩:=y;unfold cellsFrom;rcases bo.mp h with z|z
  .cases z;rw[ak (by decide)];exact up r (n+1) n _ x n (by rw[eZ];simp) (aN _) (by lia)
  .split
   .obtain⟨c,h1,h2⟩:=ih (n+1) ((name,n)::dv) x z;exact⟨c,by lia,h2⟩
   .exact ih n dv x z
theorem jp:∀ (names:List (Str×NameKind)) (n:Nat) (dv:List (Str×Addr)) (x:Str) (c:Addr),dv.lookup x=some c->(x,NameKind.cell)∉names->(cellsFrom n names dv).lookup x=some c
 |[],_,_,_,_,e,_=>e
 |(name,kind)::r,n,dv,x,c,e,h=>by
  have hr:(x,NameKind.cell)∉r:=fun z=>h (bz _ z);unfold cellsFrom;split
  .rename_i hk;have iw:(x==name)=false:=by
    cases hx:x==name with
    |false=>rfl
    |true=>
     have e1:x=name:=by simpa using hx
     have e2:kind=.cell:=by simpa using hk
     exact absurd (by rw[e1,e2];exact bC) h
   exact jp r (n+1) _ x c (by rw[eZ,iw];exact e) hr
  .exact jp r n dv x c e hr
theorem md:∀ (names:List (Str×NameKind)) (n:Nat) (dv:List (Str×Addr)),(∀x y c,dv.lookup x=some c->dv.lookup y=some c->x=y)->(∀x c,dv.lookup x=some c->c<n)->∀x y c,(cellsFrom n names dv).lookup x=some c->(cellsFrom n names dv).lookup y=some c->x=y
 |[],_,_,hi,_=>hi
 |(name,kind)::r,n,dv,hi,hl=>by
  unfold cellsFrom;split
  .refine md r (n+1) _ (fun x y c h1 h2=>?_) (fun x c h=>?_)
   .rw[eZ] at h1 h2;cases hx:x==name <;> cases hy:y==name <;> rw[hx] at h1 <;> rw[hy] at h2
    .exact hi x y c h1 h2
    .cases h2;exact absurd (hl x _ h1) (gq _)
    .cases h1;exact absurd (hl y _ h2) (gq _)
    .have e1:x=name:=by simpa using hx
     have e2:y=name:=by simpa using hy
     rw[e1,e2]
   .rw[eZ] at h;cases hx:x==name <;> rw[hx] at h
    .exact dB (hl x c h)
    .cases h;exact kD _
  .exact md r n dv hi hl
section
variable {X:Cx} {ae:List (Addr×Obj)} {σ:St} {H:Hp} {s:Shared} {NB:List Str} {src:List (Option Nat)} {scope:Scope} {cl:List (Str×Addr)} {fp:List Addr} {h₁:Heap} {t₁:Nat}
theorem Ff(I:aD X ae σ H s)(S:dS NB src scope X)(c1:∀x c,cl.lookup x=some c->X.env.cells.lookup x=some c)(c2:∀x,(x,NameKind.free)∈scope.names->∃c,cl.lookup x=some c)(hf:∀b∈fp,fN X ae H b)(IW:∀b∈fp,b<s.heap.objs.size){m:Str->Option Value}(hn:h₁.Ns s.heap.objs.size m)(hk:∀b o,s.heap.get? b=some o->h₁.get? b=some o)(zO:∀x c,(cellsFrom (s.heap.objs.size+1) scope.names cl).lookup x=some c->cl.lookup x=some c\/(s.heap.objs.size<c/\h₁.IsCell c none)):
  aD (uN X NB scope (cellsFrom (s.heap.objs.size+1) scope.names cl) s.heap.objs.size s H fp) [] (uL src σ) H { s with heap:=h₁,toks:=t₁ }:=by
 have AX:∀b∈jB X.stack,b∈X.env.locals::X.fs:=I.se;have sL:∀x c,cl.lookup x=some c->∃v,s.heap.IsCell c v:=fun x c e=>I.cell x c (c1 x c e);have QO:∀x c,cl.lookup x=some c->c<s.heap.objs.size:=fun x c e=>by obtain⟨v,o,ho,_⟩:=sL x c e;exact aU ho
 refine⟨⟨I.ok.mod,S.kind,I.ok.glob,I.ok.blt,aN _,md _ _ _ (fun x y c e1 e2=>I.ok.inj x y c (c1 x c e1) (c1 y c e2)) (fun x c e=>dB (QO x c e)),fun x hx=>?_,fun x c z e=>?_,I.ok.hd,I.ok.frames,.inl rfl,fun b hb=>⟨?_,fun x c e=>?_⟩,I.bs,bf I.ok.yj I.sz,fun b o e hb=>?_,fun b hb=>?_,I.stack,I.nK⟩,
  rfl,I.bare,Un.kept hk,⟨m,hn,fun i x v e1 e2 e3=>?_⟩,fun x c e=>?_,I.br.fresh (aN _),fun x c e=>?_,fun p hp=>absurd (show p∈([]:List (Addr×Obj)) from hp) (by simp),I.br.kept hk,?_⟩
 .have Fg:(x,NameKind.free)∈scope.names\/(x,NameKind.cell)∈scope.names:=by
   rcases hx with hx|hx
   .exact kQ hx (.inl rfl)
   .exact kQ hx (.inr rfl)
  by_cases hc:(x,NameKind.cell)∈scope.names
  .obtain⟨c,_,e⟩:=qu scope.names (s.heap.objs.size+1) cl x hc;exact⟨c,e⟩
  .rcases Fg with z|z
   .obtain⟨c,e⟩:=c2 x z;exact⟨c,jp _ _ _ _ _ e hc⟩
   .exact absurd z hc
 .have hm:=eX (uM.mp z);obtain⟨c',h1,h2⟩:=qu scope.names (s.heap.objs.size+1) cl x hm;have e':(cellsFrom (s.heap.objs.size+1) scope.names cl).lookup x=some c:=e;rw[h2] at e';cases e';exact jS h1
 .exact aY (IW b hb)
 .rcases zO x c e with z|⟨z,_⟩
  .exact(hf b hb).2.2.2.2.1 x c (c1 x c z)
  .exact jX (Nat.lt_trans (IW b hb) z)
 .rcases(hf b hb).2.2.2.1 with z|z
  .exact I.ok.lO b o e z
  .exact absurd (cG (aU e) (bf I.ok.yj z)) (gq _)
 .intro z;rcases bo.mp (AX b z) with e|e
  .exact(hf b hb).2.1 e
  .exact(hf b hb).2.2.1 e
 .obtain⟨j,hj,hv⟩:=yD e2;obtain⟨hN,hF⟩:=S.src i x j e1 hj;obtain⟨m0,Ck,Mr⟩:=I.loc;have xk:=eX hF;have kx:=S.free _ xk rfl;have LY:Lc X.env.scope x:=by
   rcases kx with z|z
   .exact .inr (.inl z)
   .exact .inr (.inr z)
  obtain⟨u,r,l⟩:=Mr j x v hN hv LY;refine⟨u,r,.inr ⟨sK hF,?_⟩⟩;obtain⟨c,hc⟩:=c2 x xk;have WQ:(x,NameKind.cell)∉scope.names:=fun z=>by
   have:=S.cells _ z rfl;rw[hF] at this;cases this
  refine⟨c,jp _ _ _ _ _ hc WQ,?_⟩;rcases l with ⟨xm,_⟩|⟨_,c',e,z⟩
  .have Cm:X.env.scope.names.lookup x=some .local:=xm;rcases kx with z|z <;> (rw[z] at Cm;cases Cm)
  .rw[c1 x c hc] at e;cases e;obtain⟨o,ho,hd⟩:=z;exact⟨o,hk _ _ ho,hd⟩
 .rcases zO x c e with z|⟨_,z⟩
  .obtain⟨v,o,ho,hd⟩:=sL x c z;exact⟨v,o,hk _ _ ho,hd⟩
  .exact⟨none,z⟩
 .rcases zO x c e with z|⟨z,_⟩
  .exact I.fg x c (c1 x c z)
  .exact I.br.fresh (ii z)
 .show (uL src σ).length=NB.length;unfold uL;rw[aW];exact S.len
theorem aD.Ms(I:aD X ae σ H s)(J:aD (uN X NB scope cl C s H fp) [] σB H' s')(hf:∀b∈fp,fN X ae H b):aD X ae σ H' s':=by
 refine I.Bu (ch:=fp) J.os J.base J.br J.bare fun b hb=>?_;obtain⟨_,f1,_,f3,f4,f5⟩:=hf b hb;exact⟨f3,f1,f4,f5⟩
end
def IX(X:Cx)(vM:List Expr)(t:TT):Prop:=
 ∀ (ae:List (Addr×Obj)) (s:Shared) (σ:St) (H:Hp) (Q:Bool->Hp->Prop),aD X ae σ H s->t σ H Q->
  wpAny (model X.prog X.w) X.A (forIn vM true fun c r=>if r=true then do let ok <- isTrue c X.env (eval c X.env);pure (ForInStep.yield ok) else pure (ForInStep.yield r)) (TP X ae σ Q) X.xe s
def QP:TT:=fun _ H Q=>Q true H
theorem jq:IX X [] QP:=fun _ _ _ H _ I h=>wpAny_tests_nil ⟨H,I,h⟩
theorem dj(h:PT X c t):IX X [c] t:=fun ae s σ H Q I q=>wpAny_tests_one (h ae s σ H Q I q)
def jD(J:It)(g:TG)(tt:TT)(te:TE)(D:Addr)(dN:Hp->Prop)(σB:St)(H1:Hp):Prop:=
 ∃W:Nat->Nat->St->Hp->Prop,(∃m,W 0 m σB H1)/\∀i m σ H,W i m σ H->(J.stop i H/\dN H)\/(J.go i H/\∀x H',J.Hi i H x H'->g x σ H' fun σ2 H2=>tt σ2 H2 fun b H3=>
  if b=true then te σ2 H3 fun v H4=>∃ys,H4 D=some (.lst ys)/\ys.length<sizeLine/\∃m',m'<m/\W (i+1) m' σ2 (upd H4 D (.lst (ys++[v]))) else ∃m',m'<m/\W (i+1) m' σ2 H3)
def oX(G:Hp->Prop)(J:It)(g:TG)(tt:TT)(te:TE)(D:Addr)(dN:Hp->Prop)(σB:St)(H1:Hp):Prop:=
 ∃W:Nat->Nat->St->Hp->Prop,(∃m,W 0 m σB H1)/\∀i m σ H,W i m σ H->G H/\((J.stop i H/\dN H)\/(J.go i H/\∀x H',J.Hi i H x H'->g x σ H' fun σ2 H2=>tt σ2 H2 fun b H3=>
  if b=true then te σ2 H3 fun v H4=>∃ys,H4 D=some (.lst ys)/\ys.length<sizeLine/\∃m',m'<m/\W (i+1) m' σ2 (upd H4 D (.lst (ys++[v]))) else ∃m',m'<m/\W (i+1) m' σ2 H3))
theorem jD.g{J:It}{g:TG}{tt:TT}{te:TE}{D:Addr}{dN:Hp->Prop}{σB:St}{H1:Hp}(h:jD J g tt te D dN σB H1):oX (fun _=>True) J g tt te D dN σB H1:=let ⟨W,a,b⟩:=h;⟨W,a,fun i m σ H w=>⟨trivial,b i m σ H w⟩⟩
theorem zP(hx:B.xe=fun _ _=>False)(hc:∀H,G H->B.calm=true\/J.EZ B.A H)(T:wU B.prog B.w B.K tg J fp it tn)(hg:PG B tg g)(ht:IX B vM tt)(he:PE B yE te)(I:aD B [] σB H1 s)(st:tn 0 s.heap)(hf:∀b∈fp,fN B [] H1 b)(hw:oX G J g tt te D dN σB H1)(hR:∀σ' H' s',aD B [] σ' H' s'->dN H'->R (.ok .next) s'):
  codeAny (model B.prog B.w) B.A (.compLoop (.ListComp yE [⟨tg,f_,vM,0⟩] scope pos) 0 (.ref it) (.ref D) B.env) R s:=by
 obtain⟨W,⟨m0,w0⟩,BH⟩:=hw;have wX:∀ {H':Hp},(∀b∈fp,H' b=none)->∀b∈fp,fN B [] H' b:=fun hn b hb=>⟨hn b hb,(hf b hb).2⟩
 refine codeAny_loop rfl (fun n s'=>∃i σ' H',aD B [] σ' H' s'/\tn i s'.heap/\(∀b∈fp,H' b=none)/\W i n σ' H') ?_ m0 ⟨0,σB,H1,I,st,fun b hb=>(hf b hb).1,w0⟩;rintro n s3 ⟨i,σ3,H3,I3,wY,IF,w3⟩;show wpAny _ B.A ((compTurn (.ListComp yE [⟨tg,f_,vM,0⟩] scope pos) 0 (.ref it) (.ref D) B.env).onRaise (fun x=>do noteFrame x B.env;theTreesLotGoes x)) _ _ s3;refine wpAny_noted ?_;rw[compTurn_list];have nx:∀ {α:Type} {t:Sem α} {Q:α->Shared->Prop} {E':Value->Shared->Prop} {s:Shared},wpAny (model B.prog B.w) B.A t Q B.xe s->wpAny (model B.prog B.w) B.A t Q E' s:=fun h=>
  eQ h (fun _ _ q=>q) fun _ _ z=>by rw[hx] at z;exact z.elim
 obtain⟨hG,Mt⟩:=BH i n σ3 H3 w3;rcases Mt with ⟨stop,qn⟩|⟨go,step⟩
 .refine ap (lJ (ap (bZ (T.done B rfl rfl rfl i [] s3 σ3 H3 _ (hc _ hG) I3 (wX IF) wY stop) fun r s4 ⟨hr,I4⟩=>?_)));subst hr;exact wpAny_pure (hR σ3 H3 s4 I4 qn)
 .refine ap (lJ (ap (bZ (T.item B rfl rfl rfl i [] s3 σ3 H3 _ (hc _ hG) I3 (wX IF) wY go) fun r s4 ⟨u,hr,h4⟩=>?_)));subst hr;refine ap (bZ h4 fun _ s5 ⟨x,H5,I5,r5,y5,uq,Qy⟩=>?_);have Qz:=I5.pinned (wX Qy) (T.obj _ _ uq);refine ap (nx (bZ (hg _ s5 σ3 H5 x u _ Qz r5 (step x H5 y5)) fun _ s6 ⟨σ6,H6,I6,q6⟩=>?_));have back:∀ {σ7:St} {H7:Hp} {s7:Shared} {m':Nat},aD B ([]++oP fp s5.heap) σ7 H7 s7->m'<n->W (i+1) m' σ7 H7->∃m,m<n/\∃i σ' H',aD B [] σ' H' s7/\tn i s7.heap/\(∀b∈fp,H' b=none)/\W i m σ' H':=fun {σ7 H7 s7 m'} I7 hm w7=>by
   refine⟨m',hm,i+1,σ7,H7,I7.kI,T.keep _ _ _ uq fun b hb o e=>(I7.pin (b,o) (cz _ (cz _ (gQ hb e)))).1,fun b hb=>?_,w7⟩;obtain⟨o,e,d⟩:=T.obj _ _ uq b hb;exact(I7.pin (b,o) (cz _ (cz _ (gQ hb e)))).2.1
  refine ap (nx (bZ (ht _ s6 σ6 H6 _ I6 q6) fun ok s7 ⟨H7,I7,q7⟩=>?_));cases ok with
  |false=>
   rw[al bH] at q7;obtain⟨m',hm,w7⟩:=q7;exact wpAny_pure ⟨rfl,back I7 hm w7⟩
  |true=>
   rw[ak rfl] at q7;refine ap (ap (nx (bZ (he _ s7 σ6 H7 _ I7 q7) fun v s8 ⟨y,H8,I8,r8,ys,hD,hl,m',hm,w8⟩=>?_)));refine ap (nx (bZ (b_ _ s8 σ6 H8 (.ref D) [y] (.ref D) [v] (fun _ H9=>H9=upd H8 D (.lst (ys++[y]))) I8 rfl (.cons r8 .nil) ⟨D,ys,y,rfl,rfl,hD,hl,rfl⟩) fun _ s9 ⟨_,H9,I9,_,e9⟩=>?_));subst e9;exact wpAny_pure (wpAny_pure ⟨rfl,back I9 hm w8⟩)
theorem sO(hQ:Q { scope:=scope,locals:=s.heap.objs.size,globals:=globals,cells:=cellsFrom (s.heap.objs.size+1) scope.names cl,qual:=qual,func:=none,code:=outer.code,frame:=outer.frame,builtins:=outer.builtins }
   { s with heap:=pushCells (s.heap.push { cls:=.type "dict",data:=.dict #[] }) scope.names }):
  wpAny M A (newFunctionEnv scope globals cl [] qual none .none (some outer)) Q E s:=by
 simp only[newFunctionEnv,Option.isSome_some,if_true];refine ap (wpAny_alloc ?_);refine ap (wpAny_layCells _ (fun name kind cells=>by cases WR:kind==NameKind.cell <;> simp[WR]) _ _ _ _ ?_);rw[show ({ s with heap:=s.heap.push { cls:=.type "dict",data:=.dict #[] } }:Shared).heap.objs.size=s.heap.objs.size+1 from gI ..];refine ap ?_;rw[wO];exact wpAny_pure (wpAny_pure hQ)
section
variable {X:Cx} {yE tg f_:Expr} {vM:List Expr} {scope:Scope} {pos:Pos} {wi:TI} {g:TG} {tt:TT} {te:TE} {NB:List Str} {src:List (Option Nat)}
def Hk(src:List (Option Nat))(wi:TI)(g:TG)(tt:TT)(te:TE):TE:=fun σ H Q=>wi σ H fun J H1=>∀D,H1 D=none->jD J g tt te D (fun H'=>Q (.ref D) H') (uL src σ) (upd H1 D (.lst []))
theorem kg{ae:List (Addr×Obj)}{σ:St}{H2:Hp}{s2:Shared}{J:It}{fp:List Addr}{it:Addr}{tn:Nat->Heap->Prop}{cl:List (Str×Addr)}{dN:Addr->Hp->Prop}{E':Value->Shared->Prop}{RR:Value->Addr->Result->Shared->Prop}{G:Hp->Prop}(S:dS NB src scope X)(hc:∀H,G H->X.calm=true\/J.EZ X.A H)(c1:∀x c,cl.lookup x=some c->X.env.cells.lookup x=some c)(c2:∀x,(x,NameKind.free)∈scope.names->∃c,cl.lookup x=some c)(hg:∀cl C s₃ H₃ fp,PG (uN X NB scope cl C s₃ H₃ fp) tg g)(ht:∀cl C s₃ H₃ fp,IX (uN X NB scope cl C s₃ H₃ fp) vM tt)(he:∀cl C s₃ H₃ fp,PE (uN X NB scope cl C s₃ H₃ fp) yE te)(I2:aD X ae σ H2 s2)(T:wU X.prog X.w X.K tg J fp it tn)(qi:tn 0 s2.heap)(f2:∀b∈fp,fN X ae H2 b)(hw:∀D,H2 D=none->oX G J g tt te D (dN D) (uL src σ) (upd H2 D (.lst [])))(hR:∀D C H' s',fN X ae H' C->aD X ae σ H' s'->(∃m,s'.heap.Ns C m)->dN D H'->RR (.ref D) C (.ok .next) s'):
  wpAny (model X.prog X.w) X.A (newList []) (fun dv s₃=>wpAny (model X.prog X.w) X.A (newFunctionEnv scope X.env.globals cl [] X.env.qual none .none (some X.env)) (fun Mu s₄=>
   codeAny (model X.prog X.w) X.A (.compStart (.ListComp yE [⟨tg,f_,vM,0⟩] scope pos) 0 (.ref it) dv { Mu with scope:=relabel scope X.env }) (RR dv Mu.locals) s₄) E' s₃) E' s2:=by
 refine ic (sO ?_);have I3:=I2.Mj (ys:=[]) (its:=[]) (t':=s2.toks) .nil (cS _);have hD:H2 s2.heap.objs.size=none:=I2.fresh;have fo:∀b∈fp,b<s2.heap.objs.size:=fun b hb=>by obtain⟨o,e,_⟩:=T.obj _ _ qi b hb;exact aU e
 have up:∀ {b:Addr},b∈fp->upd H2 s2.heap.objs.size (.lst []) b=H2 b:=fun {b} hb=>ao (aY (fo b hb));have f3:∀b∈fp,fN X ae (upd H2 s2.heap.objs.size (.lst [])) b:=fun b hb=>⟨by rw[up hb];exact(f2 b hb).1,(f2 b hb).2⟩
 have j9:(s2.heap.push { cls:=.type "list",data:=.seq ([]:List Value).toArray }).objs.size=s2.heap.objs.size+1:=by rw[gI]
 generalize WS:({ s2 with heap:=s2.heap.push { cls:=.type "list",data:=.seq ([]:List Value).toArray } }:Shared)=s3 at I3 |-;have Vd:s3.heap=s2.heap.push { cls:=.type "list",data:=.seq ([]:List Value).toArray }:=by rw[<-WS]
 have Ve:∀b∈fp,b<s3.heap.objs.size:=fun b hb=>by rw[Vd,j9];exact dB (fo b hb)
 have Mv:(s3.heap.push { cls:=.type "dict",data:=.dict #[] }).objs.size=s3.heap.objs.size+1:=gI ..;have zO:∀x c,(cellsFrom (s3.heap.objs.size+1) scope.names cl).lookup x=some c->cl.lookup x=some c\/(s3.heap.objs.size<c/\(pushCells (s3.heap.push { cls:=.type "dict",data:=.dict #[] }) scope.names).IsCell c none):=fun x c e=>by
  rw[<-Mv] at e;rcases l_ _ _ _ _ _ e with z|⟨z1,z2⟩
  .exact .inl z
  .exact .inr ⟨by rw[Mv] at z1;exact z1,z2⟩
 have Mw:=(Heap.Ns.new s3.heap (.type "dict")).keeps (pushCells_keeps scope.names _);have keep:∀b o,s3.heap.get? b=some o->(pushCells (s3.heap.push { cls:=.type "dict",data:=.dict #[] }) scope.names).get? b=some o:=fun b o e=>pushCells_keeps _ _ b o (cf _ e);generalize ZX:pushCells (s3.heap.push { cls:=.type "dict",data:=.dict #[] }) scope.names=h₁ at zO Mw keep |-;have IB:aD (uN X NB scope (cellsFrom (s3.heap.objs.size+1) scope.names cl) s3.heap.objs.size s3 (upd H2 s2.heap.objs.size (.lst [])) fp) [] (uL src σ) (upd H2 s2.heap.objs.size (.lst [])) { s3 with heap:=h₁,toks:=s3.toks }:=
  Ff I3 S c1 c2 f3 Ve Mw keep zO
 have Vf:tn 0 h₁:=T.keep 0 s2.heap h₁ qi fun b hb o e=>keep b o (by rw[Vd];exact cf _ e);have fB:∀b∈fp,fN (uN X NB scope (cellsFrom (s3.heap.objs.size+1) scope.names cl) s3.heap.objs.size s3 (upd H2 s2.heap.objs.size (.lst [])) fp) [] (upd H2 s2.heap.objs.size (.lst [])) b:=fun b hb=>by
  refine⟨(f3 b hb).1,aY (Ve b hb),fun z=>?_,.inl hb,fun x c e=>(IB.ok.LK b hb).2 x c e,fun p hp=>absurd (show p∈([]:List (Addr×Obj)) from hp) (by simp)⟩;rcases bo.mp (I3.se b z) with e|e
  .exact(f3 b hb).2.1 e
  .exact(f3 b hb).2.2.1 e
 have loop:codeAny (model X.prog X.w) X.A (.compLoop (.ListComp yE [⟨tg,f_,vM,0⟩] scope pos) 0 (.ref it) (.ref s2.heap.objs.size) (compEnvC scope (cellsFrom (s3.heap.objs.size+1) scope.names cl) s3.heap.objs.size X.env)) (RR (.ref s2.heap.objs.size) s3.heap.objs.size)
   { s3 with heap:=h₁,toks:=s3.toks }:=by
  refine zP (B:=uN X NB scope (cellsFrom (s3.heap.objs.size+1) scope.names cl) s3.heap.objs.size s3 (upd H2 s2.heap.objs.size (.lst [])) fp) rfl hc T (hg _ _ _ _ _) (ht _ _ _ _ _) (he _ _ _ _ _) IB Vf fB (hw _ hD) fun σ' H' s' J' q=>?_;obtain⟨m,hm,_⟩:=J'.loc;exact hR _ _ H' s' (I3.wT (aN _) J'.free) (I3.Ms J' f3) ⟨m,hm⟩ q
 exact codeAny_compStart_list loop (T.self _ 0 _ _ _ Vf loop)
theorem dG(S:dS NB src scope X)(hc:X.calm=true)(hi:PI X tg f_ wi)(hg:∀cl C s₃ H₃ fp,PG (uN X NB scope cl C s₃ H₃ fp) tg g)(ht:∀cl C s₃ H₃ fp,IX (uN X NB scope cl C s₃ H₃ fp) vM tt)(he:∀cl C s₃ H₃ fp,PE (uN X NB scope cl C s₃ H₃ fp) yE te)(hs:∀x,foldedSetIterable f_ X.env x=pure x:=by intro _;rfl):PE X (.ListComp yE [⟨tg,f_,vM,0⟩] scope pos) (Hk src wi g tt te):=by
 intro ae s σ H Q I h;obtain⟨cl,EM,c1,c2⟩:=gX I.ok S;rw[eval_ListComp];refine v9 (use:=none) (cl:=cl) rfl hs EM S.kind S.names (bZ (hi ae s σ H _ I h) fun v s1 h1=>bZ h1 fun LZ s2 h2=>?_);obtain⟨it,fp,tn,J,H2,e,I2,T,qi,f2,hw⟩:=h2;subst e;refine kg (RR:=fun dv C=>compPost (model X.prog X.w) X.A X.xe none (EP X ae σ Q) dv C) S (G:=fun _=>True) (fun _ _=>.inl hc) c1 c2 hg ht he I2 T qi f2 (fun D hD=>(hw D hD).g) fun D C H' s' fC I' hm q=>?_;obtain⟨m,hm⟩:=hm;refine⟨m,hm,fun h' sb=>⟨.ref D,H',?_,rfl,q⟩⟩;obtain⟨g0,g1,_,g3,g4,g5⟩:=fC;exact I'.turned (t':=s'.toks) (fun b o hb e=>(sb.2 b hb).trans e) g0 g1 g3 g4 g5
def IY(A:Around)(src:List (Option Nat))(wi:TI)(g:TG)(tt:TT)(te:TE):TE:=fun σ H Q=>wi σ H fun J H1=>∀D,H1 D=none->oX (J.EZ A) J g tt te D (fun H'=>Q (.ref D) H') (uL src σ) (upd H1 D (.lst []))
theorem Cn(S:dS NB src scope X)(hi:PI X tg f_ wi)(hg:∀cl C s₃ H₃ fp,PG (uN X NB scope cl C s₃ H₃ fp) tg g)(ht:∀cl C s₃ H₃ fp,IX (uN X NB scope cl C s₃ H₃ fp) vM tt)(he:∀cl C s₃ H₃ fp,PE (uN X NB scope cl C s₃ H₃ fp) yE te)(hs:∀x,foldedSetIterable f_ X.env x=pure x:=by intro _;rfl):PE X (.ListComp yE [⟨tg,f_,vM,0⟩] scope pos) (IY X.A src wi g tt te):=by
 intro ae s σ H Q I h;obtain⟨cl,EM,c1,c2⟩:=gX I.ok S;rw[eval_ListComp];refine v9 (use:=none) (cl:=cl) rfl hs EM S.kind S.names (bZ (hi ae s σ H _ I h) fun v s1 h1=>bZ h1 fun LZ s2 h2=>?_);obtain⟨it,fp,tn,J,H2,e,I2,T,qi,f2,hw⟩:=h2;subst e;refine kg (RR:=fun dv C=>compPost (model X.prog X.w) X.A X.xe none (EP X ae σ Q) dv C) S (G:=J.EZ X.A) (fun _ z=>.inr z) c1 c2 hg ht he I2 T qi f2 hw fun D C H' s' fC I' hm q=>?_;obtain⟨m,hm⟩:=hm;refine⟨m,hm,fun h' sb=>⟨.ref D,H',?_,rfl,q⟩⟩;obtain⟨g0,g1,_,g3,g4,g5⟩:=fC;exact I'.turned (t':=s'.toks) (fun b o hb e=>(sb.2 b hb).trans e) g0 g1 g3 g4 g5
theorem eC{i:Nat}{y:Str}{py Mx:Pos}(S:dS NB src scope X)(hc:X.calm=true)(hi:PI X tg f_ wi)(hg:∀cl C s₃ H₃ fp,PG (uN X NB scope cl C s₃ H₃ fp) tg g)(ht:∀cl C s₃ H₃ fp,IX (uN X NB scope cl C s₃ H₃ fp) vM tt)(he:∀cl C s₃ H₃ fp,PE (uN X NB scope cl C s₃ H₃ fp) yE te)(hN:X.N.Nodup)(Fh:X.N[i]?=some y)(hy:X.env.scope.names.lookup y=some .local)(WT:swapsWith (.ListComp yE [⟨tg,f_,vM,0⟩] scope pos) (some (.Name y py)) Mx.line X.env=pure true)(hs:∀x,foldedSetIterable f_ X.env x=pure x:=by intro _;rfl):
  PS X (.Assign [.Name y py] (.ListComp yE [⟨tg,f_,vM,0⟩] scope pos) Mx) (Bz (Hk src wi g tt te) (bR i)):=by
 intro ae s σ H D0 I h;obtain⟨cl,EM,c1,c2⟩:=gX I.ok S;rw[exec_Assign_Name_used _ _ _ _ WT];refine ap (lJ (ap ?_));show wpAny _ X.A (do let _ <- comprehension (.ListComp yE [⟨tg,f_,vM,0⟩] scope pos) scope X.env _ (newList []) false (eval f_ X.env) (some (assign (.Name y py) X.env))) _ _ s;refine ap (eQ (v9 (use:=some (assign (.Name y py) X.env)) (Q:=fun _ s'=>SP X ae D0 .next s') (cl:=cl) rfl hs EM S.kind S.names
  (bZ (hi ae s σ H _ I h) fun v s1 h1=>bZ h1 fun LZ s2 h2=>?_)) (fun _ s' hq=>wpAny_pure (wpAny_pure hq)) fun _ _ e=>e)
 obtain⟨it,fp,tn,J,H2,e,I2,T,qi,f2,hw⟩:=h2;subst e;refine kg (RR:=fun dv C=>compPost (model X.prog X.w) X.A X.xe (some (assign (.Name y py) X.env)) (fun _ s'=>SP X ae D0 .next s') dv C) S (G:=fun _=>True) (fun _ _=>.inl hc) c1 c2 hg ht he I2 T qi f2 (fun D hD=>(hw D hD).g) fun D C H' s' fC I' hm q=>?_;obtain⟨m,hm⟩:=hm;obtain⟨g0,g1,_,g3,g4,g5⟩:=fC;show wpAny _ X.A (assign (.Name y py) X.env (.ref D)) _ _ _;refine wpAny_assign_Name (jj I' hN Fh (.inl hy) (v:=.ref D) rfl (fun uF WU sb=>?_) (.inr hy));obtain⟨a,sb,ha⟩:=sb;have iw:C≠a:=by
  rcases ha with z|z
  .rw[z];exact g1
  .exact fun z'=>g4 y a z z'.symm
 refine⟨m,hm.sameBut sb iw,fun h' WV=>⟨_,H',WU.turned (t':=uF.toks) (fun b o hb e=>(WV.2 b hb).trans e) g0 g1 g3 g4 g5,q⟩⟩
end
structure Co(P:Program)(w:World)(outer:List Env)(H:Hp)(s:Shared)(B:Heap)(p:Addr)(C a0:Value)(H':Hp)(s':Shared):Prop where
 os:s'.os=s.os
 bare:AllBare s'.gens
 br:j6 P w H' B
 keep:∀b o,s.heap.get? b=some o->H b=none->b∉jB outer->B.get? b=some o/\H' b=none
 frame:∀b o,s.heap.get? b=some o->H b=none->b∈jB outer->(∃sl,s'.heap.get? b=some { o with slots:=sl })/\H' b=none
 there:∀b o,s.heap.get? b=some o->H b≠none->∃o',B.get? b=some o'
 gK:∀b xs,H b=some (.tup xs)->H' b=some (.tup xs)
 iM:∀b o u,H b=some (.qf o u)->H' b=some (.qf o u)
 jx:∀b ps,H b=some (.mH ps)->∃more,H' b=some (.mH (ps++more))
 fl:uw B outer p C s'.heap
def eO(P:Program)(w:World):nU:=fun outer H s E e s'=>∃p C a0 B H',e=.ref p/\Co P w outer H s B p C a0 H' s'/\E C none H'
section
variable {P:Program} {w:World} {K:PySem.W.Frag} {mg:Str->Option Value} {base:Heap} {N:List Str} {qual:Str} {scope:Scope} {f:Addr} {cd:Value} {A:Around} {outer:List Env} {s:Shared} {H:Hp} {E:XK}
abbrev QQ(h:Heap)(l:List Env):Heap:=PySem.W.hideAll h (jB l)
theorem Fj{l:List Env}{H1:Hp}{h:Heap}(ok:j6 P w H1 h)(nf:∀b∈jB l,H1 b=none):j6 P w H1 (QQ h l):=fun a o e=>by
 refine(ok a o e).m5 (fun b u hb q=>rC _ q fun z=>?_) (fun _ q=>q) fun _ _ q=>q;have n:=nf b z;rcases hb with rfl|hb
 .rw[n] at e;cases e
 .rw[n] at hb;cases hb
theorem gw{ae:List (Addr×Obj)}{σ:St}{H1:Hp}{s1:Shared}{h':Heap}{e:Addr}{C:Value}{vs:List Value}(I:aD (fQ (eO P w) P w K mg base N qual scope f cd A outer s H E) ae σ H1 s1)(hx:Heap.MadeExcOf s1.heap h' e C vs)(q:E C none H1):
  (fQ (eO P w) P w K mg base N qual scope f cd A outer s H E).xe (.ref e) { s1 with heap:=h' }:=by
 have AX:jB (envOfC qual scope s.heap.objs.size f cd::outer)=s.heap.objs.size::jB outer:=rfl;have QR:=I.stack;refine wR (B:=QQ s1.heap (envOfC qual scope s.heap.objs.size f cd::outer)) (h:=s1.heap) (L:=s.heap.objs.size) I.ok.frames rfl (fun b o z=>PySem.W.of_hideAll _ z)
  (PySem.W.funFrames_hide QR fun env he b hb=>jP.mpr ⟨env,he,hb⟩) hx fun h2 x1 x4=>?_
 have WW:∀b o,s1.heap.get? b=some o->b∉jB outer->b<s.heap.objs.size->(QQ s1.heap (envOfC qual scope s.heap.objs.size f cd::outer)).get? b=some o:=fun b o z hb eS=>
  rC _ z fun m=>by
   rw[AX] at m;rcases bo.mp m with z'|z'
   .exact absurd eS (by rw[z'];exact gq _)
   .exact hb z'
 refine⟨e,C,.none,_,H1,rfl,⟨I.os,I.bare,Fj I.br I.nK,fun b o z n hb=>⟨WW b o (I.base.keep b o z n hb (by intro m;exact absurd (show b∈([]:List Addr) from m) (by simp))) hb (aU z),I.base.free b o z n (by intro m;exact absurd (show b∈([]:List Addr) from m) (by simp))⟩,
  fun b o z n hb=>⟨?_,I.base.free b o z n (by intro m;exact absurd (show b∈([]:List Addr) from m) (by simp))⟩,fun b o z n=>?_,I.base.gK,I.base.iM,I.base.jx,x1⟩,q⟩
 .obtain⟨sl,z1⟩:=I.base.slot b o z n hb (by intro m;exact absurd (show b∈([]:List Addr) from m) (by simp));obtain⟨_,o',qg,nd⟩:=I.ok.iO.mem hb;have e':o'=o:=bi (qg.symm.trans z);subst e';obtain⟨Pm,z2⟩:=x4 b _ (hx.keeps _ _ z1) nd;exact⟨Pm,z2⟩
 .have QS:b∉jB (envOfC qual scope s.heap.objs.size f cd::outer):=fun m=>by
   rw[AX] at m;rcases bo.mp m with z'|z'
   .exact absurd (aU z) (by rw[z'];exact gq _)
   .exact n (I.ok.AY b z')
  obtain⟨o',z1⟩:=I.base.there b o z (by intro m;exact absurd (show b∈([]:List Addr) from m) (by simp));exact⟨o',rC _ z1 QS⟩
theorem uO{E':XK}(hE:∀C d H',E' C d H'->E C d H'):eU (eO P w) (fQ (eO P w) P w K mg base N qual scope f cd A outer s H E) E':=by
 intro ae σ H1 s1 e s' I h;obtain⟨p,C,a0,B,H',rfl,F,q⟩:=h;have AX:jB (envOfC qual scope s.heap.objs.size f cd::outer)=s.heap.objs.size::jB outer:=rfl;have lO:∀b:Addr,b∉(fQ (eO P w) P w K mg base N qual scope f cd A outer s H E).ex:=fun b m=>absurd (show b∈([]:List Addr) from m) (by simp);have Vg:∀b o,s.heap.get? b=some o->b∉jB outer->b∉jB (fQ (eO P w) P w K mg base N qual scope f cd A outer s H E).stack:=fun b o z hb m=>by
  have m':b∈s.heap.objs.size::jB outer:=m;rcases bo.mp m' with z'|z'
  .exact absurd (aU z) (by rw[z'];exact gq _)
  .exact hb z'
 show wpAny _ _ (leaving (envOfC qual scope s.heap.objs.size f cd) (.ref p)) _ _ s';refine Bn (outer:=outer) (L:=s.heap.objs.size) I.ok.frames rfl F.fl fun h2 x1 x2=>?_;refine⟨p,C,a0,B,H',rfl,⟨F.os.trans I.os,F.bare,F.br,fun b o z n hb=>?_,fun b o z n hb=>?_,fun b o z n=>?_,fun b xs z=>F.gK b xs (I.base.gK b xs z),fun b o u z=>F.iM b o u (I.base.iM b o u z),fun b ps z=>?_,x1⟩,hE _ _ _ q⟩
 .exact F.keep b o (I.base.keep b o z n hb (lO b)) (I.base.free b o z n (lO b)) (Vg b o z hb)
 .obtain⟨sl,z1⟩:=I.base.slot b o z n hb (lO b);have yF:b∈jB (fQ (eO P w) P w K mg base N qual scope f cd A outer s H E).stack:=bz _ hb;obtain⟨⟨Pm,z2⟩,n2⟩:=F.frame b _ z1 (I.base.free b o z n (lO b)) yF;obtain⟨_,o',qg,nd⟩:=I.ok.iO.mem hb;have e':o'=o:=bi (qg.symm.trans z);subst e';obtain⟨WX,z3⟩:=x2 b _ z2 nd;exact⟨⟨WX,z3⟩,n2⟩
 .obtain⟨o',z1⟩:=I.base.there b o z (lO b);have Cd:b∉jB outer:=fun m=>n (I.ok.AY b m);cases n1:H1 b with
  |none=>exact⟨o',(F.keep b o' z1 n1 (Vg b o z Cd)).1⟩
  |some u=>exact F.there b o' z1 (by rw[n1];intro z';cases z')
 .obtain⟨m1,z1⟩:=I.base.jx b ps z;obtain⟨m2,z2⟩:=F.jx b _ z1;exact⟨m1++m2,by rw[z2,Array.append_assoc]⟩
theorem Fk:PassesOwn (model P w) (fQ (eO P w) P w K mg base N qual scope f cd A outer s H E).A (fQ (eO P w) P w K mg base N qual scope f cd A outer s H E).env (fQ (eO P w) P w K mg base N qual scope f cd A outer s H E).xe:=by
 intro e s' h;exact PassesOwn.leaving (M:=model P w) (A:=A.deeper (envOfC qual scope s.heap.objs.size f cd)) (env:=envOfC qual scope s.heap.objs.size f cd) (Q₁:=fun e uF=>eO P w outer H s E e uF) (E₁:=fun e' uF=>eO P w outer H s E e' uF) e s' h
end
theorem iU{P:Program}{w:World}{X:Cx}:eU (eO P w) X E0:=fun _ _ _ _ _ _ _ h=>by
 obtain⟨_,_,_,_,_,_,_,q⟩:=h;exact q.elim
open PySem PySem.Spec PyProof.Rows PySem.W
abbrev WY:List Value:=[.type "ValueError",.type "Exception",.type "BaseException",.type "object"]
structure iV(K:PySem.W.Frag)(C:Addr):Prop where
 ex:PySem.W.excIn K C WY "ValueError.__new__"=true
 kp:PySem.W.keepIn K (.ref C)=true
 ga:PySem.W.findIn K (.ref C) "__getattribute__"=some (some (.builtin "BaseException.__getattribute__"))
 gt:PySem.W.findIn K (.ref C) "__getattr__"=some none
 cl:PySem.W.findIn K (.ref C) "__class__"=some (some (.builtin "object.__class__"))
 mo:PySem.W.mroIn K C (.type "object")=some true
 mb:PySem.W.mroIn K C (.type "BaseException")=some true
 ty:(PySem.W.clsIn K C).isSome=true
theorem uP{K:PySem.W.Frag}{h:Heap}{C:Addr}{Vh:List Value}{Hl:String}(X:K.In h)(q:PySem.W.excIn K C Vh Hl=true):
  ∃bm N nm qn bs hdct sn sub ab col dd k0 k1 k2 k3 k5 mN,h.get? C=some (excClassObj nm qn C N bs bm hdct sn sub ab col dd k0 k1 k2 k3 k5 Hl)/\h.Ns N mN/\mN "__init__"=none/\OwnTail h Vh bm:=by
 unfold PySem.W.excIn at q;split at q
 .rename_i dd cd sl ho;split at q
  .rename_i C' bm k0 k1 k2 k3 n k5 hm hs;simp only[e_,fD,Bool.not_eq_true'] at q;obtain⟨⟨⟨⟨⟨rfl,rfl⟩,My⟩,ht⟩,br⟩,Mz⟩:=q;obtain⟨nm,bs,mro,ns,qn,hd,sn,sub,ab,col,ZY⟩:=cd;dsimp only at hm My br Mz;subst hm My;have Lh:sl=#[k0,k1,k2,k3,some (.builtin n),k5]:=by
    obtain⟨l⟩:=sl;simp only at hs;rw[hs]
   subst Lh;exact⟨bm,ns,nm,qn,bs,hd,sn,sub,ab,col,dd,k0,k1,k2,k3,k5,_,X _ _ ho,.of_isNs (isNs_of_in X br),nsMap_none_of_in X br Mz,tail_of_in X ht⟩
  .cases q
 .cases q
def EN(p:Addr)(C:Value)(h:Heap):Prop:=∃o,h.get? p=some o/\o.cls=C/\∃vs,o.data=.fields vs/\vs[2]?=some .none
theorem EN.nc{p:Addr}{C:Value}{h:Heap}(x:EN p C h):ux p h:=let ⟨o,a,_,vs,b,c⟩:=x;⟨o,vs,a,b,c⟩
abbrev sQ(p:Addr)(C:Value):HO:=.ext (EN p C)
theorem EN.ok{P:Program}{w:World}{H:Hp}{h:Heap}{p:Addr}{C:Value}(x:EN p C h):ci P w H h p (sQ p C):=
 ⟨x,(let ⟨o,e,_⟩:=x;⟨o,e⟩),fun h1 h2 ⟨o,e,r⟩ k=>⟨o,k o e,r⟩⟩
theorem ci.get(x:ci P w H h a o):∃u,h.get? a=some u:=by
 cases o with
 |lst xs=>obtain⟨_,_,_,_,e⟩:=x;exact⟨_,e⟩
 |tup xs=>obtain⟨_,_,_,ob,e,_⟩:=x;exact⟨_,e⟩
 |dK kG=>obtain⟨_,_,_,_,o,_,_,e,_⟩:=x;exact⟨_,e⟩
 |dT kG=>obtain⟨_,_,_,_,o,_,_,e,_⟩:=x;exact⟨_,e⟩
 |set S n=>obtain⟨o,_,_,_,e,_⟩:=x;exact⟨_,e⟩
 |ins C dx fs=>obtain⟨_,_,_,e,_⟩:=x;exact⟨_,e⟩
 |own y=>exact x
 |xd fs=>obtain⟨_,⟨_,_,_,e,_⟩,_⟩:=x;exact⟨_,e⟩
 |EF lo hi=>obtain⟨_,_,_,e⟩:=x;exact⟨_,e⟩
 |qf ob u=>obtain⟨e,_⟩:=x;exact⟨_,e⟩
 |mH ps=>exact⟨_,(show h.get? a=some _ from x)⟩
 |met f y=>exact⟨_,(show h.get? a=some _ from x)⟩
 |ext φ=>exact x.2.1
theorem j6.oY(x:j6 P w H h)(e:h.get? a=none):H a=none:=by
 cases q:H a with
 |none=>rfl
 |some u=>obtain⟨o,z⟩:=(x a u q).get;rw[e] at z;cases z
theorem aD.Cp(I:aD X ae σ H s)(k:∀b u,s.heap.get? b=some u->h'.get? b=some u)(hp:s.heap.get? a=none)(new:ci X.prog X.w (upd H a o) h' a o):
  aD X ae σ (upd H a o) { s with heap:=h',toks:=t' }:=by
 have hn:=I.br.oY hp;have ne:∀b u,s.heap.get? b=some u->b≠a:=fun b u e z=>by rw[z,hp] at e;cases e
 refine I.un ⟨fun b u e _ _ _=>k b u e,fun b u e _ _ _=>⟨u.slots,k b u e⟩,fun b u e n _=>by rw[ao (ne b u e)];exact n,fun b u e _=>⟨u,k b u e⟩,fun b xs e=>by rw[ao (aq e hn)];exact e,fun b u v e=>by rw[ao (aq e hn)];exact e,fun b ps e=>⟨#[],by rw[ao (aq e hn),e];simp⟩⟩ fun b u e=>?_;by_cases hb:b=a
 .subst hb;rw[ah] at e;cases e;exact new
 .rw[ao hb] at e;exact(I.br b u e).m5 (fun c v _ q=>k c v q) (fun c q=>by rw[ao (aq q hn)];exact q) fun c xs q=>by rw[ao (aq q hn)];exact q
section
variable {prog:Program} {w:World} {A:Around} {E:Value->Shared->Prop} {s:Shared} {K:PySem.W.Frag} {x C:Addr} {ox:Obj}
theorem yG(hx:h.get? x=some ox)(hc:ox.cls=.ref C):PySem.W.Looks M h (typeOf (.ref x)) (.ref C):=hc ▸ (PySem.W.Looks.ld hx).andThen .now
open Builtin Builtin.ObjectAttr Builtin.Getset_descriptor in
theorem xn(X:K.In s.heap)(hx:s.heap.get? x=some ox)(hc:ox.cls=.ref C)(hm:PySem.W.mroIn K C (.type "object")=some true)(h:R (.ok (.ret (.ref C))) s):codeAny (model prog w) A (.call (.builtin "getset_descriptor.__get__") ⟨[.builtin "object.__class__",.ref x,tp],[]⟩) R s:=by
 obtain⟨hh,g,dr,t,os⟩:=s;have L0:=yG (M:=model prog w) hx hc;have L1:=looks_mroIn (M:=model prog w) X hm;refine ww KF.slot_gs.plain KF.entry_gs (KF.slot_gs.check _ _ _ _ _ _ _ _ KF.type_class (KF.args_gs _ _ _) ?_);unfold Builtin.«getset_descriptor.__get__» descrGet;rw[dga_obj];refine ap (wpAny_pure ?_);unfold descrGetter descrCheckInstance descrNameAndClass isInstance;simp only[KF.owner_class];repeat lk
 refine⟨Code.quiet_builtin _ (by decide +kernel),jV KF.entry_class ?_⟩;unfold Builtin.«object.__class__» shownTypeOf;repeat lk
 exact h
theorem uQ{M:Model}{D:Addr}{b:Bool}{Q:Bool->Shared->Prop}{h:Heap}{g d t os}(X:K.In h)(TD:iV K D)(hx:h.get? x=some ox)(hc:ox.cls=.ref C)(sub:PySem.W.subIn K (.ref C) (.ref D)=some b)(hq:Q b ⟨h,g,d,t,os⟩):
  wpAny M A (excMatches (.ref x) (.ref D)) Q E ⟨h,g,d,t,os⟩:=by
 obtain⟨bm,N,nm,qn,bs,hdct,sn,WZ,ab,col,dd,k0,k1,k2,k3,k5,mN,hC,hN,Mz,TL⟩:=uP X TD.ex;have W0:(Value.ref D::bm).contains (.type "BaseException")=true:=by rw[List.contains_cons,TL.hasType vV.hasBase,Bool.or_true]
 have L1:=looks_subIn (M:=M) X sub;have f:=tc_notTuple;unfold excMatches;repeat (first|(with_reducible refine oB hx ?_;rw[hc])|with_reducible refine oB hC ?_|with_reducible refine L1.at ?_|(with_reducible refine wpAny_isSubtype_exc hC ?_;rw[W0])|wp_step)
 cases b
 .repeat (first|exact hq|wp_step)
 .repeat (first|exact hq|wp_step)
theorem zQ{g d t os}(T:iV K C)(X:K.In h)(hx:h.get? x=some ox)(hc:ox.cls=.ref C)(hq:Q (.done (.ret (.ref C))) ⟨h,g,d,t,os⟩):
  wpAny (model prog w) A (Builtin.«object.__getattribute__» ⟨[.ref x,.str "__class__" tk],[]⟩) Q E ⟨h,g,d,t,os⟩:=by
 have f5:=F.typeOf_bexc_args;have ZZ:(⟨h,g,d,t,os⟩:Shared).TypeIs (.builtin "object.__class__") "getset_descriptor":=Bd;have Z0:=Bd;have f6:=F.slot_gs_get.lookup;have f7:=F.slot_gs_set.lookup;have L1:=looks_findIn (M:=model prog w) X T.cl;repeat (any_goals (first|assumption|(with_reducible refine oB hx ?_;rw[hc])|with_reducible refine L1.at ?_|wp_step))
 refine xn (s:=⟨h,g,d,t,os⟩) X hx hc T.mo ?_;repeat (any_goals (first|assumption|wp_step))
theorem zR{g d t os}(T:iV K C)(X:K.In h)(hx:h.get? x=some ox)(hc:ox.cls=.ref C)(hq:Q () ⟨h,g,d,t,os⟩):
  wpAny M A (checkBuiltinCall "BaseException.__getattribute__" ⟨[.ref x,ME],[]⟩) Q E ⟨h,g,d,t,os⟩:=by
 have hk:builtinKind "BaseException.__getattribute__"=some .slot:=by decide +kernel
 have IZ:splitId "BaseException.__getattribute__"=some ("BaseException","__getattribute__"):=by decide +kernel
 have ha:=F.args_bexc_ga (.ref x) ME;have L1:=looks_mroIn (M:=M) X T.mb;simp only[checkBuiltinCall,hk,IZ];refine ap ?_
 .unfold isInstance;repeat (first|(with_reducible refine oB hx ?_;rw[hc])|with_reducible refine L1.at ?_|wp_step)
  exact hq
theorem I0{tk:Tok}{fill E4:Bool}{Q:Value->Shared->Prop}{h:Heap}{g d t os}(T:iV K C)(X:K.In h)(hx:h.get? x=some ox)(hc:ox.cls=.ref C)(hq:Q (.ref C) ⟨h,g,d,t,os⟩):
  wpAny (model prog w) A (getAttrBy (.ref x) (.str "__class__" tk) fill E4) Q E ⟨h,g,d,t,os⟩:=by
 have f3:=F.attr_ValueError.ga.bind (.ref x);have Z1:(E4&&onTheHeap (Value.builtin "BaseException.__getattribute__"))=false:=by cases E4 <;> rfl
 have W1:(Value.builtin "BaseException.__getattribute__"==Value.builtin "object.__getattribute__")=false:=by decide +kernel
 have Z2:(onTheHeap (Value.ref C)&&Value.builtin "BaseException.__getattribute__"==Value.builtin "object.__getattribute__")=false:=by rw[W1];rfl
 have L1:=looks_findIn (M:=model prog w) X T.ga;have L2:=looks_findIn (M:=model prog w) X T.gt;repeat (any_goals (first|assumption|(with_reducible refine oB hx ?_;rw[hc])|with_reducible refine L1.at ?_|with_reducible refine L2.at ?_|wp_step))
 refine ww F.attr_ValueError.ga.plain F.entry_bexc_ga (zR T X hx hc (zQ T X hx hc ?_));repeat (any_goals (first|assumption|wp_step))
theorem Cq{Q:Option Value->Shared->Prop}{h:Heap}{g d t os}(T:iV K C)(X:K.In h)(hx:h.get? x=some ox)(hc:ox.cls=.ref C)(hq:Q (some (.ref C)) ⟨h,g,d,t+1,os⟩):
  wpAny (model prog w) A (getAttr? (.ref x) "__class__") Q E ⟨h,g,d,t,os⟩:=by
 unfold getAttr?;repeat (any_goals (first|assumption|with_reducible apply I0 T X hx hc|wp_step))
theorem uR(T:iV K C):PySem.W.KitX K (.ref x) (.ref C) (EN x (.ref C)) where
 ty:=fun _ _ _ ⟨o,e,c,_⟩=>yG e c
 it:=fun _ _ X _=>by
  obtain⟨W2,E6⟩:=v3.mp T.ty;unfold clsIn at E6;split at E6
  .rename_i c' d' W3 Ql ho;intro A' Q' E' s' k q;unfold isType loadHead;exact ap (wpAny_loadPart (k _ _ (X _ _ ho)) (wpAny_pure q))
  .cases E6
 ne:=fun h tp dd its n sl X QT=>by
  obtain⟨W2,E6⟩:=v3.mp T.ty;refine kC.mpr fun q=>?_;have e:C=tp:=Value.ref.inj (fD.mp q);subst e;unfold clsIn at E6;split at E6
  .rename_i c' d' W3 Ql ho;have z:=(X _ _ ho).symm.trans QT;cases z
  .cases E6
 ca:=fun {_ _ _ _ _ s} X ⟨o,e,c,_⟩ k=>by
  obtain⟨h,g,d,t,os⟩:=s;exact Cq T X e c k
end
section
variable {X:Cx}
inductive I_ (K:PySem.W.Frag) (H:Hp):V->Value->Prop where
 |of {v:V} {t:Value} (h:lX K H v t):I_ K H v t
 |exc {p C:Addr} (T:iV K C) (e:H p=some (sQ p (.ref C))):I_ K H (.ref p) (.ref C)
def MF(K:PySem.W.Frag):List V->Hp->VK->Prop:=fun xs H Q=>∃x c cv t b,xs=[x,c]/\(c=.ty cv/\PySem.W.kitOne K t (.type cv)=some b)/\I_ K H x t/\Q (.bl b) H
theorem fF:eK X (.builtin "isinstance") (MF X.K):=by
 intro ae s σ H xs us Q I r h;obtain⟨x,c,cv,t,b,rfl,⟨rfl,e⟩,ty,q⟩:=h;obtain⟨u1,u2,rfl,r1,r2⟩:=r.two;obtain rfl:u2=Value.type cv:=r2;cases ty with
 |of ty=>exact qm I r1 ty e fun tk=>⟨.bl b,H,I.tok tk,rfl,q⟩
 |@exc p C T ea=>
  obtain rfl:u1=Value.ref p:=r1;have p1:EN p (.ref C) s.heap:=(I.br p _ ea).1;exact gj (uR T) I.j7 p1 e (fun z=>nomatch z) fun tk=>⟨.bl b,H,I.tok tk,rfl,q⟩
def MG(K:PySem.W.Frag):List V->Hp->VK->Prop:=fun xs H Q=>∃x c t b,xs=[x,.ref c]/\PySem.W.kitOne K t (.ref c)=some b/\I_ K H x t/\Q (.bl b) H
theorem ce:eK X (.builtin "isinstance") (MG X.K):=by
 intro ae s σ H xs us Q I r h;obtain⟨x,c,t,b,rfl,e,ty,q⟩:=h;obtain⟨u1,u2,rfl,r1,r2⟩:=r.two;obtain rfl:u2=Value.ref c:=r2;cases ty with
 |of ty=>exact qm I r1 ty e fun tk=>⟨.bl b,H,I.tok tk,rfl,q⟩
 |@exc p C T ea=>
  obtain rfl:u1=Value.ref p:=r1;have p1:EN p (.ref C) s.heap:=(I.br p _ ea).1;exact gj (uR T) I.j7 p1 e (fun z=>nomatch z) fun tk=>⟨.bl b,H,I.tok tk,rfl,q⟩
end
section
variable {X:Cx} {x:Str} {C:Addr} {np m9 pos:Pos} {e:Expr} {es:List Expr} {t:TA}
def Ja(q:Hp->Prop)(t:TA):TS:=fun _ σ H=>t σ H fun vs H1=>vs.length<=sizeLine/\q H1
theorem gy{q:Hp->Prop}(hc:X.calm=true)(T:iV X.K C)(hg:Gl X x)(hm:X.mg x=some (.ref C))(ha:PA X (e::es) t)(W4:∀ (ae:List (Addr×Obj)) (σ:St) (H1:Hp) (s1:Shared) (h':Heap) (p:Addr) (vs:List Value),aD X ae σ H1 s1->Heap.MadeExcOf s1.heap h' p (.ref C) vs->q H1->X.xe (.ref p) { s1 with heap:=h' })(m8:(x==("__debug__":Str))=false:=by decide)(he:starEach (e::es) X.env=(false,eval e X.env)::starEach es X.env:=by rfl)(mG:(backTo m9 (starEach (e::es) X.env)).any (·.1)=false:=by rfl):
  PS X (.Raise (some (.Call (.Name x np) (e::es) [] m9)) none pos) (Ja q t):=by
 intro ae s σ H D I h;obtain⟨bm,N,nm,qn,bs,hdct,sn,sub,ab,col,dd,k0,k1,k2,k3,k5,mN,hC,hN,Mz,TL⟩:=uP I.ok.mod.EH T.ex;refine wpAny_Raise_call_subT (C:=C) (nm:=nm) (q:=qn) (N:=N) (bs:=bs) (bm:=bm) (hdct:=hdct) (sn:=sn) (sub:=sub) (ab:=ab) (col:=col) (dd:=dd) (k0:=k0) (k1:=k1) (k2:=k2) (k3:=k3) (k5:=k5)
  vV (mN:=mN) (TL.hasType vV.hasBase) (I.ok.hd hc) mG Mz (jk I hg hm ⟨rfl,?_⟩ m8)
 have h1:=ha m9 ae s σ H _ I h;rw[he] at h1 |-;exact Calls.evalArgs_plain (eQ h1 (fun us s2 ⟨vs,H2,I2,r,hl,z⟩=>⟨rfl,(by show us.length<=sizeLine;rw[<-r.length];exact hl),I2.bk _ _ hC,hN.keeps I2.bk,TL.keeps I2.bk,fun h' p m=>W4 ae σ H2 s2 h' p us I2 m z⟩) fun _ _ y=>y)
end
def kR(CX:nU)(X:Cx)(E:St->XK):Prop:=∀ (ae:List (Addr×Obj)) (σ:St) (H:Hp) (s:Shared) (e:Value) (s':Shared),aD X ae σ H s->CX X.stack H s (E σ) e s'->X.xe e s'
def xo(sp:Sp)(il:List V)(E:St->XK)(t:TA):TE:=fun σ H Q=>t σ H fun vs H1=>sp (vs++il) H1 Q (E σ)
section
variable {X:Cx} {CX:nU} {k:Nat} {f C:Addr} {fd:FuncData} {ps:List Str} {sp:Sp} {il:List V} {ds:List Value} {E:St->XK} {x m:Str} {p pos m7:Pos} {e o:Expr} {es:List Expr} {ta:TE} {t:TA}
theorem Fl{ae:List (Addr×Obj)}{σ:St}{H:Hp}{s:Shared}{Q:VK}{us:List Value}{vs:List V}(F:a9 X.prog X.w X.K X.mg X.base CX k f fd ps sp)(hr:aZ k X.A)(hb:eL X.K fd ps ds)(hd:aP il ds)(hx:kR CX X E)(I:aD X ae σ H s)(r:aP vs us)(h:sp (vs++il) H Q (E σ)):wpAny (model X.prog X.w) X.A (call (.ref f) us) (EP X ae σ Q) X.xe s:=by
 have r2:aP (vs++il) (us++ds):=r.append hd;have hl:(us++ds).length=ps.length:=by rw[<-r2.length];exact F.len _ _ _ _ h
 refine jY (iI (F.run X.A X.stack s H ⟨us,[]⟩ (us++ds) (vs++il) Q (E σ) hr I.E9 (hb s us I.j7 hl) r2 h) fun r s' hq=>?_);cases r with
 |error e=>exact hx ae σ H s e s' I hq
 |ok fl=>
  cases fl with
  |ret u=>exact I.after hq
  |next=>exact False.elim hq
  |brk=>exact False.elim hq
  |cont=>exact False.elim hq
theorem Cr(F:a9 X.prog X.w X.K X.mg X.base CX k f fd ps sp)(hr:aZ k X.A)(hg:Gl X x)(hm:X.mg x=some (.ref f))(hk:PySem.W.keepIn X.K (.ref f)=true)(hb:eL X.K fd ps ds)(hd:aP il ds)(hx:kR CX X E)(ha:PA X (e::es) t)(m8:(x==("__debug__":Str))=false:=by decide)(he:starEach (e::es) X.env=(false,eval e X.env)::starEach es X.env:=by rfl)(mG:(backTo pos (starEach es X.env)).any (·.1)=false:=by rfl):
  PE X (.Call (.Name x p) (e::es) [] pos) (xo sp il E t):=by
 intro ae s σ H Q I h;refine jQ (jk I hg hm ?_ m8);refine ow (h₀:=X.base) I.ok.mod.EH hk (bZ (ha pos ae s σ H _ I h) fun us s1 ⟨vs,H1,I1,r,q⟩=>⟨I1.j7,?_⟩) he mG;exact Fl F hr hb hd hx I1 r q
end
structure jE(k:Nat)(A:Around):Prop where
 dp:A.depth+3*k+5<recursionLimit
 un:A.units+16*k+200<cLine
theorem jE.deeper{k:Nat}{A:Around}(r:jE (k+1) A)(env:Env):jE k (A.deeper env):=
 ⟨by have:=r.dp;show A.depth+1+3*k+5<_;lia,by have:=r.un;show A.units+3+16*k+200<_;lia⟩
theorem jE.depth{k:Nat}{A:Around}(r:jE k A):A.depth<recursionLimit:=by have:=r.dp;lia
def qv(CX:nU)(P:Program)(w:World)(K:PySem.W.Frag)(mg:Str->Option Value)(base:Heap)(N:List Str)(qual:Str)(scope:Scope)(f:Addr)(cd:Value)(A:Around)(outer:List Env)(s:Shared)(H:Hp)(E:XK):Cx:=
 { fQ CX P w K mg base N qual scope f cd A outer s H E with calm:=false }
theorem xp{CX:nU}{P:Program}{w:World}{K:PySem.W.Frag}{mg:Str->Option Value}{base:Heap}{N ps:List Str}{qual:Str}{scope:Scope}{f:Addr}{cd:Value}{A:Around}{outer:List Env}{s s1:Shared}{H:Hp}{E:XK}{us:List Value}{vs:List V}(S:aw N ps scope)(e0:sq P w K mg base A outer s H)(hl:vs.length=ps.length)(r:aP vs us)(x:InCallC s s.heap.objs.size (bindL (envOfC qual scope s.heap.objs.size f cd).kindOf (ps.zip us) fun _=>none) (cellsFrom (s.heap.objs.size+1) scope.names []) (bindC (envOfC qual scope s.heap.objs.size f cd).kindOf (ps.zip us) fun _=>none) s1):
  aD (qv CX P w K mg base N qual scope f cd A outer s H E) [] (start N vs) H s1:=by
 have mG:ps.length<=N.length:=by have:=congrArg List.length S.pre;rw[kF] at this;lia
 obtain⟨h1,tk,rfl,hk⟩:=x.done;have EK:∀b:Addr,b∉(qv CX P w K mg base N qual scope f cd A outer s H E).ex:=fun b z=>absurd (show b∈([]:List Addr) from z) (by simp);refine⟨⟨e0.mod,S.kind,rfl,rfl,aN _,fun y z c h1 h2=>?_,fun y hy=>?_,fun y c _ h=>?_,fun z=>absurd (show false=true from z) (by decide),wE e0.frames,.inr ⟨rfl,rfl⟩,fun b z=>absurd z (EK b),e0.bs,e0.yj,fun b _ _=>EK b,fun b z=>absurd z (EK b),e0.iO,e0.AY⟩,
  rfl,e0.bare,Un.kept hk,⟨_,x.toInCall.ns,fun i y v h1 h2 h3=>?_⟩,fun y c h=>⟨_,x.cell y c h⟩,e0.br.fresh (aN _),fun y c h=>?_,fun p hp=>absurd (show p∈([]:List (Addr×Obj)) from hp) (by simp),e0.br.kept hk,?_⟩
 .exact name_of_addr x.apart (eX h1) (eX h2)
 .have hy:scope.names.lookup y=some .cell\/scope.names.lookup y=some .free:=hy;rcases hy with hy|hy
  .exact kM hy
  .exact absurd rfl (S.B9 _ (eX hy))
 .exact ii (x.above y c (eX h))
 .have hi:i<vs.length:=by
   unfold start at h2;by_cases hi:i<vs.length
   .exact hi
   .rw[qc (by simpa using hi)] at h2;rw[v5] at h2;split at h2 <;> cases h2
  have ha:vs[i]?=some v:=by
   unfold start at h2;rw[my (by simpa using hi),bA] at h2;cases e:vs[i]? with
   |none=>rw[e] at h2;cases h2
   |some a=>rw[e] at h2;cases h2;rfl
  obtain⟨u,hu,rv⟩:=r.get ha;have hp:ps[i]?=some y:=by
   rw[<-S.pre,on (by lia)];exact h1
  have Md:ps.Nodup:=by rw[<-S.pre];exact S.nd.sublist (List.take_sublist _ _)
  refine⟨u,rv,?_⟩;rcases S.par y (dA hp) with k|k
  .exact .inl ⟨k,lZ Md hp hu k⟩
  .obtain⟨c,e⟩:=kM (n:=s.heap.objs.size+1) k;refine .inr ⟨.inl k,c,e,?_⟩;have q:=x.cell y c e;rw[l6 Md hp hu (by show scope.names.lookup y≠_;rw[k];decide)] at q;exact q
 .exact e0.br.fresh (ii (x.above y c (eX h)))
 .unfold start;show _=N.length;rw[dP,aW,og];lia
section
variable {X:Cx} {CX:nU} {k:Nat} {f:Addr} {fd:FuncData} {ps:List Str} {sp:Sp} {il:List V} {ds:List Value} {E:XK} {x:Str} {p pos:Pos} {e:Expr} {es:List Expr} {t:TA}
end
section
variable {P:Program} {w:World} {K:PySem.W.Frag} {mg:Str->Option Value} {base:Heap}
theorem dR.Hm{x qual:Str}{st:Stmt}{f:Addr}{fd:FuncData}{N ps:List Str}{k:Nat}{sp:Sp}(F:dR K x qual st f fd)(S:aw N ps (aj st))(len:∀vs H Q E,sp vs H Q E->vs.length=ps.length)(iS:∀ (bL:Value) (A:Around) (outer:List Env) (s:Shared) (H:Hp) (vs:List V) (Q:VK) (E:XK),aZ k (A.deeper (envOfC qual (aj st) s.heap.objs.size f bL))->sp vs H Q E->
   ∃t,pK (fQ (eO P w) P w K mg base N qual (aj st) f bL A outer s H E) (bq st) t/\t { nx:=fun _ H'=>Q .bp H',rt:=Q } (start N vs) H):a9 P w K mg base (eO P w) (k+1) f fd ps sp:=by
 obtain⟨oc,od,kV,jm,pm,an,bL,ct,qq,rfl,lk,mI⟩:=F.ex;exact B_ lk mI S len fun A outer s H vs Q E hr uG=>iS bL A outer s H vs Q E hr uG
end
abbrev Cx.eV(X:Cx)(pn:List (Addr×Obj))(xe:Value->Shared->Prop):Cx:={ X with pn:=pn,xe:=xe }
abbrev Cx.dU(X:Cx)(pn:List (Addr×Obj))(p:Addr):Cx:={ X with pn:=pn,xe:=fun _ _=>False,calm:=false,A:=X.A.mark (some (.ref p)) }
theorem Cx.Ok.eV{X:Cx}(ok:X.Ok)(pn:List (Addr×Obj))(xe:Value->Shared->Prop):(X.eV pn xe).Ok:=
 ⟨ok.mod,ok.kind,ok.glob,ok.blt,ok.above,ok.inj,ok.has,ok.Iw,ok.hd,ok.frames,ok.AX,ok.LK,ok.bs,ok.yj,ok.lO,ok.zE,ok.iO,ok.AY⟩
theorem Cx.Ok.dU{X:Cx}(ok:X.Ok)(pn:List (Addr×Obj))(p:Addr):(X.dU pn p).Ok:=
 ⟨ok.mod,ok.kind,ok.glob,ok.blt,ok.above,ok.inj,ok.has,ok.Iw,fun z=>absurd (show false=true from z) (by decide),ok.frames,ok.AX,ok.LK,ok.bs,ok.yj,ok.lO,ok.zE,ok.iO,ok.AY⟩
section
variable {X:Cx} {ae:List (Addr×Obj)} {σ:St} {H:Hp} {s:Shared}
theorem aD.eV(I:aD X ae σ H s)(xe:Value->Shared->Prop):aD (X.eV (X.pn++ae) xe) [] σ H s:=
 ⟨I.ok.eV _ _,I.os,I.bare,I.base,I.loc,I.cell,I.free,I.fg,fun p hp=>I.pin p (by simpa using hp),I.br,I.len⟩
theorem aD.kS{pins':List (Addr×Obj)}{xe:Value->Shared->Prop}(ok:X.Ok)(I:aD (X.eV (X.pn++ae) xe) pins' σ H s):aD X ae σ H s:=
 ⟨ok,I.os,I.bare,I.base,I.loc,I.cell,I.free,I.fg,fun p hp=>I.pin p (fR _ hp),I.br,I.len⟩
theorem aD.xq{pins':List (Addr×Obj)}{p:Addr}(ok:X.Ok)(I:aD (X.dU (X.pn++ae) p) pins' σ H s):aD X ae σ H s:=
 ⟨ok,I.os,I.bare,I.base,I.loc,I.cell,I.free,I.fg,fun p hp=>I.pin p (fR _ hp),I.br,I.len⟩
theorem sR{xe:Value->Shared->Prop}{pins':List (Addr×Obj)}{B h6:Heap}{p:Addr}{C a0:Value}{H':Hp}{s':Shared}(ok:X.Ok)(I:aD (X.eV (X.pn++ae) xe) pins' σ H s)(F:Co X.prog X.w X.stack H s B p C a0 H' s')(fl:uw B X.stack p C h6)(sm:s'.heap.UpToSlots h6):
  H' p=none/\aD (X.dU (X.pn++ae) p) [] σ (upd H' p (sQ p C)) { s' with heap:=h6 }:=by
 have hp:H' p=none:=F.br.oY fl.new;have QS:∀b∈jB X.stack,b≠p:=fun b hb z=>by
  obtain⟨_,o,ho,nd⟩:=fl.frames.mem hb;obtain⟨oe,vs,he,_,hd,_⟩:=fl.there;rw[z] at ho;have e:o=oe:=bi (ho.symm.trans he);rw[e] at nd;exact nd vs hd
 have ne:∀b o,s.heap.get? b=some o->H b=none->b≠p:=fun b o e n z=>by
  by_cases hb:b∈jB X.stack
  .exact QS b hb z
  .have q:=(F.keep b o e n hb).1;rw[z,fl.new] at q;cases q
 have neT:∀ {b:Addr} {u:HO},H' b=some u->b≠p:=fun {b u} e z=>by rw[z,hp] at e;cases e
 have U:Un (jB X.stack) [] H (upd H' p (sQ p C)) s.heap h6:={
  keep:=fun b o e n hb _=>fl.stays _ _ (F.keep b o e n hb).1
  slot:=fun b o e n hb _=>by
   obtain⟨⟨sl,q⟩,_⟩:=F.frame b o e n hb;obtain⟨_,o',qg,nd⟩:=F.fl.frames.mem hb;have e':o'={ o with slots:=sl }:=bi (qg.symm.trans q);obtain⟨Pm,q2⟩:=sm b o' qg nd;rw[e'] at q2;exact⟨Pm,q2⟩
  free:=fun b o e n _=>by
   rw[ao (ne b o e n)];by_cases hb:b∈jB X.stack
   .exact(F.frame b o e n hb).2
   .exact(F.keep b o e n hb).2
  there:=fun b o e _=>by
   cases n:H b with
   |none=>
    by_cases hb:b∈jB X.stack
    .obtain⟨_,o',qg,nd⟩:=fl.frames.mem hb;exact⟨o',qg⟩
    .exact⟨o,fl.stays _ _ (F.keep b o e n hb).1⟩
   |some u=>
    obtain⟨o',q⟩:=F.there b o e (by rw[n];intro z;cases z);exact⟨o',fl.stays _ _ q⟩
  gK:=fun b xs e=>by rw[ao (neT (F.gK b xs e))];exact F.gK b xs e
  iM:=fun b o u e=>by rw[ao (neT (F.iM b o u e))];exact F.iM b o u e
  jx:=fun b ps e=>by
   obtain⟨m,q⟩:=F.jx b ps e;exact⟨m,by rw[ao (neT q)];exact q⟩ }
 have br:j6 X.prog X.w (upd H' p (sQ p C)) h6:=fun b u e=>by
  by_cases hb:b=p
  .subst hb;rw[ah] at e;cases e;obtain⟨o,vs,q,c,d1,d2⟩:=fl.there;exact EN.ok ⟨o,q,c,vs,d1,d2⟩
  .rw[ao hb] at e;exact(F.br b u e).m5 (fun c v _ q=>fl.stays c v q) (fun c q=>by rw[ao (neT q)];exact q) fun c xs q=>by rw[ao (neT q)];exact q
 have J:=I.Bu (s':={ s' with heap:=h6 }) (ch:=[]) F.os U br F.bare fun b z=>absurd z (by simp);exact⟨hp,⟨ok.dU _ _,J.os,J.bare,J.base,J.loc,J.cell,J.free,J.fg,fun q hq=>J.pin q (fR _ (by simpa using hq)),J.br,J.len⟩⟩
end
def MH(K:PySem.W.Frag)(Dc:Addr)(i:Nat)(E:St->XK)(tb:TS)(th:Addr->TS):TS:=fun D σ H=>tb D σ H/\∀σ' C H',E σ' C none H'->PySem.W.subIn K C (.ref Dc)=some true/\(∃Cc,C=.ref Cc)/\
 ∀p,H' p=none->th p { nx:=fun σ2 H2=>D.nx (σ2.set i none) H2,rt:=D.rt,bk:=fun σ2 H2=>D.bk (σ2.set i none) H2,ct:=fun σ2 H2=>D.ct (σ2.set i none) H2 } (σ'.set i (some (.ref p))) (upd H' p (sQ p C))
theorem Jb{X:Cx}{body uS:List Stmt}{b₀:Stmt}{x n:Str}{np uT pos:Pos}{Dc:Addr}{i:Nat}{E:St->XK}{tb:TS}{th:Addr->TS}(TD:iV X.K Dc)(hg:Gl X x)(hm:X.mg x=some (.ref Dc))(fh:X.stack=X.env::X.outer)(Bm:X.env.frame=some X.env.locals)(hN:X.N.Nodup)(hi:X.N[i]?=some n)(hn:X.env.scope.names.lookup n=some .local)(hb:∀pn xe,kR (eO X.prog X.w) (X.eV pn xe) E->pK (X.eV pn xe) body tb)(hh:∀pn p,pK (X.dU pn p) (b₀::uS) (th p))(m8:(x==("__debug__":Str))=false:=by decide):
  PS X (.Try body [.ExceptHandler (some (.Name x np)) (some n) (b₀::uS) uT] [] [] pos) (MH X.K Dc i E tb th):=by
 intro ae s σ H D I h;obtain⟨h1,h2⟩:=h;refine wpAny_Try_except ?_;have Ix:(X.env.scope.kind==.class||(X.env.scope.kind==.module&&X.env.locals != X.env.globals))=false:=by rw[I.ok.kind];rfl
 refine eQ (hb (X.pn++ae) _ ?_ [] s σ H D (I.eV _) h1) (fun f s1 q=>?_) fun e s1 q=>q
 .-- an exception has W5
  intro Vi σ1 H1 s1 e s' I1 W6;obtain⟨p,C,a0,B,H',rfl,F,q⟩:=W6;obtain⟨QU,⟨Cc,W7⟩,W8⟩:=h2 σ1 C H' q;subst W7;have F':Co X.prog X.w X.stack H1 s1 B p (.ref Cc) a0 H' s':=F;have Vj:=F'.fl;rw[fh] at Vj;refine yh (by rw[I.ok.frames,fh]) Bm Vj fun h4 MI zS=>?_;refine fU MI fun h5 QV W9=>?_;have Hn:∀b o,X.base.get? b=some o->h5.get? b=some o:=fun b o e=>by
   obtain⟨e1,n1⟩:=I1.bs b o e;refine QV.stays _ _ (F'.keep b o e1 n1 fun z=>?_).1;have:=(I1.stack.mem z).1;rw[e] at this;cases this
  have QW:X.K.In h5:=I.ok.mod.EH.keeps Hn;obtain⟨oe,_,W_,EI,_⟩:=QV.there;refine wpAny_handleBy_cons (codeAny_handlers_test (v6 I.ok.kind hg (Calls.loadGlobal_global (by rw[I.ok.glob];exact I.ok.mod.glob.keeps Hn) hm ?_) m8)) (by intro z;cases z);refine uQ (K:=X.K) QW TD W_ EI QU ?_;show codeAny _ _ _ _ _;refine codeAny_handlers_suite_as ?_;refine fU QV fun h6 Xa Cs=>?_;have QX:uw B X.stack p (.ref Cc) h6:=by rw[fh];exact Xa
  obtain⟨hp,IH⟩:=sR I.ok I1 F' QX ((zS.trans W9).trans Cs);refine jj (X:=X.dU (X.pn++ae) p) IH hN hi (.inl hn) (v:=.ref p) rfl (fun s7 I7 _=>?_) (.inr hn);refine eQ (hh _ p [] s7 _ _ _ I7 (W8 p hp)) (fun f s8 q8=>?_) fun _ _ z=>z.elim;have Fm:∀ {σ2:St} {H2:Hp} {Q:Unit->Shared->Prop},aD (X.dU (X.pn++ae) p) [] σ2 H2 s8->(∀s9,aD X ae (σ2.set i none) H2 s9->Q () s9)->
    wpAny (model X.prog X.w) X.A (do bindName X.env n .none;unbindBehindTheSuite X.env n uT) Q X.xe s8:=fun {σ2 H2 Q} I8 k=>by
   have Xb:aD X ae σ2 H2 s8:=I8.xq I.ok;refine ap (wpAny_bindName (jj Xb hN hi (.inl hn) (v:=.bp) rfl (fun s9 I9 _=>?_) (.inr hn)));obtain⟨m,Vk,Vl⟩:=I9.loc;have hiσ:i<(σ2.set i (some V.bp)).length:=by rw[I9.len];exact(cH.mp hi).1
   have hiσ2:i<σ2.length:=by simpa using hiσ
   obtain⟨u,ru,lk⟩:=Vl i n .bp hi (by rw[mz hiσ2]) (.inl hn);have Xc:m n=some u:=by
    rcases lk with ⟨_,z⟩|⟨hk,_⟩
    .exact z
    .have xm:X.env.scope.names.lookup n=some .cell\/X.env.scope.names.lookup n=some .free:=hk;rw[hn] at xm;rcases xm with z|z <;> cases z
   unfold unbindBehindTheSuite;refine wpAny_onRaise (wpAny_unbindName_local hn Vk Xc Ix fun h' uu Ld sb=>k _ ?_);obtain⟨oL,_,_,EX,_⟩:=id Vk;have br:j6 X.prog X.w H2 h':=fun b ob e=>by
    refine(I9.br b ob e).m5 (fun c w' hc q=>(sb.2 c ?_).trans q) (fun _ q=>q) fun _ _ q=>q;rintro rfl;rcases hc with rfl|hc
    .rw[I9.free] at e;cases e
    .rw[I9.free] at hc;cases hc
   have nL:∀b o,X.s₀.heap.get? b=some o->b≠X.env.locals:=fun b o e=>aY (cG (aU e) I9.ok.above);refine⟨I9.ok,I9.os,I9.bare,⟨fun b o e n' hb hx=>(sb.2 b (nL b o e)).trans (I9.base.keep b o e n' hb hx),fun b o e n' hb hx=>?_,I9.base.free,fun b o e hx=>?_,I9.base.gK,I9.base.iM,I9.base.jx⟩,⟨_,Ld,fun j y v e1 e2 e3=>?_⟩,fun y c e=>?_,I9.free,I9.fg,fun q hq=>?_,br,by simpa using I9.len⟩
   .obtain⟨sl,e1⟩:=I9.base.slot b o e n' hb hx;exact⟨sl,(sb.2 b (nL b o e)).trans e1⟩
   .obtain⟨o',e1⟩:=I9.base.there b o e hx;exact⟨o',(sb.2 b (nL b o e)).trans e1⟩
   .by_cases hj:j=i
    .subst hj;rw[mz hiσ2] at e2;cases e2
    .rw[jN (cW hj)] at e2;obtain⟨u',r',l'⟩:=Vl j y v e1 (by rw[jN (cW hj)];exact e2) e3;refine⟨u',r',?_⟩;rcases l' with ⟨k1,z⟩|⟨k1,c,z1,z2⟩
     .have:y≠n:=fun e=>hj (oN hN e1 (e ▸ hi));exact .inl ⟨k1,by simp[this,z]⟩
     .exact .inr ⟨k1,c,z1,z2.sameBut sb (I9.EW y c z1)⟩
   .obtain⟨w',z⟩:=I9.cell y c e;exact⟨w',z.sameBut sb (I9.EW y c e)⟩
   .obtain⟨e,n',ne,nf,d⟩:=I9.pin q hq;exact⟨(sb.2 q.1 ne).trans e,n',ne,nf,d⟩
  cases f with
  |next=>obtain⟨σ2,H2,I8,q8⟩:=q8;exact Fm I8 fun s9 I9=>⟨_,H2,I9,q8⟩
  |brk=>obtain⟨σ2,H2,I8,q8⟩:=q8;exact Fm I8 fun s9 I9=>⟨_,H2,I9,q8⟩
  |cont=>obtain⟨σ2,H2,I8,q8⟩:=q8;exact Fm I8 fun s9 I9=>⟨_,H2,I9,q8⟩
  |ret u=>obtain⟨v,σ2,H2,I8,r8,q8⟩:=q8;exact Fm I8 fun s9 I9=>⟨v,_,H2,I9,r8,q8⟩
 .cases f with
  |next=>obtain⟨σ2,H2,I8,q8⟩:=q;exact oE ⟨σ2,H2,I8.kS I.ok,q8⟩
  |brk=>obtain⟨σ2,H2,I8,q8⟩:=q;exact⟨σ2,H2,I8.kS I.ok,q8⟩
  |cont=>obtain⟨σ2,H2,I8,q8⟩:=q;exact⟨σ2,H2,I8.kS I.ok,q8⟩
  |ret u=>obtain⟨v,σ2,H2,I8,r8,q8⟩:=q;exact⟨v,σ2,H2,I8.kS I.ok,r8,q8⟩
def sS(A:Around)(H:Hp):Prop:=A.handled=none\/∃p C,A.handled=some (.ref p)/\H p=some (sQ p C)
theorem sS.same{A:Around}{H H':Hp}(h:sS A H)(s:∀b o,H b=some o->H' b=some o):sS A H':=h.imp id fun ⟨p,C,a,b⟩=>⟨p,C,a,s _ _ b⟩
theorem sS.EZ{A:Around}{H:Hp}{lo:Int}{n:Nat}(h:sS A H):(BJ lo n).EZ A H:=h.imp id fun ⟨p,C,a,b⟩=>⟨p,_,a,b,fun _ x=>EN.nc x⟩
structure qw(P:Program)(w:World)(K:PySem.W.Frag)(mg:Str->Option Value)(base:Heap)(CX:nU)(k:Nat)(f:Addr)(fd:FuncData)(ps:List Str)(sp:Sp):Prop where
 len:∀vs H Q E,sp vs H Q E->vs.length=ps.length
 run:∀ (A:Around) (outer:List Env) (s:Shared) (H:Hp) (args:Args) (us:List Value) (vs:List V) (Q:VK) (E:XK),jE k A->sS A H->sq P w K mg base A outer s H->BindsTo s fd args (ps.zip us)->aP vs us->sp vs H Q E->
  codeAny (model P w) A (.call (.ref f) args) (CR CX outer P w H s Q E) s
theorem Jc{CX:nU}{P:Program}{w:World}{K:PySem.W.Frag}{mg:Str->Option Value}{base:Heap}{k:Nat}{f:Addr}{name qual:Str}{params:Arguments}{body:List Stmt}{scope:Scope}{dV kV jm pm bL ct oc:Value}{an od:Option Addr}{qq:Array (Option Value)}{N ps:List Str}{sp:Sp}(lk:K.lookup f=some ⟨oc,od,.func (PySem.W.fnOf name qual params body scope dV kV jm pm an bL ct),qq⟩)(mI:PySem.W.codeIn K bL qual=true)(S:aw N ps scope)(len:∀vs H Q E,sp vs H Q E->vs.length=ps.length)(iS:∀ (A:Around) (outer:List Env) (s:Shared) (H:Hp) (vs:List V) (Q:VK) (E:XK),jE k (A.deeper (envOfC qual scope s.heap.objs.size f bL))->sS (A.deeper (envOfC qual scope s.heap.objs.size f bL)) H->sp vs H Q E->
   ∃t,pK (qv CX P w K mg base N qual scope f bL A outer s H E) body t/\t { nx:=fun _ H'=>Q .bp H',rt:=Q } (start N vs) H):
  qw P w K mg base CX (k+1) f (PySem.W.fnOf name qual params body scope dV kV jm pm an bL ct) ps sp:=by
 refine⟨len,fun A outer s H args us vs Q E hr hd e0 hb r uG=>?_⟩;have hl:=len _ _ _ _ uG;have KX:K.In s.heap:=e0.mod.EH.keeps fun b o e=>(e0.bs b o e).1;have QF:s.heap.NoLimit:=e0.mod.nolimit.keeps fun b o e=>(e0.bs b o e).1;have Ca:∀y∈ps.zip us,scope.names.lookup y.1=some .local\/(scope.names.lookup y.1=some .cell/\((cellsFrom (s.heap.objs.size+1) scope.names []).lookup y.1).isSome=true):=fun ⟨n,v⟩ hy=>by
  rcases S.par n (lH hy).1 with q|q
  .exact .inl q
  .exact .inr ⟨q,v7 _ _ _ (.inl q)⟩
 refine codeAny_call_function hr.depth (KX _ _ lk) rfl S.co S.gen rfl (PySem.W.codeRec_of KX mI) (hb _ _ _ _ ?_);refine wpAny_newFunctionEnv_cells S.kind Ca fun env he s1 x=>?_;subst he;refine⟨QF.keeps x.toInCall.keep,codeAny_func ?_⟩;obtain⟨t,ht,hq⟩:=iS A outer s H vs Q E (hr.deeper _) hd uG;have I:aD (qv CX P w K mg base N qual scope f bL A outer s H E) [] (start N vs) H s1:=xp S e0 hl r x;refine eQ (ht [] s1 (start N vs) H _ I hq) (fun fl s' hs=>?_) fun e s' hs=>hs;have dN:∀ {σ':St} {H':Hp} {v:V} {u:Value},aD (qv CX P w K mg base N qual scope f bL A outer s H E) [] σ' H' s'->bj v u->Q v H'->CE outer P w H s Q u s':=
  fun {σ' H' v u} J rv q=>⟨v,H',J.os,J.bare,J.base,J.br,rv,q⟩
 cases fl with
 |ret u=>
  obtain⟨v,σ',H',J,rv,q⟩:=hs;exact dN J rv q
 |next=>
  obtain⟨σ',H',J,q⟩:=hs;exact dN (v:=V.bp) (u:=Value.none) J rfl q
 |brk=>
  obtain⟨_,_,_,q⟩:=hs;exact False.elim q
 |cont=>
  obtain⟨_,_,_,q⟩:=hs;exact False.elim q
def xr(A:Around)(sp:Sp)(il:List V)(E:XK)(t:TA):TE:=fun σ H Q=>t σ H fun vs H1=>sS A H1/\sp (vs++il) H1 Q E
section
variable {X:Cx} {CX:nU} {k:Nat} {f:Addr} {fd:FuncData} {ps:List Str} {sp:Sp} {il:List V} {ds:List Value} {E:XK} {x:Str} {p pos:Pos} {e:Expr} {es:List Expr} {t:TA}
theorem Ct(F:qw X.prog X.w X.K X.mg X.base CX k f fd ps sp)(hr:jE k X.A)(hg:Gl X x)(hm:X.mg x=some (.ref f))(hk:PySem.W.keepIn X.K (.ref f)=true)(hb:eL X.K fd ps ds)(hd:aP il ds)(hx:eU CX X E)(ha:PA X (e::es) t)(m8:(x==("__debug__":Str))=false:=by decide)(he:starEach (e::es) X.env=(false,eval e X.env)::starEach es X.env:=by rfl)(mG:(backTo pos (starEach es X.env)).any (·.1)=false:=by rfl):
  PE X (.Call (.Name x p) (e::es) [] pos) (xr X.A sp il E t):=by
 intro ae s σ H Q I h;refine jQ (jk I hg hm ?_ m8);refine ow (h₀:=X.base) I.ok.mod.EH hk (bZ (ha pos ae s σ H _ I h) fun us s1 ⟨vs,H1,I1,r,Pn,q⟩=>⟨I1.j7,?_⟩) he mG;have r2:aP (vs++il) (us++ds):=r.append hd;have hl:(us++ds).length=ps.length:=by rw[<-r2.length];exact F.len _ _ _ _ q
 refine jY (iI (F.run X.A X.stack s1 H1 ⟨us,[]⟩ (us++ds) (vs++il) Q E hr Pn I1.E9 (hb s1 us I1.j7 hl) r2 q) fun r s' hq=>?_);cases r with
 |error e=>exact hx ae σ H1 s1 e s' I1 hq
 |ok fl=>
  cases fl with
  |ret u=>exact I1.after hq
  |next=>exact False.elim hq
  |brk=>exact False.elim hq
  |cont=>exact False.elim hq
end
section
variable {P:Program} {w:World} {K:PySem.W.Frag} {mg:Str->Option Value} {base:Heap}
theorem dR.Xd{x qual:Str}{st:Stmt}{f:Addr}{fd:FuncData}{N ps:List Str}{k:Nat}{sp:Sp}(F:dR K x qual st f fd)(S:aw N ps (aj st))(len:∀vs H Q E,sp vs H Q E->vs.length=ps.length)(iS:∀ (bL:Value) (A:Around) (outer:List Env) (s:Shared) (H:Hp) (vs:List V) (Q:VK) (E:XK),jE k (A.deeper (envOfC qual (aj st) s.heap.objs.size f bL))->sS (A.deeper (envOfC qual (aj st) s.heap.objs.size f bL)) H->sp vs H Q E->
   ∃t,pK (qv (eO P w) P w K mg base N qual (aj st) f bL A outer s H E).AZ (bq st) t/\t { nx:=fun _ H'=>Q .bp H',rt:=Q } (start N vs) H):qw P w K mg base (eO P w) (k+1) f fd ps sp:=by
 obtain⟨oc,od,kV,jm,pm,an,bL,ct,qq,rfl,lk,mI⟩:=F.ex;refine Jc lk mI S len fun A outer s H vs Q E hr hd uG=>?_;obtain⟨t,h,q⟩:=iS bL A outer s H vs Q E hr hd uG;exact⟨t,h.AZ,q⟩
end
structure Fn(P:Program)(w:World)(K:PySem.W.Frag)(mg:Str->Option Value)(base:Heap)(k:Nat)(x:Str)(ps:List Str)(sp:Sp):Prop where
 ex:∃f fd,mg x=some (.ref f)/\PySem.W.keepIn K (.ref f)=true/\eL K fd ps []/\qw P w K mg base (eO P w) k f fd ps sp
theorem Fo{X:Cx}{k:Nat}{x:Str}{ps:List Str}{sp:Sp}{E:XK}{e:Expr}{es:List Expr}{t:TA}{p pos:Pos}(C:Fn X.prog X.w X.K X.mg X.base k x ps sp)(hr:jE k X.A)(hx:eU (eO X.prog X.w) X E)(ha:PA X (e::es) t)(hg:Gl X x:=by rfl)(m8:(x==("__debug__":Str))=false:=by decide)(he:starEach (e::es) X.env=(false,eval e X.env)::starEach es X.env:=by rfl)(mG:(backTo pos (starEach es X.env)).any (·.1)=false:=by rfl):
  PE X (.Call (.Name x p) (e::es) [] pos) (xr X.A sp [] E t):=by
 obtain⟨f,fd,a,b,c,d⟩:=C.ex;exact Ct d hr hg a b c .nil hx ha m8 he mG
theorem Fp{h:Heap}{a:Addr}{m m':Str->Option Value}(x:h.Ns a m)(y:h.Ns a m'):m=m':=by
 obtain⟨o,es,ep,e,d,_,q⟩:=x;obtain⟨o',vK,Pg,e',d',_,q'⟩:=y;rw[e] at e';cases e';rw[d] at d';cases d';funext z;rw[<-q z,q' z]
theorem aD.MJ{X:Cx}{ae:List (Addr×Obj)}{σ:St}{H:Hp}{s:Shared}{h':Heap}{m:Str->Option Value}{D:Addr}{o:HO}{t':Nat}(I:aD X ae σ H s)(F:Fr X.base X.env.locals s.heap m)(F':Fr X.base X.env.locals h' m)(N':News X.base X.env.locals h' (gN X.base s.heap X.env.locals))(hD:s.heap.get? D=none)(new:ci X.prog X.w (upd H D o) h' D o):aD X ae σ (upd H D o) { s with heap:=h',toks:=t' }:=by
 have hn:=I.br.oY hD;have ne:∀b u,s.heap.get? b=some u->b≠D:=fun b u e z=>by rw[z,hD] at e;cases e
 have keep:∀b u,b≠X.env.locals->s.heap.get? b=some u->h'.get? b=some u:=fun b u hb e=>by
  cases q:X.base.get? b with
  |some v=>
   have:=I.bk b v q;rw[e] at this;cases this;exact F'.keep b _ q
  |none=>exact(N' (b,u) (iN hb q e)).1
 refine I.step (g':=s.gens) (d':=s.drawn) (ch:=[]) (fun _ z=>absurd z (by simp)) (fun b u hb _ _ e _=>keep b u hb e) (fun b u hb _ _ e _=>⟨u.slots,keep b u hb e⟩) (fun b u _ e n=>by rw[ao (ne b u e)];exact n) (fun b u _ e=>?_)
  (fun b xs e=>by rw[ao (aq e hn)];exact e) (fun b u v e=>by rw[ao (aq e hn)];exact e) (fun b ps e=>⟨#[],by rw[ao (aq e hn),e];simp⟩) (fun m1 hm=>by rw[Fp hm F.ns];exact F'.ns) (fun b u e=>?_) I.bare
 .by_cases hb:b=X.env.locals
  .obtain⟨o',_,_,q,_⟩:=F'.ns;exact⟨o',by rw[hb];exact q⟩
  .exact⟨u,keep b u hb e⟩
 .by_cases hb:b=D
  .subst hb;rw[ah] at e;cases e;exact new
  .rw[ao hb] at e;refine(I.br b u e).m5 (fun c v hc q=>keep c v ?_ q) (fun c q=>by rw[ao (aq q hn)];exact q) fun c xs q=>by rw[ao (aq q hn)];exact q
   rintro rfl;rcases hc with z|hc
   .have f:=I.free;rw[z,e] at f;cases f
   .rw[I.free] at hc;cases hc
theorem pT(I:aD X ae σ H s)(N:News X.base X.env.locals h' ((D,o)::gN X.base s.heap X.env.locals))(eS:∀q∈gN X.base s.heap X.env.locals,q.1<D):s.heap.get? D=none:=by
 cases e:s.heap.get? D with
 |none=>rfl
 |some u=>
  obtain⟨_,n1,n2⟩:=N (D,o) bC;exact absurd (eS (D,u) (iN n1 n2 e)) (gq _)
def Cu(K:PySem.W.Frag)(H:Hp)(a:Addr)(y:Int×Int):Prop:=bK K H a [.int y.1,.int y.2]
section
variable {X:Cx}
theorem xt(I:aD X ae σ H s)(h:Cu X.K H a y):∃o n t u,s.heap.get? a=some o/\o.cls=.type "tuple"/\o.data=.seq #[.int y.1 t,.int y.2 u] n:=by
 obtain⟨its,r,p,_⟩:=I.tuple h;obtain⟨u1,u2,rfl,r1,r2⟩:=r.two;obtain⟨t,rfl⟩:=r1;obtain⟨t',rfl⟩:=r2;obtain⟨o,e,c,n,d⟩:=p;exact⟨o,n,t,t',e,c,d⟩
end
def Jd(hs:Array Int)(i:Nat):Int:=(hs[i]?).getD 0
def eI(hs:Array Int)(t:SetTable)(h:Int):Option (Array Int×SetTable):=
 if t.gaveWay then none else
 match t.probe (Jd hs) h (t.probeStart h) with
 |some (.empty j none)=>
  let q:=t.put j
  let Ho:=SetTable.insertAt hs q.2 h
  if q.1.fits Ho.size&&decide (Ho.size<=4096) then
   if q.1.tooFull then
    (match q.1.relaid Ho (SetTable.grown (hs.size+1)) with
    |some (t2,ip)=>
     let vL:=ip.filterMap (Ho[·]?)
     if vL.size==Ho.size&&t2.fits vL.size&&decide (SetTable.sizeAbove (SetTable.grown (hs.size+1))<=4096) then some (vL,t2) else none
    |none=>none)
   else some (Ho,q.1)
  else none
 |_=>none
def sU(led:Bool):List Int->Option (Array Int×SetTable):=fun l=>l.foldlM (fun q h=>eI q.1 q.2 h) (#[],SetTable.fresh 0 0 led)
def iW(h:Heap)(S:Addr)(hs:Array Int)(t:SetTable):Prop:=∃o es ep,h.get? S=some o/\o.cls=.type "set"/\(o.dict=none/\o.slots=#[])/\o.data=.set es ep t/\es.map (·.1)=hs/\t.fits es.size=true
section
variable {prog:Program} {w:World} {A:Around} {E:Value->Shared->Prop} {s:Shared} {S:Addr}
theorem Je(es:Array (Int×Value)):(fun i=>(es[i]?.map (·.1)).getD 0)=Jd (es.map (·.1)):=by
 funext i;unfold Jd;rw[Array.getElem?_map]
theorem kT(es:Array (Int×Value))(p:Nat)(x:Int×Value):(SetTable.insertAt es p x).map (·.1)=SetTable.insertAt (es.map (·.1)) p x.1:=by
 unfold SetTable.insertAt;simp
theorem me(es:Array (Int×Value))(ip:Array Nat):(ip.filterMap (es[·]?)).map (·.1)=ip.filterMap ((es.map (·.1))[·]?):=by
 apply Array.ext';rw[rJ,rp,rp,List.map_filterMap];congr 1;funext i;rw[Array.getElem?_map]
theorem xu(hS:iW s.heap S hs t)(hg:t.gaveWay=false)(hp:t.probe (Jd hs) h (t.probeStart h)=some (.empty j none))(q:Q (.free j false) s):
  wpAny (model prog w) A (setSearch S x h true) Q E s:=by
 obtain⟨o,es,ep,ho,hc,Vm,hd,hm,hf⟩:=hS;unfold setSearch setSearchFrom;refine ap (rK ho hd hf ?_);dsimp only;rw[hg,al bH];have Li:t.probe (fun i=>(es[i]?.map (·.1)).getD 0) h (t.probeStart h)=some (.empty j none):=by rw[Je,hm];exact hp
 refine ap (wpAny_pure ?_);erw[Li];exact wpAny_pure q
theorem zT(ho:s.heap.get? a=some o)(hc:o.cls=.type "tuple")(hd:o.data=.seq #[.int x t,.int y u] n)(q:Q true s):
  wpAny (model prog w) A (hashByValue 8 (.ref a)) Q E s:=by
 have hT:s.TypeIs (.ref a) "tuple":=⟨_,ho,hc⟩
 unfold hashByValue;refine ap (wpAny_specialOf hT PySem.F.slot_tuple_hash.lookup ?_);refine ap (jW ho hd ?_);refine ap ?_;show wpAny _ _ (forIn #[Value.int x t,Value.int y u] _ _) _ _ s;rw[<-Array.forIn_toList];refine wpAny_forIn_list _ (fun m6 r s'=>r.1=none/\s'=s/\∀v∈m6,∃z k,v=Value.int z k) _ ?_ ?_ _ _ ⟨rfl,rfl,fun v hv=>?_⟩
 .rintro v m6 r s' ⟨hr,rfl,uJ⟩;obtain⟨z,k,rfl⟩:=uJ v bC;refine ap (wpAny_pure ?_);exact wpAny_pure ⟨rfl,rfl,fun u' vO=>uJ u' (bz _ vO)⟩
 .rintro⟨r1,r2⟩ s' ⟨hr,rfl,_⟩;have uv:r1=none:=hr;subst uv;exact wpAny_pure q
 .rcases bo.mp hv with z|z
  .exact⟨_,_,z⟩
  .rcases bo.mp z with z|z
   .exact⟨_,_,z⟩
   .cases z
theorem yH(hS:iW s.heap S hs t)(hf:t'.fits vK.size=true)(hz:vK.size<=4096)(q:∀h',Heap.SameBut S s.heap h'->iW h' S (vK.map (·.1)) t'->Q () { s with heap:=h' }):wpAny (model prog w) A (storeSet S vK t') Q E s:=by
 obtain⟨o,es,ep,ho,hc,Vm,hd,hm,_⟩:=hS;refine wpAny_storeSet_of ho hd (q _ (rF s.heap S (Obj.putSet vK t')) ?_) (bf hz (by decide));have g:=ot (Obj.putSet vK t') ho (by rw[putSet_of vK t' hd];rfl);rw[putSet_of vK t' hd] at g;exact⟨_,vK,ep+1,g,hc,Vm,rfl,rfl,hf⟩
theorem Fq(hu:A.units<cLine)(hS:iW s.heap S hs t)(ho:s.heap.get? a=some o)(hc:o.cls=.type "tuple")(hd:o.data=.seq #[.int x tx,.int y ty] n)(iw:a≠S)(fh:eI hs t (tupleKeyHash (intKind prog w) [x,y])=some (hs',t'))(q:∀h' tk,Heap.SameBut S s.heap h'->iW h' S hs' t'->Q true { s with heap:=h',toks:=tk }):wpAny (model prog w) A (setAdd S (.ref a)) Q E s:=by
 have hk:IsTupleKey (intKind prog w) s.heap [x,y] a:=⟨o,_,n,ho,hc,hd,.cons (intKind_is _ _ _ _) (.cons (intKind_is _ _ _ _) .nil)⟩
 unfold setAdd;refine fS (ap (wpAny_pyHash_tuple hu hk ?_));generalize QD:s.toks+([x,y].length+1)=tk;generalize hh:tupleKeyHash (intKind prog w) [x,y]=h at fh |-;have Vn:=hS;obtain⟨ob,es,ep,hb,QY,Z3,EG,hm,hf⟩:=hS;unfold setAddHashed setAddHashedIn;refine fS (ap (rK (s:={ s with toks:=tk }) hb EG hf ?_));dsimp only;have Lj:byScan (.ref a) es=false:=by unfold byScan;rfl
 rw[Lj,al bH];unfold eI at fh;cases hg:t.gaveWay with
 |true=>rw[hg,ak rfl] at fh;cases fh
 |false=>
  rw[hg,al bH] at fh;split at fh
  .rename_i j hp;dsimp only at fh;split at fh
   .rename_i Po;rw[e_,jR] at Po;refine ap (xu (s:={ s with toks:=tk }) Vn hg hp ?_);dsimp only;refine ap (rK (s:={ s with toks:=tk }) hb EG hf ?_);dsimp only;have Xe:∀ {kk:Bool->Sem Bool},wpAny (model prog w) A (kk true) Q E { s with toks:=tk }->wpAny (model prog w) A (if (t.put j).1.plain=true then hashByValue 8 (.ref a) >>= kk else pure true >>= kk) Q E { s with toks:=tk }:=fun {kk} hP=>by
     split
     .exact ap (zT (s:={ s with toks:=tk }) ho hc hd hP)
     .exact ap (wpAny_pure hP)
    refine Xe ?_;simp only[if_true];have j9:(SetTable.insertAt es (t.put j).2 (h,Value.ref a)).size=(SetTable.insertAt hs (t.put j).2 h).size:=by
     rw[<-hm,<-kT es (t.put j).2 (h,Value.ref a),gG]
    refine ap (yH (s:={ s with toks:=tk }) Vn (by rw[j9];exact Po.1) (by rw[j9];exact Po.2) fun h1 Hq S1=>?_);rw[kT,hm] at S1;split at fh
    .rename_i QZ;rw[show (!false&&(t.put j).1.tooFull)=true by rw[QZ];rfl,ak rfl];split at fh
     .rename_i t2 ip hr;split at fh
      .rename_i hq;rw[e_,e_,jR,fD] at hq;obtain⟨⟨Hr,Pp⟩,Vo⟩:=hq;cases fh;have Xf:es.size=hs.size:=by rw[<-hm,gG]
       refine ap ?_;unfold setRelay;obtain⟨o1,Fs,Z4,g1,g2,g3,g4,g5,g6⟩:=id S1;refine ap (rK (s:={ s with heap:=h1,toks:=tk }) g1 g4 g6 ?_);dsimp only;rw[Xf];rw[al (by (have h4:(4096:Nat)<=sizeLine:=by decide);lia)];refine ap ?_;rw[g5,hr];have xv:(ip.filterMap (Fs[·]?)).size=Fs.size:=by
        have e1:=congrArg Array.size (me Fs ip);rw[gG,g5] at e1;rw[e1,Hr,<-g5,gG]
       refine oJ (show _=(pure (ip.filterMap (Fs[·]?),t'):Sem (Array (Int×Value)×SetTable)) from ?_) ?_
       .show (do
         let vK:=ip.filterMap (Fs[·]?)
         if vK.size != Fs.size then unsupported "internal:set-table-lost-an-element"
         pure (vK,t'):Sem (Array (Int×Value)×SetTable))=_
        simp[xv]
       dsimp only;have Q0:Fs.size<=4096:=by
        have e1:=congrArg Array.size g5;rw[gG] at e1;rw[e1];exact Po.2
       have Xg:(ip.filterMap (Fs[·]?)).size=(ip.filterMap ((SetTable.insertAt hs (t.put j).2 h)[·]?)).size:=by
        have e1:=congrArg Array.size (me Fs ip);rw[gG,g5] at e1;exact e1
       refine yH (s:={ s with heap:=h1,toks:=tk }) S1 (by rw[Xg];exact Pp) (by rw[xv];exact Q0) fun h2 Lk S2=>?_;rw[me,g5] at S2;exact wpAny_pure (q h2 tk (Hq.trans Lk) S2)
      .cases fh
     .cases fh
    .rename_i QZ;cases fh;have Q3:(t.put j).1.tooFull=false:=by simpa using QZ
     rw[show (!false&&(t.put j).1.tooFull)=false by rw[Q3];rfl,al bH];exact wpAny_pure (q h1 tk Hq S1)
   .cases fh
  .cases fh
end
section
variable {prog:Program} {w:World} {A:Around} {E:Value->Shared->Prop} {s:Shared} {S Ia l:Addr} {R:Result->Shared->Prop}
def gY(h:Heap)(vs:List Value)(ys:List (Int×Int)):Prop:=vs.length=ys.length/\∀i v,vs[i]?=some v->∃a o n t u,v=.ref a/\h.get? a=some o/\o.cls=.type "tuple"/\o.data=.seq #[.int (ys.getD i (0,0)).1 t,.int (ys.getD i (0,0)).2 u] n
theorem gY.keeps(p:gY h vs ys)(k:∀b o,(∃xs n,o.data=.seq xs n)->h.get? b=some o->h'.get? b=some o):gY h' vs ys:=
 ⟨p.1,fun i v e=>let ⟨a,o,n,t,u,e1,e2,c,d⟩:=p.2 i v e;⟨a,o,n,t,u,e1,k a o ⟨_,_,d⟩ e2,c,d⟩⟩
def dW(prog:Program)(w:World)(y:Int×Int):Int:=tupleKeyHash (intKind prog w) [y.1,y.2]
theorem Cv(hh:A.handled=none)(hu:A.units+1<cLine)(Xh:l≠S)(Xi:l≠Ia)(Q4:S≠Ia):
  ∀ (k i:Nat) (s:Shared) (hs:Array Int) (t:SetTable),vs.length-i=k->i<=vs.length->s.heap.IsListIter Ia l i->s.heap.IsList l vs.toArray->gY s.heap vs ys->iW s.heap S hs t->
   ((ys.drop i).map (dW prog w)).foldlM (fun q h=>eI q.1 q.2 h) (hs,t)=some (hsN,tN)->
   (∀h' tk,(∀b o,b≠S->b≠Ia->s.heap.get? b=some o->h'.get? b=some o)->iW h' S hsN tN->R (.ok (.ret .none)) { s with heap:=h',toks:=tk })->
   codeAny (model prog w) A (.builtin "set.update.loop" ⟨[.ref S,.ref Ia],[]⟩) R s:=by
 intro k;induction k with
 |zero=>
  intro i s hs t hk hi pJ hl hp hS hf hR;have e:i=vs.length:=by lia
  refine jV Ba ?_;rw[ou vT _];show wpAny _ A.in1 (pyNext (.ref Ia) >>= _) _ _ s;refine ap (wq (show A.in1.handled=none from hh) pJ hl (by simp;lia) fun h' eb=>?_);show wpAny _ A.in1 (ret Value.none) _ _ _;have hd:ys.drop i=[]:=by rw[List.drop_eq_nil_iff];have:=hp.1;lia
  rw[hd] at hf;cases hf;obtain⟨o,es,ep,q1,q2⟩:=hS;exact wpAny_pure (hR h' s.toks (fun b o hb Pq e=>eb b o Pq e) ⟨o,es,ep,eb S o Q4 q1,q2⟩)
 |succ k ih=>
  intro i s hs t hk hi pJ hl hp hS hf hR;have eS:i<vs.length:=by lia
  refine jV Ba ?_;rw[ou vT _];show wpAny _ A.in1 (pyNext (.ref Ia) >>= _) _ _ s;have hv:vs[i]?=some vs[i]:=cr eS;refine ap (wf pJ hl (x:=vs[i]) (by simpa using hv) fun h1 Q5 Hq=>?_);obtain⟨a,o,n,tx,ty,ea,eo,ec,ed⟩:=hp.2 i _ hv;rw[ea];have Vp:∀b ob,(∃xs n,ob.data=.seq xs n)->s.heap.get? b=some ob->b≠Ia:=fun b ob ⟨xs,m,z⟩ e z'=>by
   obtain⟨oi,e1,_,d1⟩:=pJ;rw[z',e1] at e;cases e;rw[d1] at z;cases z
  have Q6:gY h1 vs ys:=hp.keeps fun b ob hb e=>(Hq.2 b (Vp b ob hb e)).trans e;have Vq:iW h1 S hs t:=by
   obtain⟨oS,es,ep,q1,q2⟩:=hS;exact⟨oS,es,ep,(Hq.2 S Q4).trans q1,q2⟩
  have Ll:h1.IsList l vs.toArray:=by
   obtain⟨ol,q1,q2⟩:=hl;exact⟨ol,(Hq.2 l Xi).trans q1,q2⟩
  have Vr:h1.get? a=some o:=(Hq.2 a (Vp a o ⟨_,_,ed⟩ eo)).trans eo;have Vs:∀b ob,(∃xs n,ob.data=.seq xs n)->h1.get? b=some ob->b≠S:=fun b ob ⟨xs,m,z⟩ e z'=>by
   obtain⟨oS,es,ep,q1,_,_,q4,_⟩:=Vq;rw[z',q1] at e;cases e;rw[q4] at z;cases z
  have A1:i<ys.length:=by have:=hp.1;lia
  have Xj:ys.drop i=ys[i]::ys.drop (i+1):=vX A1;have Xk:ys.getD i (0,0)=ys[i]:=by rw[bU,cr A1];rfl
  rw[Xj,f9,List.foldlM_cons] at hf;cases fh:eI hs t (dW prog w ys[i]) with
  |none=>rw[fh] at hf;cases hf
  |some q=>
   obtain⟨vL,t2⟩:=q;rw[fh] at hf;have Vt:((ys.drop (i+1)).map (dW prog w)).foldlM (fun q h=>eI q.1 q.2 h) (vL,t2)=some (hsN,tN):=hf;show wpAny _ A.in1 (holding [Value.ref a] (setAdd S (.ref a)) >>= _) _ _ _;refine ap (fS (Fq (s:={ s with heap:=h1 }) (by show A.units+1<cLine;exact hu) Vq Vr ec ed (Vs a o ⟨_,_,ed⟩ Vr) (hs':=vL) (t':=t2) (by rw[Xk];exact fh) fun h2 tk Lk S2=>?_));refine wpAny_pure ⟨oH vT _,?_⟩;refine ih (i+1) { s with heap:=h2,toks:=tk } vL t2 (by lia) eS ?_ ?_ (Q6.keeps fun b ob hb e=>(Lk.2 b (Vs b ob hb e)).trans e) S2 Vt fun h3 Xl k3 S3=>?_
   .obtain⟨oi,q1,q2⟩:=Q5;exact⟨oi,(Lk.2 Ia (cW Q4)).trans q1,q2⟩
   .obtain⟨ol,q1,q2⟩:=Ll;exact⟨ol,(Lk.2 l Xh).trans q1,q2⟩
   .exact hR h3 Xl (fun b ob hb Pq e=>k3 b ob hb Pq ((Lk.2 b hb).trans ((Hq.2 b Pq).trans e))) S3
theorem Cw{vs:List Value}{ys:List (Int×Int)}{hsN:Bool->Array Int}{tN:Bool->SetTable}{Q:Value->Shared->Prop}(hh:A.handled=none)(hu:A.units+8<cLine)(hl:s.heap.IsList l vs.toArray)(hp:gY s.heap vs ys)(zU:∀led,sU led (ys.map (dW prog w))=some (hsN led,tN led))(h:∀ (led:Bool) (h':Heap) (tk:Nat),iW h' s.heap.objs.size (hsN led) (tN led)->(∀b o,b<s.heap.objs.size->s.heap.get? b=some o->h'.get? b=some o)->Q (.ref s.heap.objs.size) { s with heap:=h',toks:=tk }):
  wpAny (model prog w) A (call (.type "set") [.ref l]) Q E s:=by
 obtain⟨c,tl,Xm⟩:=mF.mro;have c1:=mF.made;have c2:=mF.sub;refine jY (codeAny_of_tree ?_);show wpAny _ _ (callAny (.type "set") _) _ _ _;refine wpAny_pure ⟨Code.quiet_builtin _ (by decide +kernel),jV PySem.F.entry_type_call ?_⟩;rw[Around.under_plain (weight_type_call_type "set" [.ref l] []) rfl];have c3:=mF.notType;have c4:=mF.canCreate;have c5:=PySem.F.typeCall_set_1 (.ref l);repeat (any_goals (first|assumption|wp_step))
 refine iI (code_set_new_1 (.ref l) (E:=E) (Q₁:=fun obj s₁=>∃led:Bool,obj=.ref s.heap.objs.size/\s₁={ s with heap:=s.heap.push { cls:=.type "set",dict:=none,data:=.set #[] 0 (.fresh 0 0 led) } }) fun led=>⟨led,rfl,rfl⟩) fun r s₁ hr=>?_;cases r with
 |error e=>exact hr
 |ok fl=>
  cases fl with
  |next=>exact hr.elim
  |brk=>exact hr.elim
  |cont=>exact hr.elim
  |ret obj=>
   obtain⟨led,rfl,rfl⟩:=hr;generalize Q7:s.heap.push { cls:=.type "set",dict:=none,data:=.set #[] 0 (.fresh 0 0 led) }=hS;have j9:hS.objs.size=s.heap.objs.size+1:=by rw[<-Q7,gI]
   have gS:hS.get? s.heap.objs.size=some { cls:=.type "set",dict:=none,data:=.set #[] 0 (.fresh 0 0 led) }:=by rw[<-Q7];exact cI _ rfl
   have up:∀b o,s.heap.get? b=some o->hS.get? b=some o:=fun b o e=>by rw[<-Q7];exact cf _ e
   have hT:Shared.TypeIs { s with heap:=hS } (.ref s.heap.objs.size) "set":=⟨_,gS,rfl⟩
   have c6:=mF.init.lookup;have c7:=mF.init.bind (.ref s.heap.objs.size);repeat (any_goals (first|assumption|wp_step))
   refine iI (ww (R:=wants (fun r s₂=>r=.none/\∃h' tk,s₂={ s with heap:=h',toks:=tk }/\iW h' s.heap.objs.size (hsN led) (tN led)/\
     (∀b o,b<s.heap.objs.size->s.heap.get? b=some o->h'.get? b=some o)) E) mF.init.plain PySem.F.entry_set_init (check_set_init_1 hT ?_)) fun r₂ s₂ ML=>?_
   .obtain⟨ol,Hs,EM,nl,Pr⟩:=hl;obtain⟨Xn,Vu,Vv,Q8⟩:=ol;simp only at EM Pr;subst EM;subst Pr;have Q9:=up _ _ Hs;have c8:=PySem.F.sub_list_set;have c9:=PySem.F.sub_list_frozenset;have Z5:(Value.type "list"==Value.type "dict")=false:=by decide
    have Ll:hS.IsList l vs.toArray:=⟨_,Q9,rfl,nl,rfl⟩
    unfold Builtin.«set.__init__» noKeywords Builtin.Frozenset.updateFrom;generalize Xo:pyIter=PI
    wp_walk
    subst Xo;refine rL Ll ?_;refine ap (wpAny_runValue ?_);have eS:l<s.heap.objs.size:=aU Hs;refine Cv (l:=l) (vs:=vs) (ys:=ys) (hsN:=hsN led) (tN:=tN led) (by simp[hh]) (by simp;lia) (aY eS) (by rw[j9];exact aY (dB eS)) (by rw[j9];exact aY (kD _))
     (vs.length-0) 0 _ #[] (.fresh 0 0 led) rfl (cS _) ⟨_,cI _ rfl,rfl,rfl⟩ (Ll.push _) (hp.keeps fun b o _ e=>cf _ (up b o e)) ⟨_,#[],0,cf _ gS,rfl,⟨rfl,rfl⟩,rfl,by simp,rfl⟩ (zU led) fun h' tk k S'=>?_
    show wpAny _ _ _ _ _ _;refine wpAny_pure ?_;show wpAny _ _ (ret Value.none) _ _ _;refine wpAny_pure ⟨rfl,h',tk,rfl,S',fun b o hb e=>?_⟩;exact k b o (aY hb) (by rw[j9];exact aY (dB hb)) (cf _ (up b o e))
   .cases r₂ with
    |error e=>exact ML
    |ok Xp=>
     cases Xp with
     |next=>exact ML.elim
     |brk=>exact ML.elim
     |cont=>exact ML.elim
     |ret r=>
      obtain⟨rfl,h',tk,rfl,S',k⟩:=ML;repeat (any_goals (first|assumption|wp_step))
      exact h led h' tk S' k
end
open PySem
def Cy(l:List Nat):Nat:=l.foldl (fun a x=>a ||| (1 <<< x)) 0
theorem zV(l:List Nat)(a j:Nat):(l.foldl (fun a x=>a ||| (1 <<< x)) a).testBit j=(a.testBit j||l.contains j):=by
 induction l generalizing a with
 |nil=>simp
 |cons x xs ih=>
  rw[rN,ih,Nat.testBit_or,List.contains_cons];have:(1 <<< x).testBit j=(j==x):=by
   rw[Nat.one_shiftLeft,Nat.testBit_two_pow];by_cases h:x=j
   .simp[h]
   .have h':¬ j=x:=fun e=>h e.symm;simp[h,h']
  rw[this,Bool.or_assoc]
theorem mJ(h:Cy l=2 ^ n-1)(hj:j<n):j∈l:=by
 have e:=zV l 0 j;have h':l.foldl (fun a x=>a ||| (1 <<< x)) 0=2 ^ n-1:=h;rw[h',Nat.testBit_two_pow_sub_one] at e;simp[hj] at e;exact e
def Cz(M:Nat):Nat->Nat->Nat
 |0,i=>i
 |n+1,i=>Cz M n ((i*5+1) % M)
theorem nV(M a:Nat):∀b i,Cz M (b+a) i=Cz M a (Cz M b i)
 |0,i=>by rw[Nat.zero_add];rfl
 |b+1,i=>by
  rw[show b+1+a=(b+a)+1 by lia];show Cz M (b+a) _=Cz M a (Cz M b _);exact nV M a b _
def Jf(M:Nat):Nat->Nat->List Nat
 |0,_=>[]
 |n+1,i=>i::Jf M n ((i*5+1) % M)
theorem oZ:∀ {n i},j∈Jf M n i->∃k,k<n/\Cz M k i=j
 |0,_,h=>by cases h
 |n+1,i,h=>by
  rcases bo.mp h with z|z
  .exact⟨0,by lia,z.symm⟩
  .obtain⟨k,a,b⟩:=oZ z;exact⟨k+1,by lia,b⟩
structure zW(M:Nat):Prop where
 all:Cy (Jf M M 0)=2 ^ M-1
 back:Cz M M 0=0
theorem Q_:zW 8:=⟨by decide +kernel,by decide +kernel⟩
theorem Ht:zW 32:=⟨by decide +kernel,by decide +kernel⟩
theorem CA:zW 128:=⟨by decide +kernel,by decide +kernel⟩
theorem CC:zW 512:=⟨by decide +kernel,by decide +kernel⟩
theorem zW.cover(R:zW M)(hi:i<M)(hj:j<M):∃n,n<M/\Cz M n i=j:=by
 obtain⟨a,ha,ea⟩:=oZ (mJ R.all hi);obtain⟨b,hb,eb⟩:=oZ (mJ R.all hj);by_cases h:a<=b
 .refine⟨b-a,by lia,?_⟩;rw[<-ea,<-nV,show a+(b-a)=b by lia,eb]
 .refine⟨M+b-a,by lia,?_⟩;rw[<-ea,<-nV,show a+(M+b-a)=M+b by lia,nV,R.back,eb]
def fj(mask:Nat):Nat->Nat×Nat->Nat×Nat
 |0,q=>q
 |n+1,q=>fj mask n (SetTable.leap mask q.1 q.2)
theorem qx(m a:Nat):∀b q,fj m (b+a) q=fj m a (fj m b q)
 |0,q=>by rw[Nat.zero_add];rfl
 |b+1,q=>by
  rw[show b+1+a=(b+a)+1 by lia];exact qx m a b _
theorem uU:∀ {n:Nat} {q:Nat×Nat},q.1<m+1->(fj m n q).1<m+1
 |0,_,h=>h
 |n+1,q,h=>uU (n:=n) (iL _ (rW _))
theorem yI:∀ {n:Nat} {q:Nat×Nat},(fj m n q).2=q.2 / 32 ^ n
 |0,_=>by simp[fj]
 |n+1,q=>by
  show (fj m n _).2=_;rw[yI];show q.2 / 32 / 32 ^ n=_;rw[n_,Nat.pow_succ,Nat.mul_comm]
theorem qy:∀ {n i:Nat},fj m n (i,0)=(Cz (m+1) n i,0)
 |0,_=>rfl
 |n+1,i=>by
  show fj m n (SetTable.leap m i 0)=_;unfold SetTable.leap;simp only[Nat.zero_div,Nat.add_zero];exact qy
theorem mK(R:zW (m+1))(hi:i<m+1)(hp:p<2 ^ 64)(hj:j<m+1):∃n,n<m+14/\(fj m n (i,p)).1=j:=by
 have h1:=uU (m:=m) (n:=13) (q:=(i,p)) hi;have h2:(fj m 13 (i,p)).2=0:=by
  rw[yI];exact wG (cG hp (by decide))
 obtain⟨n,hn,e⟩:=R.cover h1 hj;refine⟨13+n,by lia,?_⟩;rw[qx];have:fj m 13 (i,p)=((fj m 13 (i,p)).1,0):=jZ rfl h2;rw[this,qy];exact e
theorem yJ(h:Int):SetTable.bits h<2 ^ 64:=by
 unfold SetTable.bits;have a:=lI h (show (2 ^ 64:Int)≠0 by decide);have b:=lD h (show (0:Int)<2 ^ 64 by decide);lia
theorem MN{M:Nat}{l:List Nat}(h:l.length<M):∃j,j<M/\j∉l:=by
 have key:∀ (a b:List Nat),a.Nodup->(∀x∈a,x∈b)->a.length<=b.length:=by
  intro a;induction a with
  |nil=>intro b _ _;exact cS _
  |cons x xs ih=>
   intro b hn hs;obtain⟨h1,h2⟩:=dC.mp hn;have hx:x∈b:=hs x bC;have:=ih (b.erase x) h2 fun y hy=>(rB (fun (e:y=x)=>h1 (e ▸ hy))).mpr (hs y (bz _ hy));rw[re hx] at this;have:0<b.length:=rn hx;rw[dt];lia
 apply rd;intro Cd;have:=key (List.range M) l rH fun x hx=>rd fun si=>Cd ⟨x,cR.mp hx,si⟩;rw[iB] at this;lia
def xw(mask i p:Nat):SetTable.Probe:={ j:=i,more:=SetTable.runEnd mask i-i,i:=i,perturb:=p,dummy:=none }
theorem Jg(mask i:Nat):SetTable.runEnd mask i-i<=9:=by unfold SetTable.runEnd;split <;> lia
theorem sV{t:SetTable}(hd:t.dummies=#[])(j:Nat):t.slot j=.empty\/∃i,t.slot j=.live i/\t.place[i]?=some j:=by
 unfold SetTable.slot;dsimp only;split
 .rename_i h;exact .inr ⟨_,rfl,by simpa using h⟩
 .left;rw[hd];rfl
theorem xx{t:SetTable}(hd:t.dummies=#[]){j:Nat}(h:j∉t.place.toList):t.slot j=.empty:=by
 rcases sV hd j with e|⟨i,_,e2⟩
 .exact e
 .exact absurd (by rw[<-oo] at e2;exact dA e2) h
section
variable {t:SetTable} {hashAt:Nat->Int} {h:Int}
theorem CD(hd:t.dummies=#[])(hh:∀i,i<t.place.size->hashAt i≠h)(i p:Nat):∀ (r:Nat) (j eM:Nat),
  (∃j',SetTable.probe.go t hashAt h (eM+r+1) { j:=j,more:=r,i:=i,perturb:=p,dummy:=none }=some (.empty j' none))\/
  SetTable.probe.go t hashAt h (eM+r+1) { j:=j,more:=r,i:=i,perturb:=p,dummy:=none }=SetTable.probe.go t hashAt h eM (xw t.mask (SetTable.leap t.mask i p).1 (SetTable.leap t.mask i p).2)
 |0,j,eM=>by
  rcases sV hd j with e|⟨k,e,e2⟩
  .exact .inl ⟨j,by unfold SetTable.probe.go;rw[e]⟩
  .right;have hk:k<t.place.size:=(om.mp e2).1;conv=>lhs;unfold SetTable.probe.go
   rw[e];simp only[fD,hh k hk,gJ];rfl
 |r+1,j,eM=>by
  rcases sV hd j with e|⟨k,e,e2⟩
  .exact .inl ⟨j,by rw[show eM+(r+1)+1=(eM+r+1)+1 by lia];unfold SetTable.probe.go;rw[e]⟩
  .have hk:k<t.place.size:=(om.mp e2).1;have st:SetTable.probe.go t hashAt h (eM+(r+1)+1) { j:=j,more:=r+1,i:=i,perturb:=p,dummy:=none }=SetTable.probe.go t hashAt h (eM+r+1) { j:=j+1,more:=r,i:=i,perturb:=p,dummy:=none }:=by
    rw[show eM+(r+1)+1=(eM+r+1)+1 by lia];conv=>lhs;unfold SetTable.probe.go
    rw[e];simp only[fD,hh k hk,gJ];rfl
   rw[st];exact CD hd hh i p r (j+1) eM
theorem yK(hd:t.dummies=#[])(hh:∀i,i<t.place.size->hashAt i≠h):∀ (m:Nat) (i p eM:Nat),10*(m+1)<=eM->t.slot (fj t.mask m (i,p)).1=.empty->
  ∃j',SetTable.probe.go t hashAt h eM (xw t.mask i p)=some (.empty j' none)
 |0,i,p,eM,hf,e=>by
  obtain⟨f,rfl⟩:∃f,eM=f+1:=⟨eM-1,by lia⟩
  refine⟨i,?_⟩;have e':t.slot i=.empty:=e;unfold SetTable.probe.go xw;dsimp only;rw[e']
 |m+1,i,p,eM,hf,e=>by
  have hr:=Jg t.mask i;obtain⟨f,CF⟩:∃f,eM=f+(SetTable.runEnd t.mask i-i)+1:=⟨eM-(SetTable.runEnd t.mask i-i)-1,by lia⟩
  rcases CD (hashAt:=hashAt) (h:=h) hd hh i p (SetTable.runEnd t.mask i-i) i f with z|z
  .rw[CF];exact z
  .rw[CF];show ∃j',SetTable.probe.go t hashAt h _ { j:=i,more:=_,i:=i,perturb:=p,dummy:=none }=_;rw[z];exact yK hd hh m _ _ f (by lia) e
theorem xy(R:zW (t.mask+1))(hd:t.dummies=#[])(hs:t.place.size<=t.mask)(hh:∀i,i<t.place.size->hashAt i≠h):∃j,t.probe hashAt h (t.probeStart h)=some (.empty j none):=by
 obtain⟨j,hj,hn⟩:=MN (M:=t.mask+1) (l:=t.place.toList) (by simpa using Nat.lt_succ_of_le hs);obtain⟨m,hm,e⟩:=mK R (iL (SetTable.bits h) (rW t.mask)) (yJ h) hj;refine yK hd hh m _ _ _ ?_ (by rw[e];exact xx hd hn);unfold SetTable.turns;lia
end
theorem CG{α β:Type}{f:α->Option β}:∀ {l:List α},(∀q∈l,(f q).isSome=true)->(l.filterMap f).length=l.length
 |[],_=>rfl
 |q::l,h=>by
  have hq:=h q bC;cases e:f q with
  |none=>rw[e] at hq;cases hq
  |some b=>rw[Bk e,dt,dt,CG fun x hx=>h x (bz _ hx)]
theorem qz:∀ (m eM i p:Nat),m<eM->owner.getD (fj mask m (i,p)).1 (some 0)=none->∃j,SetTable.layClean.free mask owner eM i p=some j/\owner.getD j (some 0)=none
 |m,0,_,_,h,_=>by lia
 |m,eM+1,i,p,h,e=>by
  unfold SetTable.layClean.free;cases hf:(List.range (SetTable.runEnd mask i+1-i)).find? fun k=>(owner.getD (i+k) (some 0)).isNone with
  |some k=>
   refine⟨i+k,rfl,?_⟩;have:=List.find?_some hf;simpa using this
  |none=>
   cases m with
   |zero=>
    have h0:(0:Nat)∈List.range (SetTable.runEnd mask i+1-i):=cR.mpr (by unfold SetTable.runEnd;split <;> lia);have:=wu.mp hf 0 h0;have e':owner.getD i (some 0)=none:=e;rw[Nat.add_zero,e'] at this;exact absurd rfl this
   |succ m=>
    exact qz m eM _ _ (by lia) e
structure uV(M:Nat)(owner:Array (Option Nat))(k:Nat):Prop where
 size:owner.size=M
 cnt:owner.toList.countP Option.isSome=k
 lt:∀x,some x∈owner.toList->x<k
theorem xz{l:List (Option Nat)}{j:Nat}{x:Nat}(hj:l[j]?=some none):(l.set j (some x)).countP Option.isSome=l.countP Option.isSome+1:=by
 induction l generalizing j with
 |nil=>cases hj
 |cons a l ih=>
  cases j with
  |zero=>
   obtain rfl:a=none:=by simpa using hj
   simp
  |succ j=>
   rw[List.set_cons_succ,oA,oA,ih (by simpa using hj)];lia
theorem uV.one{mask:Nat}{owner:Array (Option Nat)}{k:Nat}(L:uV (mask+1) owner k)(R:zW (mask+1))(hk:k<mask+1)(h:Int):
  ∃j,SetTable.layClean.free mask owner (SetTable.turns mask) (SetTable.bits h % (mask+1)) (SetTable.bits h)=some j/\uV (mask+1) (owner.setIfInBounds j (some k)) (k+1):=by
 have Cd:∃j,j<mask+1/\owner.toList[j]?=some none:=by
  apply rd;intro Cd;have uJ:∀x∈owner.toList,x.isSome=true:=by
   intro x hx;obtain⟨j,hj,e⟩:=rA.mp hx;cases x with
   |some _=>rfl
   |none=>
    refine absurd ⟨j,?_,?_⟩ Cd
    .rw[<-L.size];simpa using hj
    .rw[cr hj,e]
  have:=List.countP_eq_length.mpr uJ;rw[L.cnt,jO,L.size] at this;lia
 obtain⟨j0,Xq,e0⟩:=Cd;obtain⟨m,hm,em⟩:=mK R (iL (SetTable.bits h) (rW mask)) (yJ h) Xq;obtain⟨j,ej,en⟩:=qz (mask:=mask) (owner:=owner) m (SetTable.turns mask) (SetTable.bits h % (mask+1)) (SetTable.bits h) (by unfold SetTable.turns;lia)
  (by rw[em,ra,<-oo,e0];rfl)
 refine⟨j,ej,?_⟩;have Xr:owner.toList[j]?=some none:=by
  rw[ra,<-oo] at en;cases hq:owner.toList[j]? with
  |none=>rw[hq] at en;cases en
  |some v=>rw[hq] at en;rw[show v=none from en]
 have MQ:(owner.setIfInBounds j (some k)).toList=owner.toList.set j (some k):=by simp
 refine⟨by simp[L.size],by rw[MQ,xz Xr,L.cnt],fun x hx=>?_⟩;rw[MQ] at hx;rcases List.mem_or_eq_of_mem_set hx with z|z
 .exact dB (L.lt x z)
 .cases z;exact kD _
theorem yL(R:zW (mask+1)):∀ (l:List Int) (owner:Array (Option Nat)) (k:Nat),uV (mask+1) owner k->k+l.length<=mask->
  ∃CH,l.foldl (fun dv h=>do
   let (owner,k) <- dv
   let j <- SetTable.layClean.free mask owner (SetTable.turns mask) (SetTable.bits h % (mask+1)) (SetTable.bits h)
   pure (owner.setIfInBounds j (some k),k+1)) (some (owner,k))=some (CH,k+l.length)/\uV (mask+1) CH (k+l.length)
 |[],owner,k,L,_=>⟨owner,rfl,L⟩
 |h::l,owner,k,L,hl=>by
  rw[dt] at hl;obtain⟨j,ej,L'⟩:=L.one R (by lia) h;obtain⟨o',e,L2⟩:=yL R l _ _ L' (by lia);refine⟨o',?_,by rw[dt,show k+(l.length+1)=k+1+l.length by lia];exact L2⟩;rw[rN];have:(do
   let (owner,k) <- some (owner,k)
   let j <- SetTable.layClean.free mask owner (SetTable.turns mask) (SetTable.bits h % (mask+1)) (SetTable.bits h)
   pure (owner.setIfInBounds j (some k),k+1):Option (Array (Option Nat)×Nat))=some (owner.setIfInBounds j (some k),k+1):=by
   show (SetTable.layClean.free mask owner (SetTable.turns mask) (SetTable.bits h % (mask+1)) (SetTable.bits h)).bind _=_;rw[ej];rfl
  rw[this,e,dt,show k+(l.length+1)=k+1+l.length by lia]
theorem uW(R:zW (mask+1))(hs:Array Int)(h:hs.size<=mask):∃owner,SetTable.layClean mask hs=some owner/\uV (mask+1) owner hs.size:=by
 have L0:uV (mask+1) (Array.replicate (mask+1) none) 0:=⟨by simp,by simp[List.countP_replicate],fun x hx=>by simp at hx⟩
 obtain⟨o,e,L⟩:=yL R hs.toList _ 0 L0 (by simpa using h);refine⟨o,?_,by simpa using L⟩;unfold SetTable.layClean;rw[<-Array.foldl_toList];have e':=congrArg (Option.map (·.1)) e;exact e'
theorem xA(L:uV M owner n):
  ((List.range M).filterMap fun j=>(owner.getD j none).map (j,·)).length=n/\∀q∈(List.range M).filterMap (fun j=>(owner.getD j none).map (j,·)),q.2<n:=by
 constructor
 .rw[<-L.cnt];have e:owner.toList=(List.range M).map fun j=>owner.getD j none:=by
   apply List.ext_getElem
   .simp[L.size]
   .intro i h1 h2;simp only[List.getElem_map,List.getElem_range,Array.getElem_toList];rw[ra,vZ (by simpa using h1)];rfl
  conv=>rhs;rw[e]
  rw[List.countP_map];generalize List.range M=l;induction l with
  |nil=>rfl
  |cons a l ih=>
   rw[oA,<-ih];cases hq:owner.getD a none with
   |none=>rw[List.filterMap_cons_none (by rw[hq];rfl),show (Option.isSome ∘ fun j=>owner.getD j none) a=false by show (owner.getD a none).isSome=false;rw[hq];rfl];simp
   |some x=>rw[Bk (b:=(a,x)) (by rw[hq];rfl),show (Option.isSome ∘ fun j=>owner.getD j none) a=true by show (owner.getD a none).isSome=true;rw[hq];rfl];simp
 .intro q hq;obtain⟨j,_,e⟩:=jP.mp hq;cases hx:owner.getD j none with
  |none=>rw[hx] at e;cases e
  |some x=>
   rw[hx] at e;cases e;refine L.lt x ?_;rw[ra,<-oo] at hx;cases hy:owner.toList[j]? with
   |none=>rw[hy] at hx;cases hx
   |some v=>rw[hy] at hx;obtain rfl:v=some x:=hx;exact dA hy
structure uX(hs:Array Int)(t:SetTable):Prop where
 dm:t.dummies=#[]
 sz:t.place.size=hs.size
 ms:(t.mask=7/\hs.size<=4)\/(t.mask=31/\hs.size<=18)\/(t.mask=127/\hs.size<=76)\/(t.mask=511/\hs.size<=306)
theorem uX.Xs(T:uX hs t):zW (t.mask+1):=by
 rcases T.ms with ⟨e,_⟩|⟨e,_⟩|⟨e,_⟩|⟨e,_⟩ <;> rw[e]
 .exact Q_
 .exact Ht
 .exact CA
 .exact CC
theorem jF(xs:Array α)(p:Nat)(x:α):(SetTable.insertAt xs p x).size=xs.size+1:=by
 unfold SetTable.insertAt;simp;lia
theorem kU(h:y∈(SetTable.insertAt xs p x).toList):y=x\/y∈xs.toList:=by
 unfold SetTable.insertAt at h;rw[dI,lF,we,we] at h;rcases cQ.mp h with z|z
 .rcases cQ.mp z with z|z
  .right;rw[List.extract_eq_drop_take] at z;exact rq (jM z)
  .left;simpa using z
 .right;rw[List.extract_eq_drop_take] at z;exact rq (jM z)
theorem xB{hs:Array Int}{t:SetTable}{h:Int}(T:uX hs t)(hn:h∉hs.toList)(hl:hs.size<300):∃hs' t',eI hs t h=some (hs',t')/\uX hs' t'/\hs'.size=hs.size+1/\∀x∈hs'.toList,x=h\/x∈hs.toList:=by
 have Q0:t.place.size<=t.mask:=by rw[T.sz];rcases T.ms with ⟨e,z⟩|⟨e,z⟩|⟨e,z⟩|⟨e,z⟩ <;> lia
 have hh:∀i,i<t.place.size->Jd hs i≠h:=by
  intro i hi e;rw[T.sz] at hi;unfold Jd at e;rw[vZ hi] at e;exact hn (by rw[<-e];simp)
 obtain⟨j,hp⟩:=xy (hashAt:=Jd hs) (h:=h) T.Xs T.dm Q0 hh;have hg:t.gaveWay=false:=by
  unfold SetTable.gaveWay;rcases T.ms with ⟨e,_⟩|⟨e,_⟩|⟨e,_⟩|⟨e,_⟩ <;> rw[e] <;> rfl
 have q1:(t.put j).1.place=SetTable.insertAt t.place (SetTable.below t.place j) j:=rfl;have q2:(t.put j).1.dummies=#[]:=by
  show (if SetTable.has t.dummies j=true then _ else t.dummies)=_;rw[T.dm];rfl
 have q3:(t.put j).1.mask=t.mask:=rfl;have s1:(SetTable.insertAt hs (t.put j).2 h).size=hs.size+1:=jF _ _ _;have s2:(t.put j).1.place.size=hs.size+1:=by rw[q1,jF,T.sz]
 have fl:(t.put j).1.fill=hs.size+1:=by unfold SetTable.fill;rw[s2,q2];rfl
 have Xt:(t.put j).1.fits (SetTable.insertAt hs (t.put j).2 h).size=true:=by
  unfold SetTable.fits;rw[s1,s2,fl,q3];simp;rcases T.ms with ⟨e,z⟩|⟨e,z⟩|⟨e,z⟩|⟨e,z⟩ <;> lia
 unfold eI;rw[hg,al bH,hp];dsimp only;rw[ak (by rw[Xt,s1];simp;lia)];by_cases hf:(t.put j).1.tooFull=true
 .rw[ak hf];have CF:=hf;unfold SetTable.tooFull at CF;rw[fl,q3] at CF;have Vt:(hs.size+1)*5>=t.mask*3:=by simpa using CF
  have gr:SetTable.grown (hs.size+1)=(hs.size+1)*4:=by unfold SetTable.grown;rw[al (by lia)]
  obtain⟨m2,Vw,Ra,R2⟩:∃m2,SetTable.sizeAbove (SetTable.grown (hs.size+1))=m2+1/\((m2=31/\hs.size+1<=18)\/(m2=127/\hs.size+1<=76)\/(m2=511/\hs.size+1<=306))/\zW (m2+1):=by
   rw[gr];rcases T.ms with ⟨e,z⟩|⟨e,z⟩|⟨e,z⟩|⟨e,z⟩
   .have:hs.size=4:=by lia
    exact⟨31,by rw[this];rfl,.inl ⟨rfl,by lia⟩,Ht⟩
   .have:hs.size=18:=by lia
    exact⟨127,by rw[this];rfl,.inr (.inl ⟨rfl,by lia⟩),CA⟩
   .have:hs.size=76:=by lia
    exact⟨511,by rw[this];rfl,.inr (.inr ⟨rfl,by lia⟩),CC⟩
   .lia
  have Rb:(SetTable.insertAt hs (t.put j).2 h).size<=m2:=by rw[s1];rcases Ra with ⟨e,z⟩|⟨e,z⟩|⟨e,z⟩ <;> lia
  obtain⟨owner,eo,L⟩:=uW R2 (SetTable.insertAt hs (t.put j).2 h) Rb;obtain⟨MR,Rc⟩:=xA L;rw[s1] at MR Rc;generalize MS:(List.range (m2+1)).filterMap (fun j=>(owner.getD j none).map (j,·))=live at MR Rc;have er:(t.put j).1.relaid (SetTable.insertAt hs (t.put j).2 h) (SetTable.grown (hs.size+1))=some ({ mask:=m2,place:=(live.map (·.1)).toArray,dummies:=#[],finger:=(t.put j).1.finger,led:=(t.put j).1.led,moves:=(t.put j).1.movedTo m2,plain:=(t.put j).1.plain },(live.map (·.2)).toArray):=by
   unfold SetTable.relaid SetTable.laid;rw[Vw];simp only[Nat.add_sub_cancel];rw[eo];show some _=some _;rw[<-MS]
  rw[er];dsimp only;have xv:((live.map (·.2)).toArray.filterMap ((SetTable.insertAt hs (t.put j).2 h)[·]?)).size=hs.size+1:=by
   rw[<-jO,rp];show ((live.map (·.2)).filterMap _).length=_;rw[<-MR,List.filterMap_map];refine CG fun q hq=>?_;show ((SetTable.insertAt hs (t.put j).2 h)[q.2]?).isSome=true;rw[vZ (by rw[s1];exact Rc q hq)];rfl
  have Xu:∀x,({ mask:=m2,place:=(live.map (·.1)).toArray,dummies:=#[],finger:=(t.put j).1.finger,led:=(t.put j).1.led,moves:=(t.put j).1.movedTo m2,plain:=(t.put j).1.plain }:SetTable).fits x=(decide (hs.size+1=x)&&decide (hs.size+1<=m2)):=by
   intro x;unfold SetTable.fits SetTable.fill;simp[MR];rw[jT];simp
  rw[ak (by
   rw[xv,s1,Xu,Vw];have:hs.size+1<=m2:=by rw[<-s1];exact Rb
   simp[this];rcases Ra with ⟨e,z⟩|⟨e,z⟩|⟨e,z⟩ <;> lia)]
  refine⟨_,_,rfl,⟨rfl,?_,?_⟩,xv,fun x hx=>?_⟩
  .rw[xv];simp[MR]
  .rw[xv];exact .inr Ra
  .rw[rp] at hx;obtain⟨k,_,ek⟩:=jP.mp hx;refine kU (p:=(t.put j).2) ?_;rw[<-oo] at ek;exact dA ek
 .rw[al hf];refine⟨_,_,rfl,⟨q2,by rw[s2,s1],?_⟩,s1,fun x hx=>kU hx⟩;have CF:¬ (hs.size+1)*5>=t.mask*3:=by
   intro z;refine hf ?_;unfold SetTable.tooFull;rw[fl,q3];simpa using z
  rw[s1,q3];rcases T.ms with ⟨e,z⟩|⟨e,z⟩|⟨e,z⟩|⟨e,z⟩ <;> lia
theorem mQ:∀ (l:List Int) (hs:Array Int) (t:SetTable),uX hs t->(∀x∈l,x∉hs.toList)->l.Nodup->hs.size+l.length<=300->∃hs' t',l.foldlM (fun q h=>eI q.1 q.2 h) (hs,t)=some (hs',t')/\hs'.size=hs.size+l.length
 |[],hs,t,_,_,_,_=>⟨hs,t,rfl,rfl⟩
 |h::l,hs,t,T,hn,nd,hl=>by
  rw[dt] at hl;obtain⟨n1,n2⟩:=dC.mp nd;obtain⟨Ho,t1,e1,T1,z1,m1⟩:=xB T (hn h bC) (by lia);obtain⟨vL,t2,e2,z2⟩:=mQ l Ho t1 T1 (fun x hx hy=>by
   rcases m1 x hy with e|e
   .exact n1 (e ▸ hx)
   .exact hn x (bz _ hx) e) n2 (by lia)
  refine⟨vL,t2,?_,by rw[z2,z1,dt];lia⟩;rw[List.foldlM_cons];show (eI hs t h).bind _=_;rw[e1];exact e2
theorem zX(led:Bool)(nd:l.Nodup)(hl:l.length<=300):∃hs t,sU led l=some (hs,t)/\hs.size=l.length:=by
 obtain⟨hs,t,e,z⟩:=mQ l #[] (SetTable.fresh 0 0 led) ⟨rfl,rfl,.inl ⟨rfl,by decide⟩⟩ (fun x _ h=>by simp at h) nd (by simpa using hl);exact⟨hs,t,e,by simpa using z⟩
def yM:List Nat->Nat->Bool
 |[],_=>true
 |x::xs,dv=>bif Nat.testBit dv x then false else yM xs (dv ||| (1 <<< x))
theorem uY:∀ (l:List Nat) (dv:Nat),yM l dv=true->l.Nodup/\∀x∈l,dv.testBit x=false
 |[],_,_=>⟨ig,fun x h=>(nomatch h)⟩
 |x::xs,dv,h=>by
  unfold yM at h;cases hb:dv.testBit x with
  |true=>rw[hb] at h;cases h
  |false=>
   rw[hb] at h;obtain⟨nd,hx⟩:=uY xs _ h;have Vx:∀y∈xs,dv.testBit y=false/\y≠x:=by
    intro y hy;have:=hx y hy;rw[Nat.testBit_or,Nat.one_shiftLeft,Nat.testBit_two_pow] at this;rw[wc] at this;exact⟨this.1,fun e=>by have:=this.2;simp[e] at this⟩
   refine⟨dC.mpr ⟨fun hm=>(Vx x hm).2 rfl,nd⟩,fun y hy=>?_⟩;rcases bo.mp hy with z|z
   .rw[z];exact hb
   .exact(Vx y z).1
def o0:List (Int×Int):=(List.range 32).flatMap fun a=>(List.range 32).map fun b=>(Int.ofNat a,Int.ofNat b)
def Hu(h:Int):Nat:=(h % 6554).toNat
theorem zY(P:Program)(w:World):yM (o0.map fun y=>Hu (dW P w y)) 0=true:=by kernel_rfl
theorem yN(h1:0<=y.1/\y.1<32)(h2:0<=y.2/\y.2<32):y∈o0:=by
 unfold o0;refine wH.mpr ⟨y.1.toNat,cR.mpr (by lia),aX.mpr ⟨y.2.toNat,cR.mpr (by lia),jZ ?_ ?_⟩⟩
 .show ((y.1.toNat:Nat):Int)=y.1;lia
 .show ((y.2.toNat:Nat):Int)=y.2;lia
theorem jG:∀ {l:List α},(l.map f).Nodup->∀x∈l,∀y∈l,f x=f y->x=y
 |[],_,_,h,_,_,_=>by cases h
 |a::l,h,x,hx,y,hy,e=>by
  rw[f9] at h;obtain⟨h1,h2⟩:=dC.mp h;rcases bo.mp hx with z|z <;> rcases bo.mp hy with z'|z'
  .rw[z,z']
  .exact absurd (aX.mpr ⟨y,z',by rw[<-e,z]⟩) h1
  .exact absurd (aX.mpr ⟨x,z,by rw[e,z']⟩) h1
  .exact jG h2 x z y z' e
theorem sW(hx:(0<=x.1/\x.1<32)/\(0<=x.2/\x.2<32))(hy:(0<=y.1/\y.1<32)/\(0<=y.2/\y.2<32))(e:dW P w x=dW P w y):x=y:=
 jG (uY _ _ (zY P w)).1 x (yN hx.1 hx.2) y (yN hy.1 hy.2) (congrArg Hu e)
theorem mf:∀ {l:List α},l.Nodup->(∀x∈l,∀y∈l,f x=f y->x=y)->(l.map f).Nodup
 |[],_,_=>ig
 |a::l,h,hf=>by
  obtain⟨h1,h2⟩:=dC.mp h;rw[f9];refine dC.mpr ⟨fun z=>?_,mf h2 fun x hx y hy=>hf x (bz _ hx) y (bz _ hy)⟩;obtain⟨y,hy,e⟩:=aX.mp z;have:=hf y (bz _ hy) a bC e;exact h1 (this ▸ hy)
theorem uZ{P:Program}{w:World}(led:Bool){ys:List (Int×Int)}(nd:ys.Nodup)(hr:∀y∈ys,(0<=y.1/\y.1<32)/\(0<=y.2/\y.2<32))(hl:ys.length<=300):
  ∃hs t,sU led (ys.map (dW P w))=some (hs,t)/\hs.size=ys.length:=by
 obtain⟨hs,t,e,z⟩:=zX led (mf nd fun x hx y hy e=>sW (P:=P) (w:=w) (hr x hx) (hr y hy) e) (by rw[aW];exact hl);exact⟨hs,t,e,by rw[z,aW]⟩
theorem yO:∀ {as:List Addr} {its:List Value},aP (as.map V.ref) its->its=as.map Value.ref
 |[],_,r=>by cases r;rfl
 |a::as,_,r=>by
  cases r with
  |cons r rr=>
   obtain rfl:=(show _=Value.ref a from r)
   rw[yO rr];rfl
def Ft(D:Addr)(n:Nat):HO:=.ext fun h=>∃hs t,iW h D hs t/\hs.size=n
section
variable {X:Cx}
def MU(K:PySem.W.Frag):List V->Hp->VK->Prop:=fun xs H Q=>∃ (l:Addr) (as:List Addr) (ys:List (Int×Int)),xs=[.ref l]/\bn K H l (as.map V.ref)/\as.length=ys.length/\
 (∀i,i<ys.length->Cu K H (as.getD i 0) (ys.getD i (0,0)))/\ys.Nodup/\(∀y∈ys,(0<=y.1/\y.1<32)/\(0<=y.2/\y.2<32))/\ys.length<=300/\∀D,H D=none->Q (.ref D) (upd H D (Ft D ys.length))
theorem zZ(hc:X.calm=true)(hu:X.A.units+8<cLine):eK X (.type "set") (MU X.K):=by
 intro ae s σ H xs us Q I r h;obtain⟨l,as,ys,rfl,hl,eA,hp,nd,rg,h3,q⟩:=h;obtain⟨u1,rfl,r1⟩:=r.one;obtain rfl:u1=Value.ref l:=r1;obtain⟨its,rv,pl,hz⟩:=I.list hl;have e:=yO rv;subst e;have Xv:gY s.heap (as.map Value.ref) ys:=⟨by rw[aW,eA],fun i v hv=>by
  rw[bA] at hv;cases ea:as[i]? with
  |none=>rw[ea] at hv;cases hv
  |some a=>
   rw[ea] at hv;obtain rfl:Value.ref a=v:=bi hv;have hi:i<as.length:=(cH.mp ea).1;obtain⟨o,n,t,u,e1,c,d⟩:=xt I (hp i (by lia));have eg:as.getD i 0=a:=by rw[bU,ea];rfl
   rw[eg] at e1;exact⟨a,o,n,t,u,rfl,e1,c,d⟩⟩
 have zU:∀led,∃q:Array Int×SetTable,sU led (ys.map (dW X.prog X.w))=some q/\q.1.size=ys.length:=fun led=>
  let ⟨hs,t,e,z⟩:=uZ (P:=X.prog) (w:=X.w) led nd rg h3;⟨(hs,t),e,z⟩
 refine Cw (I.ok.hd hc) hu pl.isList Xv (hsN:=fun led=>(zU led).choose.1) (tN:=fun led=>(zU led).choose.2) (fun led=>(zU led).choose_spec.1) fun led h' tk S' k=>?_;refine⟨.ref s.heap.objs.size,_,I.Cp (t':=tk) (o:=Ft s.heap.objs.size ys.length) (fun b u e=>k b u (aU e) e) (rD (aN _)) ⟨⟨_,_,S',(zU led).choose_spec.2⟩,?_,fun h1 h2 ⟨hs,t,⟨o,es,ep,q1,q2⟩,z⟩ kk=>⟨hs,t,⟨o,es,ep,kk o q1,q2⟩,z⟩⟩,rfl,q _ I.fresh⟩;obtain⟨o,_,_,q1,_⟩:=S';exact⟨o,q1⟩
theorem u0:eK X (.builtin "len") (fun xs H Q=>∃D n,xs=[.ref D]/\H D=some (Ft D n)/\n<=4096/\Q (.int n) H):=by
 intro ae s σ H xs us Q I r h;obtain⟨D,n,rfl,e,hn,q⟩:=h;obtain⟨u1,rfl,r1⟩:=r.one;obtain rfl:u1=Value.ref D:=r1;obtain⟨⟨hs,t,⟨o,es,ep,q1,q2,q3,q4,q5,q6⟩,z⟩,_⟩:=(show ci X.prog X.w H s.heap D (Ft D n) from I.br D _ e)
 have j9:es.size=n:=by rw[<-z,<-q5,gG]
 exact call_len_set q1 ⟨q2,q3.1,q3.2⟩ q4 q6 (by rw[j9];lia) ⟨.int n,H,I.tok _,⟨_,by rw[j9]⟩,q⟩
theorem u3:eK X (.type "range") (fun xs H Q=>∃n,xs=[.int n]/\∀p,H p=none->Q (.ref p) (upd H p (.EF 0 n))):=by
 intro ae s σ H xs us Q I r h;obtain⟨n,rfl,q⟩:=h;obtain⟨u1,rfl,t,rfl⟩:=r.one;refine call_range_1 ⟨.ref s.heap.objs.size,_,I.laid (o:=.EF 0 n) (fun b u e=>cf _ e) (aN _) ⟨_,_,_,cI _ rfl⟩,rfl,q _ I.fresh⟩
theorem xC(hc:X.calm=true):eK X (.type "list") (fun xs H Q=>∃ (p:Addr) (n:Nat),xs=[.ref p]/\H p=some (.EF 0 n)/\n<=1000/\∀l,H l=none->Q (.ref l) (upd H l (.lst ((List.range n).map fun (i:Nat)=>V.int i)))):=by
 intro ae s σ H xs us Q I r h;obtain⟨p,n,rfl,e,hn,q⟩:=h;obtain⟨u1,rfl,r1⟩:=r.one;obtain rfl:u1=Value.ref p:=r1;obtain⟨t,u,v,hp⟩:=(show ci X.prog X.w H s.heap p (.EF 0 n) from I.br p _ e)
 refine call_list_range (n:=n) (I.ok.hd hc) (show IsRange s.heap p 0 n 1 t u v from hp) (small_one (by lia) (by lia) (by lia) (by lia)) (by rw[rangeSize_one];split <;> lia) (by lia) fun h' tk dv c k g it=>?_;obtain⟨i1,i2⟩:=it;refine⟨.ref s.heap.objs.size,_,I.Cp (t':=tk) (o:=.lst ((List.range n).map fun (i:Nat)=>V.int i)) (fun b u e=>k b u e) (rD (aN _)) ⟨?_,dv.toList,c,?_,by simpa using g⟩,rfl,q _ I.fresh⟩
 .rw[aW,iB];exact bf hn (by decide)
 .have go:∀ (m:Nat) (l:List Value),l.length=m->(∀ (j:Nat) v,l[j]?=some v->∃t,v=Value.int (0+(j:Int)*1) t)->aP ((List.range m).map fun (i:Nat)=>V.int i) l:=by
   intro m;induction m with
   |zero=>intro l hl _;cases l with
    |nil=>exact .nil
    |cons _ _=>cases hl
   |succ m ih=>
    intro l hl hv;have iw:l≠[]:=by intro z;rw[z] at hl;cases hl
    have el:l=l.dropLast++[l.getLast iw]:=(List.dropLast_concat_getLast iw).symm;rw[gD,dJ,el];have Pr:l.dropLast.length=m:=by rw[List.length_dropLast,hl];rfl
    refine aP.append (ih _ Pr fun j v hj=>hv j v ?_) (.cons ?_ .nil)
    .rw[el];have Hv:j<l.dropLast.length:=(cH.mp hj).1;rw[my Hv];exact hj
    .obtain⟨t,ht⟩:=hv m (l.getLast iw) (by
      rw[List.getLast_eq_getElem,cr (by lia:m<l.length)];simp[hl])
     exact⟨t,by rw[ht];simp⟩
  exact go n dv.toList (by simpa using i1) fun j v hj=>i2 j v (by simpa using hj)
end
def kW(e:V->V->Bool):List V->List V->Bool
 |[],[]=>true
 |x::xs,y::ys=>e x y&&kW e xs ys
 |_,_=>false
theorem mR:∀ {xs ys:List V},xs.length=ys.length->kW e xs ys=(List.range xs.length).all fun i=>e (xs.getD i .bp) (ys.getD i .bp)
 |[],[],_=>rfl
 |x::xs,y::ys,h=>by
  have h':xs.length=ys.length:=by simpa using h
  rw[kW,mR h',dt,rk,oF,List.all_map];rfl
 |[],_::_,h=>by simp at h
 |_::_,[],h=>by simp at h
theorem qA:∀ {xs ys:List V},xs.length≠ys.length->kW e xs ys=false
 |[],[],h=>absurd rfl h
 |x::xs,y::ys,h=>by
  have h':xs.length≠ys.length:=fun z=>h (by simp[z]);rw[kW,qA h',Bool.and_false]
 |[],_::_,_=>rfl
 |_::_,[],_=>rfl
section
variable {X:Cx}
def MV(X:Cx)(H:Hp)(e:V->V->Bool)(x y:V):Prop:=∀ (ae:List (Addr×Obj)) (s:Shared) (σ:St) (A:Around) (u v:Value),aD X ae σ H s->A.units+1<cLine->bj x u->bj y v->SeqAt.EqAt A s u v (e x y)
def Re(X:Cx)(IS:Bool)(e:V->V->Bool):R2:=fun x y H Q=>∃p q xs ys,x=.ref p/\y=.ref q/\bn X.K H p xs/\bn X.K H q ys/\(∀i,i<xs.length->i<ys.length->MV X H e (xs.getD i .bp) (ys.getD i .bp))/\Q (.bl (if IS then !kW e xs ys else kW e xs ys)) H
theorem CI(I:aD X ae σ H s)(hu:A.units+1<cLine)(rx:aP xs us)(ry:aP ys vs)(he:∀i,i<xs.length->i<ys.length->MV X H e (xs.getD i .bp) (ys.getD i .bp)):∀j (h1:j<us.toArray.size) (h2:j<vs.toArray.size),SeqAt.EqAt A s us.toArray[j] vs.toArray[j] (e (xs.getD j .bp) (ys.getD j .bp)):=by
 intro j h1 h2;have j1:j<xs.length:=by rw[rx.length];simpa using h1
 have j2:j<ys.length:=by rw[ry.length];simpa using h2
 have e1:xs[j]?=some (xs.getD j .bp):=by rw[bU,cr j1];rfl
 have e2:ys[j]?=some (ys.getD j .bp):=by rw[bU,cr j2];rfl
 obtain⟨u,Rg,ru⟩:=rx.get e1;obtain⟨v,Rh,rv⟩:=ry.get e2;have eu:us.toArray[j]=u:=by
  have:us[j]?=some us.toArray[j]:=by simp at h1 |-
  rw[Rg] at this;exact(bi this).symm
 have ev:vs.toArray[j]=v:=by
  have:vs[j]?=some vs.toArray[j]:=by simp at h2 |-
  rw[Rh] at this;exact(bi this).symm
 rw[eu,ev];exact he j j1 j2 ae s σ A u v I hu ru rv
theorem CJ{e:V->V->Bool}(hu:X.A.units+2<cLine):jC X (compareOp .NotEq) (Re X true e):=by
 intro ae s σ H x y v u Q I rx ry h;obtain⟨p,q,xs,ys,rfl,rfl,hp,hq,he,k⟩:=h;obtain rfl:v=Value.ref p:=rx;obtain rfl:u=Value.ref q:=ry;obtain⟨us,r1,p1,_⟩:=I.list hp;obtain⟨vs,r2,p2,_⟩:=I.list hq;by_cases hl:xs.length=ys.length
 .refine SeqAt.RcNeAt.lists (e:=fun i=>e (xs.getD i .bp) (ys.getD i .bp)) p1.isList p2.isList (by simp only[cA];rw[<-r1.length,<-r2.length];exact hl) (by lia) (CI I (by show X.A.units+1+1<cLine;lia) r1 r2 he) _ _ _ _ ⟨.bl _,H,I,rfl,?_⟩;rw[show us.toArray.size=xs.length by rw[cA,r1.length],<-mR hl];exact k
 .refine SeqAt.RcNeAt.lists_lengths p1.isList p2.isList (by simp only[cA];rw[<-r1.length,<-r2.length];simpa using hl) (by lia) _ _ _ _ ⟨.bl _,H,I,rfl,?_⟩;have k':=k;rw[qA hl] at k';exact k'
theorem z0(hc:X.calm=true):eK X (.builtin "any") (fun xs H Q=>∃ (p:Addr) (bs:List Bool),xs=[.ref p]/\bn X.K H p (bs.map V.bl)/\Q (.bl (bs.any id)) H):=by
 intro ae s σ H xs us Q I r h;obtain⟨p,bs,rfl,hp,q⟩:=h;obtain⟨u1,rfl,r1⟩:=r.one;obtain rfl:u1=Value.ref p:=r1;obtain⟨its,rv,pl,hz⟩:=I.list hp;have Jh:its=bs.map Value.bool:=by
  have go:∀ (bs:List Bool) (its:List Value),aP (bs.map V.bl) its->its=bs.map Value.bool:=by
   intro bs;induction bs with
   |nil=>intro its r;cases r;rfl
   |cons b bs ih=>
    intro its r;cases r with
    |cons r rr=>
     obtain rfl:=(show _=Value.bool b from r)
     rw[ih _ rr];rfl
  exact go bs its rv
 subst Jh;obtain⟨ob,Ji,_⟩:=id pl.isList;have eS:p<s.heap.objs.size:=aU Ji;refine call_any_walk (rL pl.isList ⟨s.heap.objs.size,_,_,_,_,_,fun i=>bs.getD i false,rfl,Walks.list (show X.A.in1.handled=none from I.ok.hd hc) _ p (aY eS) _,⟨⟨_,cI _ rfl,rfl,rfl⟩,pl.isList.push _⟩,fun i v s1 Q' E' hv hq=>?_,fun h' tk k=>?_⟩)
 .have IL:(bs.map Value.bool)[i]?=some v:=by simpa using hv
  rw[bA] at IL;cases eb:bs[i]? with
  |none=>rw[eb] at IL;cases IL
  |some b=>
   rw[eb] at IL;obtain rfl:Value.bool b=v:=bi IL;have:bs.getD i false=b:=by rw[bU,eb];rfl
   have IN:Q' b s1:=by rw[<-this];exact hq
   exact wpAny_pure IN
 .have keep:∀b o,s.heap.get? b=some o->h'.get? b=some o:=fun b o e=>k b o (by simpa using aY (aU e)) (cf _ e);refine⟨.bl (bs.any id),H,I.kept (t':=tk) keep,?_,q⟩;show Value.bool _=Value.bool _;congr 1;have go:∀ (bs:List Bool),((List.range bs.length).any fun i=>bs.getD i false)=bs.any id:=by
   intro bs;induction bs with
   |nil=>rfl
   |cons b bs ih=>
    rw[dt,rk,rS,List.any_map,rS,<-ih];rfl
  rw[<-go bs];simp
end
def kX(c:Addr)(qual:Str):HO:=.ext fun h=>h.CodeRec (.ref c) qual
theorem CK(x:h.CodeRec (.ref c) qual):ci P w H h c (kX c qual):=by
 refine⟨x,?_,?_⟩
 .obtain⟨c',o,vs,t,e,ho,_⟩:=x;cases e;exact⟨o,ho⟩
 .rintro h1 h2 ⟨c',o,vs,t,e,ho,r⟩ k;cases e;exact⟨c,o,vs,t,rfl,k o ho,r⟩
def Hw(f:Addr)(qual:Str)(params:Arguments)(body:Expr)(scope:Scope)(cells:List (Str×Addr))(c:Addr)(h:Heap):Prop:=
 ∃ (cy:List (Str×Addr)) (pm u4:Value),(∀x a,cy.lookup x=some a->cells.lookup x=some a)/\(∀x,(x,NameKind.free)∈scope.names->∃a,cy.lookup x=some a)/\
  h.get? f=some (PySem.W.kla_obj "<lambda>" qual params body scope cy pm c u4)
def pU(f:Addr)(qual:Str)(params:Arguments)(body:Expr)(scope:Scope)(cells:List (Str×Addr))(c:Addr):HO:=.ext (Hw f qual params body scope cells c)
theorem yP(x:Hw f qual params body scope cells c h):
  ci P w H h f (pU f qual params body scope cells c):=by
 refine⟨x,?_,?_⟩
 .obtain⟨_,_,_,_,_,e⟩:=x;exact⟨_,e⟩
 .rintro h1 h2 ⟨cy,pm,u4,a,b,e⟩ k;exact⟨cy,pm,u4,a,b,k _ e⟩
def eN(lp:Pos)(qual:Str)(P:Addr)(H:Hp):Prop:=H P=some (.mH #[])\/∃c,H P=some (.mH #[rawInt lp.line,rawInt lp.col,.ref c])/\H c=some (kX c qual)
structure Fu(X:Cx)(c P:Addr):Prop where
 code:X.env.code=.ref c
 hd:PySem.W.CodeHd X.base c P
 bm:∃bm o,X.mg "__builtins__"=some (.ref bm)/\bm≠builtinsNs/\bm≠mainGlobals/\X.base.get? bm=some o/\o.cls=.type "module"/\o.dict=some builtinsNs/\o.data=.plain
def Ri(lp:Pos)(qual:Str)(P:Addr)(params:Arguments)(body:Expr)(scope:Scope)(cells:List (Str×Addr)):TE:=fun _ H Q=>eN lp qual P H/\
 ∀ (f c:Addr) (H2:Hp),eN lp qual P H2->(∀b o,H b=some o->b≠P->H2 b=some o)->H2 c=some (kX c qual)->H2 f=some (pU f qual params body scope cells c)->Q (.ref f) H2
theorem u5{lp:Pos}{c:Addr}:TriplesOk (#[rawInt lp.line,rawInt lp.col,.ref c]:Array Value).toList:=trivial
theorem z_:codeAmong lp (#[rawInt lp.line,rawInt lp.col,.ref c]:Array Value).toList=some (.ref c):=by
 show (if ((lp.line:Int)==(lp.line:Int)&&(lp.col:Int)==(lp.col:Int))=true then some (Value.ref c) else _)=_;simp
section
variable {X:Cx} {c P:Addr} {params:Arguments} {body:Expr} {scope:Scope} {lp:Pos} {NB:List Str} {src:List (Option Nat)}
theorem Fu.at(C:Fu X c P)(I:aD X ae σ H s)(hP:H P=some (.mH ps)):s.heap.BuiltinsAt X.mg P:=by
 obtain⟨bm,o,b1,b2,b3,b4,b5,b6,b7⟩:=C.bm;refine⟨bm,o,b1,b2,b3,fun z=>?_,I.bk _ _ b4,b5,b6,b7⟩;have:=(I.bs _ _ b4).2;rw[z,hP] at this;cases this
theorem aD.Hy(I:aD X ae σ H s):s.heap.Ns mainGlobals X.mg:=I.mod.glob.keeps I.bk
theorem CL(C:Fu X c P)(S:dS NB src scope X)(Rj:defaultsOf params X.env=([],[]):=by rfl):PE X (.Lambda params body scope lp) (Ri lp (X.env.qual++"<lambda>") P params body scope X.env.cells):=by
 intro ae s σ H Q I h;obtain⟨Xw,h⟩:=h;obtain⟨cy,Vy,c1,c2⟩:=gX I.ok S;refine PySem.W.kla_eval Rj ?_;have j9:∀b o,s.heap.get? b=some o->b<s.heap.objs.size:=fun b o e=>aU e;rcases Xw with hP|⟨c',hP,EY⟩
 .-- Xx first time
  have MW:s.heap.get? P=some (PySem.W.tabObj #[]):=I.br P _ hP;have Xy:X.env.locals≠P:=fun z=>by have f:=I.free;rw[z,hP] at f;cases f
  have Xz:mainGlobals≠P:=fun z=>by
   obtain⟨o,es,ep,e,d,_⟩:=I.mod.glob;have:=(I.bs _ _ e).2;rw[z,hP] at this;cases this
  refine PySem.W.kla_makeFunction (mg:=X.mg) Vy I.ok.glob I.Hy C.code (C.hd.keeps I.bk) MW (by trivial) rfl Xz (C.at I hP) fun c' u4 h' tk hx Fv eS Rk Vz=>?_;have Fw:∀b o,b≠P->s.heap.get? b=some o->(h'.push (PySem.W.kla_obj "<lambda>" (X.env.qual++"<lambda>") params body scope cy ((X.mg "__name__").getD .none) c' u4)).get? b=some o:=fun b o hb e=>cf _ (hx b o hb e);have XA:c'≠P:=jX (cG (j9 _ _ MW) Fv);have XB:h'.objs.size≠P:=jX (cG (j9 _ _ MW) (bf Fv (ii eS)));have XC:h'.objs.size≠c':=jX eS;have nf:H h'.objs.size=none:=I.br.fresh (by lia);have nc:H c'=none:=I.br.fresh Fv
  let H2:Hp:=upd (upd (upd H P (.mH #[rawInt lp.line,rawInt lp.col,.ref c'])) c' (kX c' (X.env.qual++"<lambda>"))) h'.objs.size (pU h'.objs.size (X.env.qual++"<lambda>") params body scope X.env.cells c')
  have eP:H2 P=some (.mH #[rawInt lp.line,rawInt lp.col,.ref c']):=by
   show upd _ _ _ _=_;rw[ao XB.symm,ao XA.symm,ah]
  have ec:H2 c'=some (kX c' (X.env.qual++"<lambda>")):=by
   show upd _ _ _ _=_;rw[ao XC.symm,ah]
  have ef:H2 h'.objs.size=some (pU h'.objs.size (X.env.qual++"<lambda>") params body scope X.env.cells c'):=ah;have eo:∀b,b≠P->b≠c'->b≠h'.objs.size->H2 b=H b:=fun b h1 h2 h3=>by
   show upd _ _ _ _=_;rw[ao h3,ao h2,ao h1]
  have jw:∀b o,H b=some o->b≠P->H2 b=some o:=fun b o e hb=>by
   rw[eo b hb (aq e nc) (aq e nf)];exact e
  have I2:aD X ae σ H2 { s with heap:=h'.push (PySem.W.kla_obj "<lambda>" (X.env.qual++"<lambda>") params body scope cy ((X.mg "__name__").getD .none) c' u4),toks:=tk }:=by
   refine I.step (g':=s.gens) (d':=s.drawn) (ch:=[]) (fun _ z=>absurd z (by simp)) (fun b o _ _ _ e n=>Fw b o (fun z=>by rw[z,hP] at n;cases n) e) (fun b o _ _ _ e n=>⟨o.slots,Fw b o (fun z=>by rw[z,hP] at n;cases n) e⟩)
    (fun b o _ e n=>?_) (fun b o _ e=>?_) (fun b xs e=>jw b _ e fun z=>by rw[z,hP] at e;cases e) (fun b o u e=>jw b _ e fun z=>by rw[z,hP] at e;cases e) (fun b ps e=>?_) (fun m hm=>?_) (fun b o e=>?_) I.bare
   .rw[eo b (fun z=>by rw[z,hP] at n;cases n) (aY (cG (j9 b o e) Fv)) (aY (cG (j9 b o e) (bf Fv (ii eS))))];exact n
   .by_cases hb:b=P
    .exact⟨_,by rw[hb];exact cf _ Vz⟩
    .exact⟨o,Fw b o hb e⟩
   .by_cases hb:b=P
    .rw[hb] at e |-;rw[hP] at e;cases e;exact⟨#[rawInt lp.line,rawInt lp.col,.ref c'],by rw[eP];simp⟩
    .exact⟨#[],by rw[jw b _ e hb];simp⟩
   .exact(hm.extBut hx Xy).push _
   .by_cases VA:b=h'.objs.size
    .subst VA;rw[ef] at e;cases e;exact yP ⟨cy,_,u4,c1,c2,cI _ rfl⟩
    .by_cases QY:b=c'
     .subst QY;rw[ec] at e;cases e;refine CK ?_;obtain⟨c₂,oc,vs,t,e2,EI,r⟩:=Rk;exact⟨c₂,oc,vs,t,e2,cf _ EI,r⟩
     .by_cases Rl:b=P
      .subst Rl;rw[eP] at e;cases e;exact cf _ Vz
      .rw[eo b Rl QY VA] at e;refine(I.br b o e).m5 (fun d u hd q=>Fw d u ?_ q) (fun d q=>jw d _ q fun z=>by rw[z,hP] at q;cases q) fun d xs q=>jw d _ q fun z=>by rw[z,hP] at q;cases q
       rintro rfl;rcases hd with z|z
       .exact Rl z.symm
       .rw[hP] at z;cases z
  exact⟨.ref h'.objs.size,H2,I2,rfl,h _ c' H2 (.inr ⟨c',eP,ec⟩) jw ec ef⟩
 .-- again
  have MW:s.heap.get? P=some (PySem.W.tabObj #[rawInt lp.line,rawInt lp.col,.ref c']):=I.br P _ hP;refine PySem.W.kla_makeFunctionHit (mg:=X.mg) Vy I.ok.glob I.Hy C.code (C.hd.keeps I.bk) MW u5 z_ (C.at I hP) fun u4 h' tk hk Fv=>?_;have nf:H h'.objs.size=none:=I.br.fresh Fv
  let H2:Hp:=upd H h'.objs.size (pU h'.objs.size (X.env.qual++"<lambda>") params body scope X.env.cells c')
  have ef:H2 h'.objs.size=some (pU h'.objs.size (X.env.qual++"<lambda>") params body scope X.env.cells c'):=ah;have jw:∀b o,H b=some o->H2 b=some o:=fun b o e=>by
   show upd _ _ _ _=_;rw[ao (aq e nf)];exact e
  have Fw:∀b o,s.heap.get? b=some o->(h'.push (PySem.W.kla_obj "<lambda>" (X.env.qual++"<lambda>") params body scope cy ((X.mg "__name__").getD .none) c' u4)).get? b=some o:=fun b o e=>cf _ (hk b o e);have I2:aD X ae σ H2 { s with heap:=h'.push (PySem.W.kla_obj "<lambda>" (X.env.qual++"<lambda>") params body scope cy ((X.mg "__name__").getD .none) c' u4),toks:=tk }:=by
   refine I.step (g':=s.gens) (d':=s.drawn) (ch:=[]) (fun _ z=>absurd z (by simp)) (fun b o _ _ _ e n=>Fw b o e) (fun b o _ _ _ e n=>⟨o.slots,Fw b o e⟩)
    (fun b o _ e n=>?_) (fun b o _ e=>⟨o,Fw b o e⟩) (fun b xs e=>jw b _ e) (fun b o u e=>jw b _ e) (fun b ps e=>⟨#[],by rw[jw b _ e];simp⟩) (fun m hm=>(hm.keeps hk).push _) (I.br.laid Fw Fv (yP ⟨cy,_,u4,c1,c2,cI _ rfl⟩)) I.bare
   .show upd _ _ _ _=_;rw[ao (aY (cG (j9 b o e) Fv))];exact n
  exact⟨.ref h'.objs.size,H2,I2,rfl,h _ c' H2 (.inr ⟨c',jw _ _ hP,jw _ _ EY⟩) (fun b o e _=>jw b o e) (jw _ _ EY) ef⟩
end
def xD(X:Cx)(id:String)(ks:List Str)(r:St->List V->List V->Hp->VK->Prop):Prop:=
 ∀ (ae:List (Addr×Obj)) (s:Shared) (σ:St) (H:Hp) (vs zs:List V) (us ws:List Value) (Q:VK),aD X ae σ H s->aP vs us->aP zs ws->r σ vs zs H Q->
  wpAny (model X.prog X.w) X.A (call (.builtin id) us (ks.zip ws)) (EP X ae σ Q) X.xe s
def Rm(r:St->List V->List V->Hp->VK->Prop)(t tk:TA):TE:=fun σ H Q=>t σ H fun vs H1=>tk σ H1 fun zs H2=>r σ vs zs H2 Q
section
variable {X:Cx} {x:Str} {p pos:Pos} {e:Expr} {es:List Expr} {B7:List Keyword} {t tk:TA} {id:String} {ks:List Str} {r:St->List V->List V->Hp->VK->Prop}
theorem qB(hc:xD X id ks r)(hg:Gl X x)(hm:X.mg x=none)(hv:bootBuiltins x=some (.builtin id))(ha:PA X (e::es) t)(XD:PK X B7 tk)(hn:x≠"__name__":=by decide)(m8:(x==("__debug__":Str))=false:=by decide)(XE:(backToKw pos (keywordEach B7 X.env)).filterMap (·.1)=ks:=by rfl)(he:backTo pos (starEach (e::es) X.env)=(false,eval e X.env)::backTo pos (starEach es X.env):=by rfl)(xj:(backTo pos (starEach (e::es) X.env)).any (·.1)=false:=by rfl)(uJ:(backToKw pos (keywordEach B7 X.env)).all (·.1.isSome)=true:=by rfl)(Cd:(backToKw pos (keywordEach B7 X.env)).any (·.1.isNone)=false:=by rfl):PE X (.Call (.Name x p) (e::es) B7 pos) (Rm r t tk):=by
 intro ae s σ H Q I h;refine jQ (lQ I hg hm hv ?_ hn m8);refine PyProof.Rows.callWith_kw (bZ (ha pos ae s σ H _ I h) fun us s1 ⟨vs,H1,I1,r1,q1⟩=>?_) he xj uJ Cd;refine bZ (XD pos ae s1 σ H1 _ I1 q1) fun ws s2 ⟨zs,H2,I2,rz,q2⟩=>?_;rw[XE];exact hc ae s2 σ H2 vs zs us ws Q I2 r1 rz q2
end
def Jj(za zb:Int)(ns out:List Int):Prop:=∃ps:List (Int×Int),ps.Perm (ns.map fun z=>((z-za) % zb,z))/\out=ps.map (·.2)/\ps.Pairwise fun p q=>p.1<=q.1
def Jk(X:Cx)(qual:Str)(params:Arguments)(body:Expr)(scope:Scope)(ia ib:Nat):St->List V->List V->Hp->VK->Prop:=fun σ vs zs H Q=>
 ∃ (l f c:Addr) (ns:List Int) (za zb:Int),vs=[.ref l]/\zs=[.ref f]/\bn X.K H l (ns.map V.int)/\ns.length<64/\H f=some (pU f qual params body scope X.env.cells c)/\H c=some (kX c qual)/\
  σ[ia]?=some (some (.int za))/\σ[ib]?=some (some (.int zb))/\0<zb/\∀ (r:Addr) (out:List Int),H r=none->Jj za zb ns out->Q (.ref r) (upd H r (.lst (out.map V.int)))
theorem qC:∀ {ns:List Int} {vs:List Value},aP (ns.map V.int) vs->IntsAre vs ns
 |[],_,.nil=>.nil
 |_::_,_,.cons ⟨t,e⟩ r=>by subst e;exact .cons _ t (qC r)
structure MX(X:Cx)(qual:Str)(params:Arguments)(body:Expr)(scope:Scope)(y a b:Str)(ia ib:Nat):Prop where
 bd:∃p1 p2 p3 p4 p5,body=.BinOp (.BinOp (.Name y p1) .Sub (.Name a p2) p3) .Mod (.Name b p4) p5
 bind:∀cy pm c u4 v,bindArgs (PySem.W.kla_fn "<lambda>" qual params body scope cy pm (.ref c) u4) ⟨[v],[]⟩=pure [(y,v)]
 na:X.N[ia]?=some a
 nb:X.N[ib]?=some b
 ca:X.env.scope.names.lookup a=some .cell
 cb:X.env.scope.names.lookup b=some .cell
 ly:scope.names.lookup y=some .local
 fa:scope.names.lookup a=some .free
 fb:scope.names.lookup b=some .free
 ma:(a,NameKind.free)∈scope.names
 mb:(b,NameKind.free)∈scope.names
 sX:∀z∈scope.names,z.2≠.cell
 kind:scope.kind=.function
 co:scope.isCoroutine=false
 gen:scope.isGenerator=false
 dy:(y==("__debug__":Str))=false
 da:(a==("__debug__":Str))=false/\(a==("__classdict__":Str))=false
 db:(b==("__debug__":Str))=false/\(b==("__classdict__":Str))=false
theorem xE(S:MX X qual params body scope y a b ia ib)(hr:aZ k X.A):
  xD X "sorted" ["key"] (Jk X qual params body scope ia ib):=by
 intro ae s σ H vs zs us ws Q I r rz h;obtain⟨l,f,c,ns,za,zb,rfl,rfl,hl,VB,hf,hc,sa,sb,Z6,q⟩:=h;obtain⟨u1,rfl,r1⟩:=r.one;obtain rfl:u1=Value.ref l:=r1;obtain⟨w1,rfl,Rn⟩:=rz.one;obtain rfl:w1=Value.ref f:=Rn;obtain⟨its,rv,pl,hz⟩:=I.list hl;have hI:=qC rv;obtain⟨m,F⟩:=I.fr;obtain⟨p1,p2,p3,p4,p5,rfl⟩:=S.bd;obtain⟨cy,pm,u4,c1,c2,IW⟩:=(I.br f _ hf).1;have Ro:s.heap.CodeRec (.ref c) qual:=(I.br c _ hc).1;obtain⟨m',Ld,VC⟩:=I.loc;have MZ:∃ca ta,cy.lookup a=some ca/\s.heap.IsCell ca (some (.int za ta)):=by
  obtain⟨u,⟨ta,rfl⟩,lk⟩:=VC ia a (.int za) S.na sa (.inr (.inl S.ca));obtain⟨ca,e1⟩:=c2 a S.ma;rcases lk with ⟨z,_⟩|⟨_,Z7,e2,e3⟩
  .have z':X.env.scope.names.lookup a=some .local:=z;rw[S.ca] at z';cases z'
  .have e4:=c1 a ca e1;rw[e2] at e4;cases e4;exact⟨ca,ta,e1,e3⟩
 have M0:∃cb tb,cy.lookup b=some cb/\s.heap.IsCell cb (some (.int zb tb)):=by
  obtain⟨u,⟨tb,rfl⟩,lk⟩:=VC ib b (.int zb) S.nb sb (.inr (.inl S.cb));obtain⟨cb,e1⟩:=c2 b S.mb;rcases lk with ⟨z,_⟩|⟨_,Z8,e2,e3⟩
  .have z':X.env.scope.names.lookup b=some .local:=z;rw[S.cb] at z';cases z'
  .have e4:=c1 b cb e1;rw[e2] at e4;cases e4;exact⟨cb,tb,e1,e3⟩
 obtain⟨ca,ta,ea,ha⟩:=MZ;obtain⟨cb,tb,eb,hb⟩:=M0;have Ps:∀b' (o:Obj),s.heap.get? b'=some o->(∀es ep,o.data≠.dict es ep)->b'≠X.env.locals:=fun b' o e d z=>by
  obtain⟨o',es,ep,e',d',_⟩:=F.ns;rw[z,e'] at e;cases e;exact d _ _ d'
 have len:(ns.map fun z=>(z-za) % zb).length=its.length:=by rw[aW,hI.length]
 refine ksk_sorted (b:=false) (f:=.ref f) (kz:=ns.map fun z=>(z-za) % zb) F Bq pl.isList len (by rw[hI.length];exact VB) (ksk_s1 _ _) (fun x=>ksk_l1 _ _) (fun x=>ksk_t1 _ _) ?_ ?_
 .-- one key
  intro i v k hv hk h tk own F' N';have at_:∀b' u,b'≠X.env.locals->s.heap.get? b'=some u->h.get? b'=some u:=fun b' u iw e=>by
   cases z:X.base.get? b' with
   |some o=>
    have:=I.bk b' o z;rw[e] at this;cases this;exact F'.keep b' _ z
   |none=>exact(N' (b',u) (fR _ (iN iw z e))).1
  have Rp:=at_ f _ (Ps f _ IW (by intro es ep z;cases z)) IW;have Rq:h.CodeRec (.ref c) qual:=by
   obtain⟨c0,o,XF,t0,e0,ho,hd,XG⟩:=Ro;refine⟨c0,o,XF,t0,e0,at_ _ _ (Ps _ _ ho (by rw[hd];intro es ep z;cases z)) ho,hd,XG⟩
  have Mq:h.IsCell ca (some (.int za ta)):=by
   obtain⟨o,ho,hd⟩:=ha;exact⟨o,at_ _ _ (Ps _ _ ho (by rw[hd];intro es ep z;cases z)) ho,hd⟩
  have yF:h.IsCell cb (some (.int zb tb)):=by
   obtain⟨o,ho,hd⟩:=hb;exact⟨o,at_ _ _ (Ps _ _ ho (by rw[hd];intro es ep z;cases z)) ho,hd⟩
  obtain⟨z,tz,rfl,rfl⟩:∃z tz,v=.int z tz/\k=(z-za) % zb:=by
   obtain⟨n,t,e⟩:=hI.all v (dA hv);refine⟨n,t,e,?_⟩;rw[bA] at hk;have hn:=hI.nums;have e1:(its.map numOf)[i]?=some n:=by rw[bA,hv,e];rfl
   rw[hn] at e1;rw[e1] at hk;exact(bi hk).symm
  have CM:X.A.in1.in1.depth<recursionLimit:=by
   have:=hr.dp;show X.A.depth<_;lia
  refine jY (PySem.W.kla_callFunE CM Rp rfl S.co S.gen rfl Rq ?_);rw[S.bind];refine wpAny_pure (wpAny_newFunctionEnv S.sX (fun x hx=>by rw[cJ.mp hx];exact S.ly) (fun h₁ u6 M1=>⟨((I.ok.mod.nolimit).keeps F'.keep).fresh _ M1,?_⟩) S.kind);have Jl:∀b o,h.get? b=some o->h₁.get? b=some o:=fun b o e=>M1.extBut b o (aY (aU e)) (cf _ e);have XH:=Mq.keeps Jl;have XI:=yF.keeps Jl;refine PySem.W.kla_codeExpr ?_;refine wpAny_BinOp (wpAny_BinOp ?_);refine lN (wv S.kind S.ly u6 (v:=.int z tz) (by simp) ?_) S.dy;refine lN (wF S.kind S.fa ea XH ?_ S.da.2) S.da.1;refine sub_int ?_;refine lN (wF S.kind S.fb eb XI ?_ S.db.2) S.db.1;refine mod_int' (by lia) ?_;rw[vW _ (by lia)];refine KskEnd.intro (news':=gN X.base s.heap X.env.locals++own) ⟨F'.ns.keeps Jl,fun b o e=>Jl b o (F'.keep b o e),F'.above⟩ (fun p hp=>⟨Jl _ _ (N' p hp).1,(N' p hp).2⟩) fun p hp=>hp
 .-- Xx list
  intro D h' tk out cc F' N' eS Rr;have hD:=pT I N' eS;obtain⟨ps,hp,ho,hs⟩:=Rr;have xk:∀p∈ps,∃n t,p.2=.int n t:=fun p Li=>by
   have:=hp.mem_iff.mp Li;exact hI.all _ (lH this).2
  have XJ:((ns.map fun z=>(z-za) % zb).zip its).map (fun p=>(p.1,numOf p.2))=ns.map fun z=>((z-za) % zb,z):=by
   have hn:=hI.nums;rw[<-hn];have go:∀ (l:List Value),((((l.map numOf).map fun z=>(z-za) % zb).zip l).map fun p=>(p.1,numOf p.2))=(l.map numOf).map fun z=>((z-za) % zb,z):=by
    intro l;induction l with
    |nil=>rfl
    |cons x l ih=>simp only[f9,List.zip_cons_cons,ih]
   exact go its
  have Ci:aP ((ps.map fun p=>(p.1,numOf p.2)).map (fun p=>V.int p.2)) (ps.map Prod.snd):=by
   have go:∀ (l:List (Int×Value)),(∀p∈l,∃n t,p.2=.int n t)->aP ((l.map fun p=>(p.1,numOf p.2)).map (fun p=>V.int p.2)) (l.map Prod.snd):=by
    intro l;induction l with
    |nil=>intro _;exact .nil
    |cons x l ih=>
     intro hx;refine .cons ?_ (ih fun p hp=>hx p (bz _ hp));obtain⟨n,t,e⟩:=hx x bC;show ∃t,x.2=Value.int (numOf x.2) t;rw[e];exact⟨t,rfl⟩
   exact go ps xk
  have Aa:Jj za zb ns ((ps.map fun p=>(p.1,numOf p.2)).map (·.2)):=by
   refine⟨ps.map fun p=>(p.1,numOf p.2),?_,rfl,?_⟩
   .rw[<-XJ];exact hp.map _
   .refine kB.mpr (hs.imp fun {p q} z=>?_);simpa using z
  have XM:h'.get? D=some (seqObj "list" out cc):=(N' _ bC).1;have I2:aD X ae σ (upd H D (.lst (((ps.map fun p=>(p.1,numOf p.2)).map (·.2)).map V.int))) { s with heap:=h',toks:=tk }:=by
   refine I.MJ F F' (fun p hp=>N' p (bz _ hp)) hD ⟨?_,ps.map Prod.snd,cc,?_,?_⟩
   .have h1:=hp.length_eq;rw[List.length_zip,len,Nat.min_self] at h1;simp only[aW];rw[h1,hI.length];exact bf (ii VB) (by decide)
   .have ev:=Ci;simp only[fc] at ev |-;exact ev
   .rw[XM,<-ho]
  exact⟨.ref D,_,I2,rfl,q D _ (I.br.oY hD) Aa⟩
def pV(mg:Str->Option Value)(base:Heap):Prop:=∃bm o,mg "__builtins__"=some (.ref bm)/\bm≠builtinsNs/\bm≠mainGlobals/\base.get? bm=some o/\o.cls=.type "module"/\o.dict=some builtinsNs/\o.data=.plain
def yQ(ts:List Addr)(H:Hp):Prop:=(∀P∈ts,H P=some (.mH #[]))/\∀b,H b=none\/(b∈ts/\H b=some (.mH #[]))\/∃o xs,H b=some (.qf o (.lst xs))
theorem Ab{P:Program}{w:World}{K:PySem.W.Frag}{mg mb:Str->Option Value}{CX:nU}{k:Nat}{fa a:Addr}{fd:FuncData}{x:Str}{sp:Sp}{s₁:Shared}{vs:List Value}{ns:List Int}{ts:List Addr}(KX:K.In s₁.heap)(u6:s₁.heap.Ns mainGlobals mg)(hb:s₁.heap.Ns builtinsNs mb)(XN:∀x:Str,x≠"__name__"->mb x=bootBuiltins x)(Rt:s₁.heap.NoLimit)(hg:s₁.gens=#[])(XO:pV mg s₁.heap)(M2:∀P∈ts,s₁.heap.get? P=some (PySem.W.tabObj #[]))(mI:∀P∈ts,∃c,PySem.W.codeHdIn K c P=true)(Ru:∀P∈ts,K.lookup P=none)(ha:s₁.heap.get? a=some { cls:=.type "list",data:=.seq vs.toArray })(hi:IntsAre vs ns)(hl:ns.length<=sizeLine)(hr:aZ k callerA)(F:∀base:Heap,K.In base->base.Ns mainGlobals mg->pV mg base->a9 P w K mg base CX k fa fd [x] sp)(M3:∀ (s:Shared) (u:Value),BindsTo s fd ⟨[u],[]⟩ [(x,u)])(uG:∀H:Hp,yQ ts H->bn K H a (ns.map V.int)->sp [.ref a] H (fun v _=>v=.bl true) fun _ _ _=>False)(Rv:∀H e s',CX [] H s₁ (fun _ _ _=>False) e s'->False):
  codeAny (model P w) callerA (.call (.ref fa) ⟨[.ref a],[]⟩) (fun r s'=>r=.ok (.ret (.bool true))/\OldK s₁.heap s'.heap/\s'.os=s₁.os/\AllBare s'.gens) s₁:=by
 have rv:=qt hi;have Rx:=hi.length;have Pu:a∉ts:=fun z=>by
  have:=M2 a z;rw[ha] at this;cases this
 have M4:∀H:Hp,yQ ts H->bn K H a (ns.map V.int)->j6 P w H s₁.heap->(∀b,H b≠none->b=a\/b∈ts)->(H a≠none->K.lookup a=none)->
   codeAny (model P w) callerA (.call (.ref fa) ⟨[.ref a],[]⟩) (fun r s'=>r=.ok (.ret (.bool true))/\OldK s₁.heap s'.heap/\s'.os=s₁.os/\AllBare s'.gens) s₁:=by
  intro H hO hS br hA hK;have sY:∀ {b:Addr} {o:Obj},s₁.heap.get? b=some o->H b=none->(pQ s₁.heap H).get? b=some o:=fun e n=>Bp e n;have EK:∀ {b:Addr} {o:Obj},s₁.heap.get? b=some o->(∀v n,o.data≠.seq v n)->(∀v,o.data≠.fields v)->H b=none:=fun {b o} e d1 d2=>by
   cases q:H b with
   |none=>rfl
   |some u=>
    rcases hA b (by rw[q];simp) with e'|e'
    .subst e';rw[ha] at e;cases e;exact absurd rfl (d1 _ _)
    .rw[M2 b e'] at e;cases e;exact absurd rfl (d2 _)
  have Pw:∀ {b:Addr} {m:Str->Option Value},s₁.heap.Ns b m->(pQ s₁.heap H).Ns b m:=fun {b m} ⟨o,es,ep,e,d,r⟩=>⟨o,es,ep,sY e (EK e (by rw[d];intro v n z;cases z) (by rw[d];intro v z;cases z)),d,r⟩
  have VD:K.In (pQ s₁.heap H):=fun b o e=>sY (KX b o e) (by
   cases q:H b with
   |none=>rfl
   |some u=>
    rcases hA b (by rw[q];simp) with e'|e'
    .subst e';rw[hK (by rw[q];simp)] at e;cases e
    .rw[Ru b e'] at e;cases e)
  have hB:pV mg (pQ s₁.heap H):=by
   obtain⟨bm,o,b1,b2,b3,b4,b5,b6,b7⟩:=XO;exact⟨bm,o,b1,b2,b3,sY b4 (EK b4 (by rw[b7];intro v n z;cases z) (by rw[b7];intro v z;cases z)),b5,b6,b7⟩
  have hM:Mod K mg (pQ s₁.heap H):=⟨VD,Pw u6,⟨mb,Pw hb,XN⟩,let ⟨mc,h1,h2⟩:=Rt;⟨mc,Pw h1,h2⟩⟩
  have e0:sq P w K mg (pQ s₁.heap H) callerA [] s₁ H:=⟨rfl,hM,fun b o e=>EV e,rZ (zD _ _),trivial,fun b hb=>absurd (show b∈([]:List Addr) from hb) (by simp),br,.of_eq hg⟩
  refine iI ((F _ VD (Pw u6) hB).run callerA [] s₁ H ⟨[.ref a],[]⟩ [.ref a] [.ref a] _ _ hr e0 (M3 s₁ (.ref a)) (.cons rfl .nil) (uG H hO hS)) fun r s' h=>?_;cases r with
  |error e=>exact(Rv H e s' h).elim
  |ok fl=>
   cases fl with
   |next=>exact False.elim h
   |brk=>exact False.elim h
   |cont=>exact False.elim h
   |ret u=>
    obtain⟨v,H',os,bare,un,M5,r',q⟩:=h;have q':v=.bl true:=q;subst q';obtain rfl:u=Value.bool true:=r';refine⟨rfl,⟨fun b o e=>?_,fun b o e=>un.there b o e (by simp)⟩,os,bare⟩;cases q:H b with
    |none=>exact .inl (un.keep b o e q (by intro z;exact absurd (show b∈([]:List Addr) from z) (by simp)) (by simp))
    |some u=>
     rcases hO.2 b with z|⟨zt,z⟩|⟨ob,xs,z⟩
     .rw[q] at z;cases z
     .obtain⟨more,z2⟩:=un.jx b _ z;have e1:=M2 b zt;rw[e] at e1;cases e1;have e2:s'.heap.get? b=some { cls:=.none,data:=.fields (#[]++more) }:=M5 b _ z2;obtain⟨c,hc⟩:=mI b zt;obtain⟨oc,XQ,_,_,_,_,_,_,_,g1,g2,g3,g4,_⟩:=PySem.W.codeHd_of_K KX hc;exact .inr (.inl ⟨⟨c,oc,XQ,g1,g2,g3,g4⟩,rfl,#[],more,rfl,e2⟩)
     .have z2:=un.iM b ob _ z;obtain⟨e1,_⟩:=br b _ z;obtain⟨e2,_⟩:=M5 b _ z2;rw[e] at e1;cases e1;exact .inl e2
 have VE:∀ (H:Hp),(∀P∈ts,H P=some (.mH #[]))->True:=fun _ _=>trivial
 classical
 cases hk:K.lookup a with
 |some o=>
  have e:=KX a o hk;rw[ha] at e;cases e;refine M4 (fun b=>if b∈ts then some (.mH #[]) else none) ⟨fun P hP=>ak hP,fun b=>?_⟩ (.inr ⟨_,vs.toArray,_,hk,rfl,rfl,rfl,by rw[cA,Rx];exact hl,by simpa using rv⟩) (fun b u z=>?_) (fun b z=>?_) fun z=>absurd (al Pu) z
  .by_cases hb:b∈ts
   .exact .inr (.inl ⟨hb,ak hb⟩)
   .exact .inl (al hb)
  .by_cases hb:b∈ts
   .have z':=(ak hb).symm.trans z;cases z';exact M2 b hb
   .have z':=(al hb).symm.trans z;cases z'
  .by_cases hb:b∈ts
   .exact .inr hb
   .exact absurd (al hb) z
 |none=>
  refine M4 (fun b=>if b=a then some (.qf { cls:=.type "list",data:=.seq vs.toArray } (.lst (ns.map V.int))) else if b∈ts then some (.mH #[]) else none) ⟨fun P hP=>?_,fun b=>?_⟩ (.inl (.inr ⟨{ cls:=.type "list",data:=.seq vs.toArray },ak rfl⟩)) (fun b u z=>?_) (fun b z=>?_) fun _=>hk
  .have:P≠a:=fun z=>Pu (z ▸ hP);show (if P=a then _ else if P∈ts then _ else _)=_;rw[al this,ak hP]
  .by_cases hb:b=a
   .exact .inr (.inr ⟨_,_,ak hb⟩)
   .by_cases ht:b∈ts
    .exact .inr (.inl ⟨ht,by show (if b=a then _ else if b∈ts then _ else _)=_;rw[al hb,ak ht]⟩)
    .exact .inl (by show (if b=a then _ else if b∈ts then _ else _)=_;rw[al hb,al ht])
  .by_cases hb:b=a
   .have z':=(ak hb).symm.trans z;cases z';subst hb;exact⟨ha,by rw[aW];exact hl,vs,_,rv,ha⟩
   .have z1:(if b∈ts then some (HO.mH #[]) else none)=some u:=(al hb).symm.trans z;by_cases ht:b∈ts
    .rw[ak ht] at z1;cases z1;exact M2 b ht
    .rw[al ht] at z1;cases z1
  .by_cases hb:b=a
   .exact .inl hb
   .by_cases ht:b∈ts
    .exact .inr ht
    .exact absurd (by show (if b=a then _ else if b∈ts then _ else _)=_;rw[al hb,al ht]) z
theorem CO{l:PySem.W.OpenLaw}{n k:Nat}{q:Program}{qr:List Str}{XP:(Str->Option Value)->Heap->Prop}{YP:World->Heap->Prop}{d:DefRec}{K:Params->PySem.W.Frag}{CX:World->nU}{sp:World->Sp}{x:Str}{ts:List Addr}(hn:l.most=some n)(Lg:n<=sizeLine)(Mo:d.params.defaults=[])(hr:aZ k callerA)(hY:∀ (w:World) (h:Heap),YP w h->(K w.params).In h)(hT:∀ (w:World) (h:Heap),YP w h->∀P∈ts,h.get? P=some (PySem.W.tabObj #[]))(mI:∀ (w:World),∀P∈ts,∃c,PySem.W.codeHdIn (K w.params) c P=true)(Ru:∀ (w:World),∀P∈ts,(K w.params).lookup P=none)(F:∀ (w:World) (mg:Str->Option Value) (fa:Addr) (h:Heap),(K w.params).In h->h.Ns mainGlobals mg->mg d.name=some (.ref fa)->
   ∃fd:FuncData,(∀ (s:Shared) (u:Value),BindsTo s fd ⟨[u],[]⟩ [(x,u)])/\
    ∀base:Heap,(K w.params).In base->base.Ns mainGlobals mg->pV mg base->a9 l.prog w (K w.params) mg base (CX w) k fa fd [x] (sp w))(uG:∀ (w:World) (H:Hp) (a:Addr) (ns:List Int),ns.length<=n->yQ ts H->bn (K w.params) H a (ns.map V.int)->sp w [.ref a] H (fun v _=>v=.bl true) fun _ _ _=>False)(Rv:∀ (w:World) (H:Hp) (s:Shared) (e:Value) (s':Shared),CX w [] H s (fun _ _ _=>False) e s'->False):
  PySem.W.WalkO q qr XP YP l.row.toRowW d [] (fun f vs=>PySem.call f vs):=by
 refine Vc.uK hn Mo fun w s₀ s₁ mg mb fa o pm cd jm a vs ns G Y ho hd XR Mp IU Cj eA hg=>?_;have KX:=hY w _ Y;obtain⟨fd,hb,hF⟩:=F w mg fa _ KX G.T.g Mp;have hB:pV mg s₁.heap:=by
  obtain⟨bm,ob,b1,b2,b3,b4,b5,b6⟩:=G.T.bmain;refine⟨bm,ob,b1,b2,fun z=>?_,b3,b4,b5,b6⟩;obtain⟨o',es,ep,e,Br,_⟩:=G.T.g;rw[z,e] at b3;cases b3;rw[Br] at b6;cases b6
 exact Ab KX G.T.g G.T.b G.T.builtins G.T.nolimit hg hB (hT w _ Y) (mI w) (Ru w) IU Cj (bf eA Lg) hr hF hb (fun H hO hS=>uG w H a ns eA hO hS) fun H e s'=>Rv w H s₁ e s'
structure u7(K:PySem.W.Frag)(x qual:Str)(st:Stmt)(f:Addr)(fd:FuncData)(c:Addr):Prop where
 ex:∃ (oc:Value) (od:Option Addr) (kV jm pm:Value) (an:Option Addr) (ct:Value) (qq:Array (Option Value)),
  fd=PySem.W.fnOf x qual (cp st) (bq st) (aj st) .none kV jm pm an (.ref c) ct/\K.lookup f=some ⟨oc,od,.func fd,qq⟩/\PySem.W.codeIn K (.ref c) qual=true
 kp:PySem.W.keepIn K (.ref f)=true
theorem u7.fun{K:PySem.W.Frag}{x qual:Str}{st:Stmt}{f:Addr}{fd:FuncData}{c:Addr}(F:u7 K x qual st f fd c):dR K x qual st f fd:=by
 obtain⟨oc,od,kV,jm,pm,an,ct,qq,e,lk,mI⟩:=F.ex;exact⟨⟨oc,od,kV,jm,pm,an,_,ct,qq,e,lk,mI⟩,F.kp⟩
section
variable {P:Program} {w:World} {K:PySem.W.Frag} {mg:Str->Option Value} {base:Heap}
theorem u7.ok{x qual:Str}{st:Stmt}{f:Addr}{fd:FuncData}{c:Addr}{N ps:List Str}{k:Nat}{sp:Sp}(F:u7 K x qual st f fd c)(S:aw N ps (aj st))(len:∀vs H Q E,sp vs H Q E->vs.length=ps.length)(iS:∀ (A:Around) (outer:List Env) (s:Shared) (H:Hp) (vs:List V) (Q:VK) (E:XK),aZ k (A.deeper (envOfC qual (aj st) s.heap.objs.size f (.ref c)))->sp vs H Q E->
   ∃t,pK (fQ a_ P w K mg base N qual (aj st) f (.ref c) A outer s H E).AZ (bq st) t/\t { nx:=fun _ H'=>Q .bp H',rt:=Q } (start N vs) H):a9 P w K mg base a_ (k+1) f fd ps sp:=by
 obtain⟨oc,od,kV,jm,pm,an,ct,qq,rfl,lk,mI⟩:=F.ex;refine B_ lk mI S len fun A outer s H vs Q E hr uG=>?_;obtain⟨t,h,q⟩:=iS A outer s H vs Q E hr uG;exact⟨t,h.AZ,q⟩
theorem Fx{x qual:Str}{st:Stmt}{f c:Addr}{oc:Value}{od an:Option Addr}{qq:Array (Option Value)}{kV jm pm ct:Value}(l:K.lookup f=some ⟨oc,od,.func (PySem.W.fnOf x qual (cp st) (bq st) (aj st) .none kV jm pm an (.ref c) ct),qq⟩)(mI:PySem.W.codeIn K (.ref c) qual=true)(kp:PySem.W.keepIn K (.ref f)=true):u7 K x qual st f (PySem.W.fnOf x qual (cp st) (bq st) (aj st) .none kV jm pm an (.ref c) ct) c:=⟨⟨oc,od,kV,jm,pm,an,ct,qq,rfl,l,mI⟩,kp⟩
theorem yR(kb:K.In base)(hb:pV mg base)(hc:PySem.W.codeHdIn K c P'=true):
  Fu (fQ CX P w K mg base N qual scope f (.ref c) A outer s H E).AZ c P':=⟨rfl,PySem.W.codeHd_of_K kb hc,hb⟩
end
def nW(sc Ry:Scope)(y:Str×NameKind):Bool:=match y.2 with
 |.cell=>(match sc.names.lookup y.1 with|some .cell=>true|_=>false)
 |.local=>(match sc.names.lookup y.1 with|some .local=>true|_=>false)
 |.free=>(match Ry.names.lookup y.1 with|some .cell=>true|some .free=>true|_=>false)
 |_=>true
def CP(NB:List Str)(src:List (Option Nat))(sc:Scope)(N:List Str)(i:Nat):Bool:=match NB[i]?,src[i]? with
 |some x,some (some j)=>(N[j]?==some x)&&(match sc.names.lookup x with|some .free=>true|_=>false)
 |_,_=>true
def yS(sc:Scope):Bool:=match sc.kind with|.function=>true|_=>false
def CQ(NB:List Str)(src:List (Option Nat))(sc Ry:Scope)(N:List Str):Bool:=
 yS sc&&decide NB.Nodup&&(src.length==NB.length)&&(sc.names.all (nW sc Ry))&&(List.range NB.length).all (CP NB src sc N)
theorem bX(h:CQ NB src sc X.env.scope X.N=true):dS NB src sc X:=by
 unfold CQ at h;simp only[e_,jR,fD,iD] at h;obtain⟨⟨⟨⟨h1,h2⟩,h3⟩,h4⟩,h5⟩:=h;refine⟨?_,h2,h3,fun y hy z=>?_,fun y hy z=>?_,fun y hy z=>?_,fun i x j e1 e2=>?_⟩
 .unfold yS at h1;split at h1
  .assumption
  .cases h1
 .have:=h4 y hy;obtain⟨n,k⟩:=y;obtain rfl:k=.cell:=z;dsimp only[nW] at this |-;split at this
  .assumption
  .cases this
 .have:=h4 y hy;obtain⟨n,k⟩:=y;obtain rfl:k=.local:=z;dsimp only[nW] at this |-;split at this
  .assumption
  .cases this
 .have:=h4 y hy;obtain⟨n,k⟩:=y;obtain rfl:k=.free:=z;dsimp only[nW] at this |-;split at this
  .exact .inl (by assumption)
  .exact .inr (by assumption)
  .cases this
 .have hi:i<NB.length:=(cH.mp e1).1;have:=h5 i (cR.mpr hi);unfold CP at this;rw[e1,e2] at this;simp only[e_,fD] at this;refine⟨this.1,?_⟩;have t2:=this.2;split at t2
  .assumption
  .cases t2
theorem gz{K:PySem.W.Frag}{a D:Addr}{xs:List V}{g:TG}{tt:TT}{te:TE}{dN:Hp->Prop}{σB:St}{H0:Hp}(Pv:Nat->List V->St->Hp->Prop)(h0:Pv 0 [] σB H0)(hl:∀i ys σ H,i<=xs.length->Pv i ys σ H->bn K H a xs)(hs:∀i x ys σ H (Kt:V->St->Hp->Prop) (Kf:St->Hp->Prop),xs[i]?=some x->Pv i ys σ H->
   (∀v σ2 H4,H4 D=some (.lst ys)->ys.length<sizeLine->Pv (i+1) (ys++[v]) σ2 (upd H4 D (.lst (ys++[v])))->Kt v σ2 H4)->(∀σ2 H3,Pv (i+1) ys σ2 H3->Kf σ2 H3)->
   g x σ H fun σ2 H2=>tt σ2 H2 fun b H3=>if b=true then te σ2 H3 fun v H4=>Kt v σ2 H4 else Kf σ2 H3)(hd:∀ys σ H,Pv xs.length ys σ H->dN H):jD (E2 K a) g tt te D dN σB H0:=by
 refine⟨fun i m σ H=>m=xs.length-i/\i<=xs.length/\∃ys,Pv i ys σ H,⟨xs.length,by simp,cS _,[],h0⟩,?_⟩;rintro i m σ H ⟨rfl,hi,ys,p⟩;have q:=hl i ys σ H hi p;by_cases eS:i<xs.length
 .refine .inr ⟨⟨xs,xs[i],q,by simp[eS]⟩,?_⟩;rintro x H' ⟨rfl,y⟩;exact hs i x ys σ _ (fun v σ2 H4=>∃ys,H4 D=some (.lst ys)/\ys.length<sizeLine/\∃m',m'<xs.length-i/\m'=xs.length-(i+1)/\i+1<=xs.length/\∃u8,Pv (i+1) u8 σ2 (upd H4 D (.lst (ys++[v]))))
   (fun σ2 H3=>∃m',m'<xs.length-i/\m'=xs.length-(i+1)/\i+1<=xs.length/\∃u8,Pv (i+1) u8 σ2 H3) (y xs q) p
   (fun v σ2 H4 z1 z2 z3=>⟨ys,z1,z2,_,by lia,rfl,eS,_,z3⟩) (fun σ2 H3 z=>⟨_,by lia,rfl,eS,_,z⟩)
 .have e:i=xs.length:=by lia
  subst e;exact .inl ⟨⟨xs,q,aN _⟩,hd ys σ H p⟩
theorem eD{lo:Int}{n:Nat}{D:Addr}{g:TG}{tt:TT}{te:TE}{dN:Hp->Prop}{σB:St}{H0:Hp}(Pv:Nat->List V->St->Hp->Prop)(h0:Pv 0 [] σB H0)(hs:∀i ys σ H (Kt:V->St->Hp->Prop) (Kf:St->Hp->Prop),i<n->Pv i ys σ H->
   (∀v σ2 H4,H4 D=some (.lst ys)->ys.length<sizeLine->Pv (i+1) (ys++[v]) σ2 (upd H4 D (.lst (ys++[v])))->Kt v σ2 H4)->(∀σ2 H3,Pv (i+1) ys σ2 H3->Kf σ2 H3)->
   g (.int (lo+i)) σ H fun σ2 H2=>tt σ2 H2 fun b H3=>if b=true then te σ2 H3 fun v H4=>Kt v σ2 H4 else Kf σ2 H3)(hd:∀ys σ H,Pv n ys σ H->dN H):jD (BJ lo n) g tt te D dN σB H0:=by
 refine⟨fun i m σ H=>m=n-i/\i<=n/\∃ys,Pv i ys σ H,⟨n,by simp,cS _,[],h0⟩,?_⟩;rintro i m σ H ⟨rfl,hi,ys,p⟩;by_cases eS:i<n
 .refine .inr ⟨eS,?_⟩;rintro x H' ⟨rfl,rfl⟩;exact hs i ys σ _ (fun v σ2 H4=>∃ys,H4 D=some (.lst ys)/\ys.length<sizeLine/\∃m',m'<n-i/\m'=n-(i+1)/\i+1<=n/\∃u8,Pv (i+1) u8 σ2 (upd H4 D (.lst (ys++[v]))))
   (fun σ2 H3=>∃m',m'<n-i/\m'=n-(i+1)/\i+1<=n/\∃u8,Pv (i+1) u8 σ2 H3) eS p
   (fun v σ2 H4 z1 z2 z3=>⟨ys,z1,z2,_,by lia,rfl,eS,_,z3⟩) (fun σ2 H3 z=>⟨_,by lia,rfl,eS,_,z⟩)
 .have e:i=n:=by lia
  subst e;exact .inl ⟨aN _,hd ys σ H p⟩
section
variable {κ:Type} [DecidableEq κ]
end
section
variable {P:Program} {w:World} {H:Hp} {h:Heap} {a:Addr}
end
section
variable {X:Cx} {ae:List (Addr×Obj)} {σ:St} {H:Hp} {s:Shared} {a:Addr} {y v:V} {u r:Value} {o:Option V} {A:Around} {E:Value->Shared->Prop}
end
section
variable {X:Cx} {ae:List (Addr×Obj)} {σ:St} {H:Hp} {s:Shared} {a:Addr} {kG:List (pO×V)} {k:pO} {u:Value} {A:Around} {E:Value->Shared->Prop}
end
section
variable {X:Cx} {o i e value:Expr} {pos zF Ma:Pos} {td ty tv:TE}
end
section
variable {X:Cx} {pos:Pos}
end
section
variable {X:Cx} {ae:List (Addr×Obj)} {σ:St} {H:Hp} {s:Shared} {a:Addr} {y d:V} {u r:Value} {o:Option V} {A:Around} {E:Value->Shared->Prop}
end
section
variable {X:Cx} {o e f:Expr} {m7 m9:Pos} {td ty tx:TE}
end
section
variable {X:Cx} {ae:List (Addr×Obj)} {σ:St} {H:Hp} {s:Shared} {a:Addr} {kG:List (pO×V)} {A:Around} {E:Value->Shared->Prop}
end
section
variable {X:Cx} {ae:List (Addr×Obj)} {σ:St} {H:Hp} {s:Shared} {a:Addr} {y:V} {u:Value} {A:Around} {E:Value->Shared->Prop}
end
section
variable {X:Cx}
end
section
variable {κ:Type} [DecidableEq κ]
end
section
variable {X:Cx}
theorem o3:∀ {xs:List V} {its:List Value},aP xs its->xs.all ee=true->its.countP (sG x)=xs.countP (fun z=>ut z x)
 |[],_,.nil,_=>rfl
 |y::xs,_,.cons (b:=u) r rr,f=>by
  have fy:ee y=true:=by rw[oF,e_] at f;exact f.1
  have fx:xs.all ee=true:=by rw[oF,e_] at f;exact f.2
  have h1:[u].any (sG x)=[y].any (fun z=>ut z x):=jo (.cons r .nil) (by simp[fy]);have h2:sG x u=ut y x:=by simpa using h1
  rw[oA,oA,o3 rr fx,h2]
def Jm:V->List V->Hp->VK->Prop:=fun x vs H Q=>∃ (l:Addr) (xs:List V) (y:V),x=.ref l/\vs=[y]/\H l=some (.lst xs)/\ee y=true/\xs.all ee=true/\Q (.int (xs.countP fun z=>ut z y)) H
theorem CU:Vb X "list.count" Jm:=by
 intro ae s σ H x vs v us Q I rx rv h;obtain⟨l,xs,y,rfl,rfl,hH,fy,fs,q⟩:=h;cases rx;obtain⟨u,rfl,ru⟩:=rv.one;obtain⟨z,its,n,r,hl,e⟩:=I.Fb hH;refine call_meets F.slot_list_count ⟨_,e,rfl⟩ F.entry_list_count (F.args_list_count_2 _ _) (SeqAt.list_countAt l its.toArray n none #[] u (sG y)) ⟨e,fun w hw=>gv ru fy r fs w (by simpa using hw),?_⟩;refine⟨.int _,H,I.tok _,⟨s.toks,?_⟩,q⟩;rw[show its.toArray.toList=its by simp,o3 r fs]
end
theorem aD.Fy(I:aD X ae σ H s)(fe:fN X ae H e)(fi:fN X ae H it)(k:∀b o,b≠e->b≠it->s.heap.get? b=some o->h'.get? b=some o)(ke:∃o,h'.get? e=some o)(ki:∃o,h'.get? it=some o)(hp:s.heap.objs.size<=p)(hl:xs.length<=sizeLine)(r:aP xs its)(ht:h'.get? p=some { cls:=.type "tuple",data:=.seq its.toArray }):aD X ae σ (upd H p (.tup xs)) { s with heap:=h',toks:=t' }:=by
 have hn:=I.br.fresh hp;obtain⟨e0,e1,e2,e3,e4,e5⟩:=fe;obtain⟨i0,i1,i2,i3,i4,i5⟩:=fi;have ne:∀b o,s.heap.get? b=some o->b≠p:=fun b o q=>aY (cG (aU q) hp);have yT:∀b o,H b=some o->b≠e/\b≠it:=fun b o q=>⟨(fun z=>by rw[z,e0] at q;cases q),(fun z=>by rw[z,i0] at q;cases q)⟩
 refine I.step (g':=s.gens) (d':=s.drawn) (ch:=[e,it]) (fun b hb=>?_) (fun b o _ _ hb q _=>?_) (fun b o _ _ hb q _=>⟨o.slots,?_⟩) (fun b o hb q n=>by rw[ao (ne b o q)];exact n) (fun b o hb q=>⟨o,?_⟩)
  (fun b ys q=>by rw[ao (aq q hn)];exact q) (fun b o u q=>by rw[ao (aq q hn)];exact q) (fun b ps q=>⟨#[],by rw[ao (aq q hn),q];simp⟩) (fun m hm=>?_) (fun b o q=>?_) I.bare
 .rcases bo.mp hb with rfl|hb
  .exact⟨e3,e1,e4,e5⟩
  .rw[cJ.mp hb];exact⟨i3,i1,i4,i5⟩
 .exact k b o (fun z=>hb (z ▸ bC)) (fun z=>hb (z ▸ bz _ bC)) q
 .exact k b o (fun z=>hb (z ▸ bC)) (fun z=>hb (z ▸ bz _ bC)) q
 .exact k b o (fun z=>hb (z ▸ bC)) (fun z=>hb (z ▸ bz _ bC)) q
 .obtain⟨o,es,ep,q,d,r'⟩:=hm;exact⟨o,es,ep,k _ _ e1.symm i1.symm q,d,r'⟩
 .by_cases hb:b=p
  .subst hb;rw[ah] at q;cases q;exact⟨hl,its,r,_,ht,rfl,_,rfl,rfl⟩
  .rw[ao hb] at q;refine(I.br b o q).m5 (fun c u hc z=>k c u ?_ ?_ z) (fun c z=>by rw[ao (aq z hn)];exact z) fun c ys z=>by rw[ao (aq z hn)];exact z
   .rcases hc with rfl|hc
    .exact(yT _ _ q).1
    .exact(yT _ _ hc).1
   .rcases hc with rfl|hc
    .exact(yT _ _ q).2
    .exact(yT _ _ hc).2
section
variable {X:Cx}
end
section
variable {prog:Program} {w:World} {A:Around} {E:Value->Shared->Prop} {s:Shared}
theorem xF(pJ:s.heap.IsTupleIter it t i)(ht:s.heap.IsTuple t xs)(hx:xs[i]?=some x)(q:∀h',h'.IsTupleIter it t (i+1)->Heap.SameBut it s.heap h'->Q x { s with heap:=h' }):wpAny (model prog w) A (Builtin.SmallTypes.nextOf (.ref it)) Q E s:=by
 obtain⟨o,h1,h2,h3⟩:=id pJ;obtain⟨p,k1,_,n,k3⟩:=ht;unfold Builtin.SmallTypes.nextOf;refine ap (lz (name:=Str.ofString "__next__") pJ.typeIs F.slot_tuple_iterator_next (iH F.slot_tuple_iterator_next pJ.typeIs F.entry_tuple_iterator_next ?_ (F.args_tuple_iterator_next_1 _)));change wpAny _ _ (field (.ref it) 0 >>= _) _ _ s;refine ap (ff h1 h3 (x:=.ref t) rfl ?_);change wpAny _ _ (if (Value.ref t==Value.none)=true then _ else _) _ _ s;rw[al (by exact bH)];change wpAny _ _ (field (.ref it) 1 >>= _) _ _ s;refine ap (ff h1 h3 (x:=.int i 0) rfl ?_);change wpAny _ _ (seqItems? (.ref t) >>= _) _ _ s;refine ap (jW k1 k3 ?_);simp only[wC,hx];refine ap (oG h1 h3 (by simp) (wpAny_pure ⟨x,rfl,wpAny_pure (q _ ?_ (rF ..))⟩));refine⟨_,ot _ h1 (wr (oz h3 _)),(wL ..).trans h2,?_⟩;rw[oz h3];simp[rawInt]
theorem qD(hh:A.handled=none)(pJ:s.heap.IsTupleIter it t i)(ht:s.heap.IsTuple t xs)(hx:xs[i]?=none)(q:∀h' e,Heap.ExtBut it s.heap h'->(∃o,h'.get? e=some o/\o.cls=.type "StopIteration")->E (.ref e) { s with heap:=h' }):wpAny (model prog w) A (Builtin.SmallTypes.nextOf (.ref it)) Q E s:=by
 obtain⟨o,h1,h2,h3⟩:=id pJ;obtain⟨p,k1,_,n,k3⟩:=ht;unfold Builtin.SmallTypes.nextOf;refine ap (lz (name:=Str.ofString "__next__") pJ.typeIs F.slot_tuple_iterator_next (iH F.slot_tuple_iterator_next pJ.typeIs F.entry_tuple_iterator_next ?_ (F.args_tuple_iterator_next_1 _)));change wpAny _ _ (field (.ref it) 0 >>= _) _ _ s;refine ap (ff h1 h3 (x:=.ref t) rfl ?_);change wpAny _ _ (if (Value.ref t==Value.none)=true then _ else _) _ _ s;rw[al (by exact bH)];change wpAny _ _ (field (.ref it) 1 >>= _) _ _ s;refine ap (ff h1 h3 (x:=.int i 0) rfl ?_);change wpAny _ _ (seqItems? (.ref t) >>= _) _ _ s;refine ap (jW k1 k3 ?_);simp only[wC,hx];refine ap (et (ap (oG h1 h3 (by simp) ?stop)));case stop=>
  change wpAny _ _ (newExc (.type "StopIteration") [] >>= _) _ _ _;refine ap ?_;simp only[newExc,newTuple];refine ap (ic (ap (m:=firstArgMember _ _) (oJ (a:=Value.none) (by simp only[firstArgMember];rfl) (ic ?_ (by size_fits)))) (by size_fits));simp only[raiseNew];refine ap (wpAny_handled ?_);rw[show A.in1.handled=none from hh];exact ap (wpAny_pure (wpAny_throw (q _ _ (fun b u hb z=>cf _ (cf _ ((oq _ _ (cW hb)).trans z))) ⟨_,cI _ rfl,rfl⟩)))
theorem u9(hh:A.handled=none)(it t:Addr)(iw:t≠it)(xs:Array Value):Draws prog w A it [it,t] xs.size (fun i v=>xs[i]?=some v) (fun i h=>h.IsTupleIter it t i/\h.IsTuple t xs) where
 live:=fun _ _ st=>let ⟨o,ho,_⟩:=st.1;⟨o,ho⟩
 frame:=fun _ _ _ st hk=>⟨st.1.at fun o e=>hk it (by simp) o e,let ⟨o,e,r⟩:=st.2;⟨o,hk t (by simp) o e,r⟩⟩
 item:=fun i s Q E hi st q=>by
  refine xF st.1 st.2 (x:=xs[i]) (by simp[hi]) fun h' a b=>?_;obtain⟨o,e,r⟩:=st.2;exact q _ h' s.toks (by simp[hi]) ⟨a,o,(b.2 t iw).trans e,r⟩ b
 done:=fun s Q E st q=>qD hh st.1 st.2 (by simp) q
end
theorem Ac(t:Addr)(xs:Array Value):
  Meets (Builtin.«enumerate.__new__» ⟨[.type "enumerate",.ref t],[]⟩) (fun _ R s=>s.heap.IsTuple t xs/\
   R (.ok (.ret (.ref (s.heap.push { cls:=.type "tuple_iterator",data:=.fields #[.ref t,.int 0 0] }).objs.size)))
    { s with heap:=(s.heap.push { cls:=.type "tuple_iterator",data:=.fields #[.ref t,.int 0 0] }).push { cls:=.type "enumerate",data:=.fields #[.none,.bool false,.ref s.heap.objs.size,rawInt 0,.none,.none] } }):=
 .of_wp fun prog w A R s h=>by
  obtain⟨hp,g,d,tk,os⟩:=s;obtain⟨hT,h⟩:=h;have hs:=sub_enumerate
  wp_walk
  refine wpAny_stack_any fun st=>wpAny_pure ?_;split
  .rename_i c _ _ _ _ _;cases (c==Value.type "enumerate") <;> (wp_walk using wJ hT;exact⟨_,rfl,h⟩)
  .wp_walk using wJ hT
   exact⟨_,rfl,h⟩
theorem xG(ht:s.heap.IsTuple t xs)(h:∀h',IsEnum h' (s.heap.objs.size+1) s.heap.objs.size 0 .none->h'.IsTupleIter s.heap.objs.size t 0->(∀b o,s.heap.get? b=some o->h'.get? b=some o)->Q (.ref (s.heap.objs.size+1)) { s with heap:=h' }):
  wpAny (model prog w) A (call (.type "enumerate") [.ref t]) Q E s:=by
 refine callType_new F.called_enumerate (by decide) (F.typeCall_enumerate_1 _) (F.newCall_enumerate_1 _) (fun obj=>F.args_object_init_2 obj _) F.entry_enumerate_new (Ac t xs) ⟨ht,?_⟩;have hz:(s.heap.push { cls:=.type "tuple_iterator",data:=.fields #[.ref t,.int 0 0] }).objs.size=s.heap.objs.size+1:=gI ..;have he:IsEnum ((s.heap.push { cls:=.type "tuple_iterator",data:=.fields #[.ref t,.int 0 0] }).push
   { cls:=.type "enumerate",data:=.fields #[.none,.bool false,.ref s.heap.objs.size,rawInt 0,.none,.none] }) (s.heap.objs.size+1) s.heap.objs.size 0 .none:=by
  have q:=cI (s.heap.push { cls:=.type "tuple_iterator",data:=.fields #[.ref t,.int 0 0] }) (o:={ cls:=.type "enumerate",data:=.fields #[.none,.bool false,.ref s.heap.objs.size,rawInt 0,.none,.none] }) rfl;rw[hz] at q;exact q
 show _/\_;rw[hz];exact⟨⟨_,he,rfl⟩,h _ he ⟨_,cf _ (cI _ rfl),rfl,rfl⟩ fun b o x=>cf _ (cf _ x)⟩
def CV(K:PySem.W.Frag)(a:Addr):It:=
 ⟨fun i H=>∃xs x,bK K H a xs/\xs[i]?=some x,fun i H x H'=>∃p v,x=.ref p/\H p=none/\H'=upd H p (.tup [.int i,v])/\∀xs,bK K H a xs->xs[i]?=some v,fun i H=>∃xs,bK K H a xs/\xs.length<=i,fun _ _=>False⟩
theorem xH{P:Program}{w:World}{K:PySem.W.Frag}{es:List Expr}{x1:Nat}{pos:Pos}(a e it:Addr)(iw:e≠it)(XS:a≠e)(XT:a≠it):
  wU P w K (.Tuple es x1 pos) (CV K a) [e,it] e (fun i h=>(∃jw,IsEnum h e it (i:Int) jw)/\h.IsTupleIter it a i) where
 mem:=by simp
 obj:=fun i h st b hb=>by
  obtain⟨⟨jw,he⟩,⟨o,q,c,d⟩⟩:=st;rcases bo.mp hb with rfl|hb
  .exact⟨_,he,fun v z=>by
    have z':Data.fields _=Data.cell v:=z;cases z'⟩
  .rw[cJ.mp hb];exact⟨o,q,fun v z=>by rw[d] at z;cases z⟩
 keep:=fun i h h' st k=>by
  obtain⟨⟨jw,he⟩,hi⟩:=st;exact⟨⟨jw,k e (by simp) _ he⟩,hi.at fun o q=>k it (by simp) o q⟩
 item:=by
  intro X hP hw hK i ae s σ H E BK I hf st hg;subst hP hw hK;have hc:X.calm=true:=BK.elim id fun z=>(show False from z).elim;obtain⟨xs,x,hq,hx⟩:=hg;obtain⟨its,rv,p,hz⟩:=I.tuple hq;obtain⟨u,hu,ru⟩:=rv.get hx;obtain⟨⟨jw,he⟩,hi⟩:=st;have eS:i<its.toArray.size:=by
   have:=(cH.mp hu).1;simpa using this
  have D:=u9 (prog:=X.prog) (w:=X.w) (A:=X.A.in1) (I.ok.hd hc) it a XT its.toArray;refine wpAny_pyNext_enum_itemD D he ⟨hi,p⟩ eS iw (by simp[iw,XS.symm]) fun u' h' tk vO ho fh ht j9 k=>?_;have eu:u'=u:=by
   have h1:its.toArray[i]?=some u:=by simpa using hu
   rw[h1] at vO;exact(bi vO).symm
  subst eu;refine⟨_,rfl,wpAny_letOwnedTupleGo_enum ho fun h2 VF vL=>?_⟩;have VG:s.heap.objs.size≠e:=jX (aU he);have A1:h2.IsTupleIter it a (i+1):=fh.1.at fun o q=>(vL.2 it iw.symm).trans q;have fe:=hf e (by simp);have fi:=hf it (by simp);have I2:aD X ae σ (upd H s.heap.objs.size (.tup [.int i,x])) { s with heap:=h2,toks:=tk+1 }:=by
   refine I.Fy (its:=[.int i tk,u']) fe fi (fun b o h1 h3 q=>(vL.2 b h1).trans (k b o h1 h3 q)) ⟨_,VF⟩ ?_ (aN _) (by show 2<=sizeLine;decide) (.cons ⟨_,rfl⟩ (.cons ru .nil)) ((vL.2 _ VG).trans ht);obtain⟨o,q,_⟩:=A1;exact⟨o,q⟩
  refine⟨.ref s.heap.objs.size,_,I2,rfl,⟨_,x,rfl,I.br.fresh (aN _),rfl,fun ys hy=>by rw[I.qh hy hq];exact hx⟩,⟨⟨u',VF⟩,A1⟩,fun b hb=>?_⟩;have f0:=(hf b hb).1;rw[ao]
  .exact f0
  .rcases bo.mp hb with rfl|hb
   .exact VG.symm
   .rw[cJ.mp hb];obtain⟨o,q,_⟩:=hi;exact aY (aU q)
 done:=by
  intro X hP hw hK i ae s σ H E BK I hf st hg;subst hP hw hK;have hc:X.calm=true:=BK.elim id fun z=>(show False from z).elim;obtain⟨xs,hq,hx⟩:=hg;obtain⟨its,rv,p,hz⟩:=I.tuple hq;obtain⟨f0,f1,f2,f3,f4,f5⟩:=hf it (by simp);obtain⟨⟨jw,he⟩,hi⟩:=st;have hl:=rv.length;unfold pyNext;have hT:s.TypeIs (.ref e) "enumerate":=⟨_,he,rfl⟩
  refine ap (wpAny_attempt (lz (name:=Str.ofString "__next__") hT F.slot_enumerate_next (iH F.slot_enumerate_next hT F.entry_enumerate_next ?_ (F.args_enumerate_next_1 _))));change wpAny _ _ (field (.ref e) 2 >>= _) _ _ _;refine ap (ff he rfl (x:=.ref it) rfl (ap (qD (I.ok.hd hc) hi p (by simp;lia) fun h' x eb si=>?_)));obtain⟨o,ho,EM⟩:=si;exact ap (wQ (T:="StopIteration") (b:=true) ⟨o,ho,EM⟩ isSubtype_stop (wpAny_pure ⟨rfl,I.turned (t':=s.toks) (fun b o hb e=>eb b o hb e) f0 f1 f3 f4 f5⟩))
 self:=fun _ _ _ _ _ st h=>by
  obtain⟨⟨jw,he⟩,_⟩:=st;exact wpAny_pyIter_enum he h
section
variable {X:Cx}
def Jn(K:PySem.W.Frag)(ta:TA):TI:=fun σ H R=>ta σ H fun vs H1=>∃a xs,vs=[.ref a]/\bK K H1 a xs/\R (CV K a) H1
theorem u_(hg:Gl X "enumerate")(hm:X.mg "enumerate"=none)(ha:PA X [a] ta)(hs:starEach [a] X.env=[(false,eval a X.env)]:=by rfl):
  PI X (.Tuple es x1 Ma) (.Call (.Name "enumerate" p) [a] [] pos) (Jn X.K ta):=by
 intro ae s σ H R I h;refine Call_ (lQ I hg hm (by decide +kernel:bootBuiltins "enumerate"=some (.type "enumerate")) (vU (bZ (ha pos ae s σ H _ I h) fun us s1 ⟨vs,H1,I1,r1,q1⟩=>?_) hs rfl));obtain⟨l,xs,rfl,hl,q⟩:=q1;obtain⟨u1,rfl,XU⟩:=r1.one;obtain rfl:u1=Value.ref l:=XU;obtain⟨its,rv,pt,hz⟩:=I1.tuple hl;have eS:l<s1.heap.objs.size:=by obtain⟨o,e,_⟩:=pt;exact aU e
 refine xG (show s1.heap.IsTuple l its.toArray from pt) fun h' he hi k=>?_;have iw:s1.heap.objs.size+1≠s1.heap.objs.size:=Nat.succ_ne_self _;refine wpAny_pyIter_enum he ?_;have I2:aD X ae σ H1 { s1 with heap:=h' }:=I1.kept (t':=s1.toks) k;refine⟨s1.heap.objs.size+1,[s1.heap.objs.size+1,s1.heap.objs.size],_,_,H1,rfl,I2,xH l _ _ iw (aY (dB eS)) (aY eS),⟨⟨_,he⟩,hi⟩,fun b hb=>?_,q⟩;have yF:s1.heap.objs.size<=b:=by
  rcases bo.mp hb with rfl|hb
  .exact Nat.le_succ _
  .rw[cJ.mp hb];exact aN _
 exact I1.wT yF (I1.br.fresh yF)
theorem qE{K:PySem.W.Frag}{a:Addr}{xs:List V}{g:TG}{tb:TS}{D:uz}{σ:St}{H:Hp}(Pv:Nat->St->Hp->Prop)(h0:Pv 0 σ H)(hl:∀i σ H,i<=xs.length->Pv i σ H->bK K H a xs)(hs:∀i x p σ H,xs[i]?=some x->Pv i σ H->H p=none->g (.ref p) σ (upd H p (.tup [.int i,x])) fun σ2 H2=>tb { D with nx:=Pv (i+1),ct:=Pv (i+1),bk:=D.nx } σ2 H2)(hd:∀σ H,Pv xs.length σ H->D.nx σ H):
  ∃W:Nat->Nat->St->Hp->Prop,(∃m,W 0 m σ H)/\∀i m σ H,W i m σ H->
   ((CV K a).stop i H/\D.nx σ H)\/((CV K a).go i H/\∃N:St->Hp->Prop,(∀σ' H',N σ' H'->∃m',m'<m/\W (i+1) m' σ' H')/\∀x H',(CV K a).Hi i H x H'->g x σ H' fun σ2 H2=>tb { D with nx:=N,ct:=N,bk:=D.nx } σ2 H2):=by
 refine⟨fun i m σ H=>m=xs.length-i/\i<=xs.length/\Pv i σ H,⟨xs.length,by simp,cS _,h0⟩,?_⟩;rintro i m σ H ⟨rfl,hi,p⟩;have q:=hl i σ H hi p;by_cases eS:i<xs.length
 .refine .inr ⟨⟨xs,xs[i],q,by simp[eS]⟩,Pv (i+1),fun σ' H' p'=>⟨xs.length-(i+1),by lia,rfl,eS,p'⟩,fun x H' y=>?_⟩;obtain⟨pp,v,rfl,hn,rfl,hv⟩:=y;exact hs i v pp σ _ (hv xs q) p hn
 .have e:i=xs.length:=by lia
  subst e;exact .inl ⟨⟨xs,q,aN _⟩,hd σ H p⟩
end
section
variable {X:Cx} {tg:Expr}
end
section
variable {prog:Program} {w:World} {A:Around} {E:Value->Shared->Prop} {s:Shared} {R:Result->Shared->Prop} {l d Ia:Addr}
end
section
variable {prog:Program} {w:World} {A:Around} {E:Value->Shared->Prop} {s:Shared} {l:Addr}
end
section
variable {X:Cx}
end
structure bJ(P:Program)(w:World)(K:PySem.W.Frag)(mg:Str->Option Value)(base:Heap)(CX:nU)(k:Nat)(x:Str)(ps:List Str)(sp:Sp):Prop where
 ex:∃f fd,mg x=some (.ref f)/\PySem.W.keepIn K (.ref f)=true/\eL K fd ps []/\a9 P w K mg base CX k f fd ps sp
theorem az(C:bJ X.prog X.w X.K X.mg X.base CX k x ps sp)(hr:aZ k X.A)(hx:eU CX X E)(ha:PA X (e::es) t)(hg:Gl X x:=by rfl)(m8:(x==("__debug__":Str))=false:=by decide)(he:starEach (e::es) X.env=(false,eval e X.env)::starEach es X.env:=by rfl)(mG:(backTo pos (starEach es X.env)).any (·.1)=false:=by rfl):
  PE X (.Call (.Name x p) (e::es) [] pos) (kL sp [] E t):=by
 obtain⟨f,fd,a,b,c,d⟩:=C.ex;exact E_ d hr hg a b c .nil hx ha m8 he mG
theorem am(h:H D=none):av H (upd H D o):=fun b u e=>by rw[ao (aq e h)];exact e
def bG(p:Addr)(H H':Hp):Prop:=∀b o,H b=some o->b≠p->H' b=some o
theorem bG.trans(a:bG p H H1)(b:bG p H1 H2):bG p H H2:=fun c o h n=>b c o (a c o h n) n
theorem bG.upd:bG p H (upd H p o):=fun b u h n=>by rw[ao n];exact h
theorem bG.of(s:av H H'):bG p H H':=fun b o h _=>s b o h
theorem bG.free(s:bG p H H')(hp:H' p≠none)(h:H' q=none):H q=none:=by
 cases z:H q with
 |none=>rfl
 |some o=>
  by_cases e:q=p
  .subst e;exact absurd h hp
  .rw[s q o z e] at h;cases h
theorem nX(h:j<n):Ce n (j:Int)=some j:=by
 unfold Ce;rw[ak (by lia),ak (by lia)];simp
theorem Ae(h:as.length=n):(as++[t]).getD j 0=if j=n then t else as.getD j 0:=by
 rw[bU,bU];by_cases hj:j=n
 .subst hj;subst h;rw[ak rfl,qc (aN _),Nat.sub_self];rfl
 .rw[al hj];by_cases eS:j<as.length
  .rw[my eS]
  .rw[qc (by lia),oh (by simp;lia),oh (by lia)]
def Holds(H:Hp)(as:List Addr)(n:Nat)(o:Nat->HO):Prop:=as.length=n/\∀j,j<n->H (as.getD j 0)=some (o j)
theorem Holds.nil:Holds H [] 0 o:=⟨rfl,fun j hj=>absurd hj (by lia)⟩
theorem Holds.snoc(h:Holds H as n o)(ht:H t=some (o n)):Holds H (as++[t]) (n+1) o:=by
 refine⟨by rw[dP,h.1];rfl,fun j hj=>?_⟩;rw[Ae h.1];by_cases e:j=n
 .rw[ak e,e];exact ht
 .rw[al e];exact h.2 j (by lia)
theorem Holds.mono(h:Holds H as n o)(e:∀j,j<n->H (as.getD j 0)=some (o j)->H' (as.getD j 0)=some (o j)):Holds H' as n o:=⟨h.1,fun j hj=>e j hj (h.2 j hj)⟩
end L2
namespace PyProof.Rows
open PySem
def fX:Bool->Keyed->Array Keyed->Nat->Nat->Nat->StateT SortSt Sem (Option Nat):=sortPriv% PySem.Builtin.gallop
def o4:Array Keyed->Array Keyed->StateT SortSt Sem (Array Keyed):=sortPriv% PySem.Builtin.mergeLo
def o5:Array Keyed->Array Keyed->StateT SortSt Sem (Array Keyed):=sortPriv% PySem.Builtin.mergeHi
def gb:Nat->StateT SortSt Sem Unit:=sortPriv% PySem.Builtin.setMinGallop
def va(prog:Program)(w:World)(A:Around)(s:Shared)(κ:SortKind)(a₀:Array Keyed):Prop:=
 ∀x y,x∈a₀.toList->y∈a₀.toList->∀ (Q:Bool->Shared->Prop) (E:Value->Shared->Prop),(∀b,Q b s)->wpAny (model prog w) A (keyLt' κ x.1 y.1) Q E s
structure SQ(κ:SortKind)(a₀:Array Keyed)(pd:Array (Nat×Nat×Nat))(st:SortSt):Prop where
 perm:(arrOf st).Perm a₀
 kind:kindOf st=κ
 failed:failedOf st=none
 pend:pendingOf st=pd
section
variable {prog:Program} {w:World} {A:Around} {E:Value->Shared->Prop} {s:Shared} {κ:SortKind} {a₀:Array Keyed} {pd:Array (Nat×Nat×Nat)}
theorem SQ.size{st:SortSt}(h:SQ κ a₀ pd st):(arrOf st).size=a₀.size:=h.perm.size_eq
theorem SQ.setArr{st:SortSt}(h:SQ κ a₀ pd st){xs:Array Keyed}(hp:xs.Perm (arrOf st)):SQ κ a₀ pd (setArr st xs):=⟨hp.trans h.perm,h.kind,h.failed,h.pend⟩
theorem SQ.at{st:SortSt}(h:SQ κ a₀ pd st){i:Nat}(hi:i<a₀.size):∃p,(arrOf st)[i]?=some p/\p∈a₀.toList:=by
 have HG:i<(arrOf st).size:=by rw[h.size];exact hi
 exact⟨(arrOf st)[i],cL _ i HG,(ky.mp h.perm).mem_iff.mp (by simp)⟩
theorem o6{st:SortSt}{x y:Keyed}{Q:Option Bool->SortSt->Prop}(hC:va prog w A s κ a₀)(hk:kindOf st=κ)(hx:x∈a₀.toList)(hy:y∈a₀.toList)(h:∀b,Q (some b) st):wpS (model prog w) A E s (lt' x y) Q st:=by
 rw[lt'_eq];refine aF (fE ?_);rw[hk];refine aF (j4 (wpAny_attempt (hC x y hx hy _ _ fun b=>⟨rfl,?_⟩)));exact aJ (h b)
theorem be{st:SortSt}{arr:Array Keyed}{i:Nat}{p:Keyed}{Q:Keyed->SortSt->Prop}(hi:arr[i]?=some p)(h:Q p st):wpS (model prog w) A E s (elem' arr i) Q st:=by
 rw[elem'_eq,hi];exact aJ h
theorem dX{st:SortSt}{i j:Nat}{Q:Option Bool->SortSt->Prop}(hC:va prog w A s κ a₀)(hB:SQ κ a₀ pd st)(hi:i<a₀.size)(hj:j<a₀.size)(h:∀b,Q (some b) st):wpS (model prog w) A E s (ltAt' i j) Q st:=by
 obtain⟨p,e1,m1⟩:=hB.at hi;obtain⟨q,e2,m2⟩:=hB.at hj;rw[ltAt'_eq];refine aF (fE ?_);exact aF (be e1 (aF (be e2 (o6 hC hB.kind m1 m2 h))))
theorem fw{st:SortSt}{i j:Nat}{Q:Unit->SortSt->Prop}(hB:SQ κ a₀ pd st)(h:∀aV,SQ κ a₀ pd aV->Q () aV):wpS (model prog w) A E s (reverseSlice' i j) Q st:=by
 rw[reverseSlice'_eq];exact eR (h _ (hB.setArr (mirror_perm _ _ _ _)))
theorem CZ{st:SortSt}{i j:Nat}{Q:Unit->SortSt->Prop}(hB:SQ κ a₀ pd st)(h:∀aV,SQ κ a₀ pd aV->Q () aV):wpS (model prog w) A E s (moveDown' i j) Q st:=by
 rw[moveDown'_eq];exact eR (h _ (hB.setArr (bubble_perm _ _ _)))
theorem Fz{st:SortSt}{lo n ok:Nat}{Q:Bool->SortSt->Prop}(hC:va prog w A s κ a₀)(hn:lo+n<=a₀.size)(hB:SQ κ a₀ pd st)(h:∀aV,SQ κ a₀ pd aV->Q true aV):wpS (model prog w) A E s (binarySort' lo n ok) Q st:=by
 rw[binarySort'_eq];refine aF (cT (d9 (I:=fun _ c aV=>c=(none,())/\SQ κ a₀ pd aV) (Q:=fun c aV=>c=(none,())/\SQ κ a₀ pd aV) ?_ (fun c aV hh=>hh) ⟨rfl,hB⟩) ?_)
 .rintro k c aV Z9 XV ⟨rfl,Rz⟩;dsimp only;refine aF (cT (d9 (I:=fun _ c Jo=>(∃l r,c=(none,l,r)/\r<=k)/\SQ κ a₀ pd Jo) (Q:=fun c Jo=>(∃l r,c=(none,l,r)/\r<=k)/\SQ κ a₀ pd Jo) ?_ (fun c aV hh=>hh) ⟨⟨_,_,rfl,aN _⟩,Rz⟩) ?_)
  .rintro x c qi _ _ ⟨⟨l,r,rfl,hr⟩,pW⟩;dsimp only;by_cases yU:l>=r
   .rw[ak yU];exact aJ ⟨⟨_,_,rfl,hr⟩,pW⟩
   .rw[al yU];refine aF (dX hC pW (by lia) (by lia) fun b=>?_);cases b
    .exact aJ ⟨⟨_,_,rfl,hr⟩,pW⟩
    .exact aJ ⟨⟨_,_,rfl,by lia⟩,pW⟩
  .rintro c qi ⟨⟨l,r,rfl,hr⟩,pW⟩;dsimp only;exact aF (CZ pW fun wY ng=>aJ ⟨rfl,ng⟩)
 .rintro c aV ⟨rfl,Rz⟩;exact aJ (h aV Rz)
end
theorem xI(left:Bool)(key:Keyed)(arr:Array Keyed)(base n kh:Nat):fX left key arr base n kh=(do
 let sZ (i:Nat):StateT SortSt Sem (Option Bool):=do
  let x <- elem' arr (base+i)
  if left then lt' x key else return (<-lt' key x).map (!·)
 let mut lastofs:=0
 let mut ofs:=1
 let mut lo:=0
 let mut hi:=0
 let some right <- sZ kh|return none
 if right then
  let o7:=n-kh
  for _ in [0:n] do
   if ofs>=o7 then break
   let some more <- sZ (kh+ofs)|return none
   if !more then break
   lastofs:=ofs
   ofs:=2*ofs+1
  lo:=kh+lastofs+1
  hi:=kh+min ofs o7
 else
  let o7:=kh+1
  for _ in [0:n] do
   if ofs>=o7 then break
   let some C0 <- sZ (kh-ofs)|return none
   if C0 then break
   lastofs:=ofs
   ofs:=2*ofs+1
  lo:=kh+1-min ofs o7
  hi:=kh-lastofs
 for _ in [0:n] do
  if lo>=hi then break
  let m:=lo+(hi-lo) / 2
  let some more <- sZ m|return none
  if more then lo:=m+1 else hi:=m
 return some hi):=rfl
section
variable {prog:Program} {w:World} {A:Around} {E:Value->Shared->Prop} {s:Shared} {κ:SortKind} {a₀:Array Keyed} {pd:Array (Nat×Nat×Nat)}
theorem fG{st:SortSt}{left:Bool}{key:Keyed}{arr:Array Keyed}{j:Nat}{Q:Option Bool->SortSt->Prop}(hC:va prog w A s κ a₀)(hk:kindOf st=κ)(pS:key∈a₀.toList)(nj:∀x∈arr.toList,x∈a₀.toList)(hj:j<arr.size)(h:∀b,Q (some b) st):
  wpS (model prog w) A E s (do
  let x <- elem' arr j
  if left then lt' x key else return (<-lt' key x).map (!·)) Q st:=by
 have hm:arr[j]∈a₀.toList:=nj _ (by simp);refine aF (be (cL arr j hj) ?_);cases left
 .rw[al (by decide)];exact aF (o6 hC hk pS hm fun b=>aJ (h (!b)))
 .rw[ak rfl];exact o6 hC hk hm pS h
theorem eE{st:SortSt}{left:Bool}{key:Keyed}{arr:Array Keyed}{base n kh:Nat}{Q:Option Nat->SortSt->Prop}(hC:va prog w A s κ a₀)(hk:kindOf st=κ)(pS:key∈a₀.toList)(nj:∀x∈arr.toList,x∈a₀.toList)(hn:base+n<=arr.size)(hh:kh<n)(h:∀k,k<=n->Q (some k) st):wpS (model prog w) A E s (fX left key arr base n kh) Q st:=by
 rw[xI];refine aF (fG hC hk pS nj (by lia) fun right=>?_);cases right
 .dsimp only;rw[al (by decide)];refine aF (cT (d9 (I:=fun _ c aV=>(∃l o,c=(none,l,o))/\st=aV) (Q:=fun c aV=>(∃l o,c=(none,l,o))/\st=aV) ?_ (fun c aV hh=>hh) ⟨⟨_,_,rfl⟩,rfl⟩) ?_)
  .rintro x c aV _ _ ⟨⟨l,o,rfl⟩,rfl⟩;dsimp only;by_cases yU:o>=kh+1
   .rw[ak yU];exact aJ ⟨⟨_,_,rfl⟩,rfl⟩
   .rw[al yU];refine aF (fG hC hk pS nj (by lia) fun C0=>?_);cases C0
    .exact aJ ⟨⟨_,_,rfl⟩,rfl⟩
    .exact aJ ⟨⟨_,_,rfl⟩,rfl⟩
  .rintro c aV ⟨⟨l,o,rfl⟩,rfl⟩;dsimp only;refine aF (cT (d9 (I:=fun _ c aV=>(∃l u,c=(none,l,u)/\u<=n)/\st=aV) (Q:=fun c aV=>(∃l u,c=(none,l,u)/\u<=n)/\st=aV) ?_ (fun c aV hh=>hh) ⟨⟨_,_,rfl,by lia⟩,rfl⟩) ?_)
   .rintro x c aV _ _ ⟨⟨l,u,rfl,hu⟩,rfl⟩;dsimp only;by_cases yU:l>=u
    .rw[ak yU];exact aJ ⟨⟨_,_,rfl,hu⟩,rfl⟩
    .rw[al yU];refine aF (fG hC hk pS nj (by lia) fun more=>?_);cases more
     .exact aJ ⟨⟨_,_,rfl,by lia⟩,rfl⟩
     .exact aJ ⟨⟨_,_,rfl,hu⟩,rfl⟩
   .rintro c aV ⟨⟨l,u,rfl,hu⟩,rfl⟩;exact aJ (h u hu)
 .dsimp only;rw[ak rfl];refine aF (cT (d9 (I:=fun _ c aV=>(∃l o,c=(none,l,o))/\st=aV) (Q:=fun c aV=>(∃l o,c=(none,l,o))/\st=aV) ?_ (fun c aV hh=>hh) ⟨⟨_,_,rfl⟩,rfl⟩) ?_)
  .rintro x c aV _ _ ⟨⟨l,o,rfl⟩,rfl⟩;dsimp only;by_cases yU:o>=n-kh
   .rw[ak yU];exact aJ ⟨⟨_,_,rfl⟩,rfl⟩
   .rw[al yU];refine aF (fG hC hk pS nj (by lia) fun more=>?_);cases more
    .exact aJ ⟨⟨_,_,rfl⟩,rfl⟩
    .exact aJ ⟨⟨_,_,rfl⟩,rfl⟩
  .rintro c aV ⟨⟨l,o,rfl⟩,rfl⟩;dsimp only;refine aF (cT (d9 (I:=fun _ c aV=>(∃l u,c=(none,l,u)/\u<=n)/\st=aV) (Q:=fun c aV=>(∃l u,c=(none,l,u)/\u<=n)/\st=aV) ?_ (fun c aV hh=>hh) ⟨⟨_,_,rfl,by lia⟩,rfl⟩) ?_)
   .rintro x c aV _ _ ⟨⟨l,u,rfl,hu⟩,rfl⟩;dsimp only;by_cases yU:l>=u
    .rw[ak yU];exact aJ ⟨⟨_,_,rfl,hu⟩,rfl⟩
    .rw[al yU];refine aF (fG hC hk pS nj (by lia) fun more=>?_);cases more
     .exact aJ ⟨⟨_,_,rfl,by lia⟩,rfl⟩
     .exact aJ ⟨⟨_,_,rfl,hu⟩,rfl⟩
   .rintro c aV ⟨⟨l,u,rfl,hu⟩,rfl⟩;exact aJ (h u hu)
end
structure SM(κ:SortKind)(ar:Array Keyed)(pd:Array (Nat×Nat×Nat))(st:SortSt):Prop where
 arr:arrOf st=ar
 kind:kindOf st=κ
 failed:failedOf st=none
 pend:pendingOf st=pd
abbrev nq:=Option (Array Keyed)
abbrev qF:=StateT SortSt Sem
def vb{τ:Type}(c:Bool)(d:Prop)[Decidable d](r:Array Keyed)(t:τ):qF (ForInStep (nq×τ)):=if c then pure (.done (some r,t)) else if d then pure (.done (none,t)) else pure (.yield (none,t))
def VH{α β γ:Type}(N:Nat)(f:Nat->nq×α×β×γ×Nat×Nat->qF (ForInStep (nq×α×β×γ×Nat×Nat)))(g:nq×α×β×γ×Nat×Nat×Nat->qF (ForInStep (nq×α×β×γ×Nat×Nat×Nat)))(s:nq×α×β×γ×Nat):qF (ForInStep (nq×α×β×γ×Nat)):=do
 let t <- forIn [0:N] ((none,s.2.1,s.2.2.1,s.2.2.2.1,0,0):nq×α×β×γ×Nat×Nat) fun _ t=>f s.2.2.2.2 t
 match t.1 with
 |some r=>pure (.done (some r,t.2.1,t.2.2.1,t.2.2.2.1,s.2.2.2.2))
 |none=>do
  liftM (rule "list.sort.gallop")
  let u <- forIn [0:N] ((none,t.2.1,t.2.2.1,t.2.2.2.1,s.2.2.2.2+1,t.2.2.2.2.1,t.2.2.2.2.2):nq×α×β×γ×Nat×Nat×Nat) fun _ u=>g u
  match u.1 with
  |some r=>pure (.done (some r,u.2.1,u.2.2.1,u.2.2.2.1,u.2.2.2.2.1))
  |none=>do
   gb (u.2.2.2.2.1+1)
   pure (.yield (none,u.2.1,u.2.2.1,u.2.2.2.1,u.2.2.2.2.1+1))
def Px{α β γ:Type}(N:Nat)(f:Nat->nq×α×β×γ×Nat×Nat->qF (ForInStep (nq×α×β×γ×Nat×Nat)))(g:nq×α×β×γ×Nat×Nat×Nat->qF (ForInStep (nq×α×β×γ×Nat×Nat×Nat)))(x:α)(y:β)(z:γ):qF (Array Keyed):=do
 let st <- get
 let s <- forIn [0:N] ((none,x,y,z,gallopOf st):nq×α×β×γ×Nat) fun _ s=>VH N f g s
 match s.1 with
 |some r=>pure r
 |none=>liftM (unsupported "internal:list.sort.merge-bound")
section
variable {prog:Program} {w:World} {A:Around} {E:Value->Shared->Prop} {s:Shared} {κ:SortKind} {a₀:Array Keyed} {pd:Array (Nat×Nat×Nat)} {ar:Array Keyed} {F:Array Keyed->Prop}
def GP{τ:Type}(κ:SortKind)(ar:Array Keyed)(pd:Array (Nat×Nat×Nat))(F:Array Keyed->Prop)(D J:τ->Prop)(r:ForInStep (nq×τ))(st:SortSt):Prop:=SM κ ar pd st/\
 ((∃x t,r=.done (some x,t)/\F x)\/(∃t,r=.done (none,t)/\D t)\/∃t,r=.yield (none,t)/\J t)
theorem dY{τ:Type}{D J:τ->Prop}{st:SortSt}{x:Array Keyed}{t:τ}(m:SM κ ar pd st)(h:F x):wpS (model prog w) A E s (pure (.done (some x,t))) (GP κ ar pd F D J) st:=aJ ⟨m,.inl ⟨_,_,rfl,h⟩⟩
theorem gA{τ:Type}{D J:τ->Prop}{c:Bool}{d:Prop}[Decidable d]{r:Array Keyed}{t:τ}{st:SortSt}(m:SM κ ar pd st)(h1:c=true->F r)(h2:c=false->D t/\J t):wpS (model prog w) A E s (vb c d r t) (GP κ ar pd F D J) st:=by
 unfold vb;cases c
 .rw[al bH];split
  .exact aJ ⟨m,.inr (.inl ⟨_,rfl,(h2 rfl).1⟩)⟩
  .exact aJ ⟨m,.inr (.inr ⟨_,rfl,(h2 rfl).2⟩)⟩
 .rw[ak rfl];exact dY m (h1 rfl)
theorem mh{τ:Type}{D:τ->Prop}{J:Nat->τ->Prop}{N:Nat}{f:nq×τ->qF (ForInStep (nq×τ))}{t:τ}{st:SortSt}{Q:nq×τ->SortSt->Prop}(m:SM κ ar pd st)(hJ:J 0 t)(up:∀t,J N t->D t)(b:∀t st,SM κ ar pd st->∀i,J i t->wpS (model prog w) A E s (f (none,t)) (GP κ ar pd F D (J (i+1))) st)(h1:∀x t aV,SM κ ar pd aV->F x->Q (some x,t) aV)(h2:∀t aV,SM κ ar pd aV->D t->Q (none,t) aV):wpS (model prog w) A E s (forIn [0:N] ((none,t):nq×τ) fun _ c=>f c) Q st:=by
 refine d9 (I:=fun i c aV=>c.1=none/\SM κ ar pd aV/\J i c.2) ?_ ?_ ⟨rfl,m,hJ⟩
 .rintro i ⟨_,t⟩ aV _ _ ⟨rfl,m',j⟩;refine cT (b t aV m' i j) ?_;rintro r qi ⟨m2,⟨x,t,rfl,h⟩|⟨t,rfl,h⟩|⟨t,rfl,h⟩⟩
  .exact h1 _ _ _ m2 h
  .exact h2 _ _ m2 h
  .exact⟨rfl,m2,h⟩
 .rintro⟨_,t⟩ aV ⟨rfl,m',j⟩;rw[Nat.max_eq_right (cS _)] at j;exact h2 _ _ m' (up _ j)
theorem yV{α β γ:Type}{N:Nat}{f:Nat->nq×α×β×γ×Nat×Nat->qF (ForInStep (nq×α×β×γ×Nat×Nat))}{g:nq×α×β×γ×Nat×Nat×Nat->qF (ForInStep (nq×α×β×γ×Nat×Nat×Nat))}{x:α}{y:β}{z:γ}{J:Nat->α->β->γ->Prop}{st:SortSt}{Q:Array Keyed->SortSt->Prop}(m:SM κ ar pd st)(h0:J 0 x y z)(dn:∀i k x y z,J (i+k) x y z->J i x y z)(no:∀x y z,¬ J N x y z)(N1:1<=N)(hf:∀mg n k x y z p st,SM κ ar pd st->J (n+k) x y z->wpS (model prog w) A E s (f mg (none,x,y,z,p)) (GP κ ar pd F (fun t=>J (n+1) t.1 t.2.1 t.2.2.1) fun t=>J (n+(k+1)) t.1 t.2.1 t.2.2.1) st)(hg:∀n x y z p st,SM κ ar pd st->J n x y z->wpS (model prog w) A E s (g (none,x,y,z,p)) (GP κ ar pd F (fun t=>J n t.1 t.2.1 t.2.2.1) fun t=>J n t.1 t.2.1 t.2.2.1) st)(h:∀x aV,F x->SM κ ar pd aV->Q x aV):wpS (model prog w) A E s (Px N f g x y z) Q st:=by
 unfold Px;refine aF (fE ?_);refine aF (mh (F:=F) (D:=fun _=>False) (J:=fun n (t:α×β×γ×Nat)=>J n t.1 t.2.1 t.2.2.1) m h0 (fun t h=>no _ _ _ h) ?_ (fun x t st m hx=>aJ (h _ _ hx m)) fun t st m j=>j.elim);intro t st m i j;unfold VH;refine aF (mh (F:=F) (D:=fun t=>J (i+1) t.1 t.2.1 t.2.2.1) (J:=fun n (t:α×β×γ×Nat×Nat)=>J (i+n) t.1 t.2.1 t.2.2.1) m j (fun t h=>dn _ (N-1) _ _ _ (by rw[show i+1+(N-1)=i+N by lia];exact h)) (fun t st m n j=>hf _ _ _ _ _ _ _ _ m j) (fun x t st m hx=>dY m hx) ?_);intro t st m j;refine aF (j4 (et ⟨rfl,?_⟩));refine aF (mh (F:=F) (D:=fun t=>J (i+1) t.1 t.2.1 t.2.2.1) (J:=fun n (t:α×β×γ×Nat×Nat×Nat)=>J (i+1) t.1 t.2.1 t.2.2.1) m j (fun _ h=>h) (fun t st m n j=>hg _ _ _ _ _ _ m j) (fun x t st m hx=>dY m hx) ?_);intro t st m j;refine aF (eR ?_);exact aJ ⟨⟨m.arr,m.kind,m.failed,m.pend⟩,.inr (.inr ⟨_,rfl,j⟩)⟩
end
abbrev iX(a b out:Array Keyed)(ia ib:Nat):=out++a.extract ia a.size++b.extract ib b.size
abbrev s_(a b out:Array Keyed)(ia ib:Nat):=out++b.extract ib b.size++a.extract ia a.size
abbrev HI ρ:=nq×Array Keyed×Nat×Nat×ρ
def VI(a b:Array Keyed)(mg:Nat)(t:HI (Nat×Nat)):qF (ForInStep (HI (Nat×Nat))):=do
 let x <- elem' b t.2.2.2.1
 let y <- elem' a t.2.2.1
 let some w <- lt' x y|pure (.done (some (iX a b t.2.1 t.2.2.1 t.2.2.2.1),t.2.1,t.2.2.1,t.2.2.2.1,t.2.2.2.2.1,t.2.2.2.2.2))
 if w then do
  let x <- elem' b t.2.2.2.1
  vb (t.2.2.2.1+1==b.size) (t.2.2.2.2.2+1>=mg) (iX a b (t.2.1.push x) t.2.2.1 (t.2.2.2.1+1)) (t.2.1.push x,t.2.2.1,t.2.2.2.1+1,0,t.2.2.2.2.2+1)
 else do
  let x <- elem' a t.2.2.1
  vb (t.2.2.1+1+1==a.size) (t.2.2.2.2.1+1>=mg) (s_ a b (t.2.1.push x) (t.2.2.1+1) t.2.2.2.1) (t.2.1.push x,t.2.2.1+1,t.2.2.2.1,t.2.2.2.2.1+1,0)
def RA(a b out:Array Keyed)(ia ib mg ac bc:Nat):qF (ForInStep (HI (Nat×Nat×Nat))):=do
 let x <- elem' a ia
 vb (ia+1+1==a.size) ((ac<7&&bc<7)=true) (s_ a b (out.push x) (ia+1) ib) (out.push x,ia+1,ib,mg,ac,bc)
def RB(a b out:Array Keyed)(ia ib mg ac bc:Nat):qF (ForInStep (HI (Nat×Nat×Nat))):=do
 let x <- elem' b ib
 if ib+1==b.size then pure (.done (some (iX a b (out.push x) ia (ib+1)),out.push x,ia,ib+1,mg,ac,bc))
 else do
  let y <- elem' a ia
  let some k <- fX true y b (ib+1) (b.size-(ib+1)) 0|pure (.done (some (iX a b (out.push x) ia (ib+1)),out.push x,ia,ib+1,mg,ac,bc))
  if k > 0 then
   if ib+1+k==b.size then pure (.done (some (iX a b (out.push x++b.extract (ib+1) (ib+1+k)) ia (ib+1+k)),out.push x++b.extract (ib+1) (ib+1+k),ia,ib+1+k,mg,ac,k))
   else RA a b (out.push x++b.extract (ib+1) (ib+1+k)) ia (ib+1+k) mg ac k
  else RA a b (out.push x) ia (ib+1) mg ac k
def RC(a b out:Array Keyed)(ia ib mg ac bc:Nat):qF (ForInStep (HI (Nat×Nat×Nat))):=do
 gb mg
 let y <- elem' b ib
 let some k <- fX false y a ia (a.size-ia) 0|pure (.done (some (iX a b out ia ib),out,ia,ib,mg,ac,bc))
 if k > 0 then
  if ia+k+1==a.size then pure (.done (some (s_ a b (out++a.extract ia (ia+k)) (ia+k) ib),out++a.extract ia (ia+k),ia+k,ib,mg,k,bc))
  else if ia+k==a.size then pure (.done (some (iX a b (out++a.extract ia (ia+k)) (ia+k) ib),out++a.extract ia (ia+k),ia+k,ib,mg,k,bc))
  else RB a b (out++a.extract ia (ia+k)) (ia+k) ib mg k bc
 else RB a b out ia ib mg k bc
def VJ(a b:Array Keyed)(t:HI (Nat×Nat×Nat)):qF (ForInStep (HI (Nat×Nat×Nat))):=
 if t.2.2.2.2.1 > 1 then RC a b t.2.1 t.2.2.1 t.2.2.2.1 (t.2.2.2.2.1-1) t.2.2.2.2.2.1 t.2.2.2.2.2.2 else RC a b t.2.1 t.2.2.1 t.2.2.2.1 t.2.2.2.2.1 t.2.2.2.2.2.1 t.2.2.2.2.2.2
theorem vc(a b:Array Keyed):o4 a b=(do
 liftM (rule "list.sort.merge-lo")
 let x <- elem' b 0
 if 1==b.size then pure (iX a b #[x] 0 1) else if 0+1==a.size then pure (s_ a b #[x] 0 1) else Px (a.size+b.size) (VI a b) (VJ a b) #[x] 0 1):=by kernel_rfl
def PI(a b out:Array Keyed)(ia ib:Nat):Prop:=out.toList.Perm (a.toList.take ia++b.toList.take ib)
theorem vd{l:List Keyed}{i:Nat}(h:i<l.length):l.take (i+1)=l.take i++[l[i]]:=by rw[gg,cr h];rfl
theorem PI.qG{a b out:Array Keyed}{ia ib:Nat}(h:PI a b out ia ib)(hi:ia<a.size):PI a b (out.push a[ia]) (ia+1) ib:=by
 unfold PI at h |-;rw[lF,vd (by simpa using hi),cK];refine(h.append_right _).trans ?_;rw[cK];refine mC _ ?_;have:a.toList[ia]'(by simpa using hi)=a[ia]:=by simp
 rw[this];exact iz
theorem PI.qH{a b out:Array Keyed}{ia ib:Nat}(h:PI a b out ia ib)(hi:ib<b.size):PI a b (out.push b[ib]) ia (ib+1):=by
 unfold PI at h |-;rw[lF,vd (by simpa using hi),<-cK];have:b.toList[ib]'(by simpa using hi)=b[ib]:=by simp
 rw[this];exact h.append_right _
theorem df{a:Array Keyed}{i j:Nat}:(a.extract i j).toList=(a.toList.drop i).take (j-i):=by
 rw[we,List.extract_eq_take_drop]
theorem PI.Af{a b out:Array Keyed}{ia ib:Nat}(h:PI a b out ia ib)(k:Nat):PI a b (out++a.extract ia (ia+k)) (ia+k) ib:=by
 unfold PI at h |-;rw[dI,df,Nat.add_sub_cancel_left,List.take_add,cK];refine(h.append_right _).trans ?_;rw[cK];exact mC _ iz
theorem PI.Ag{a b out:Array Keyed}{ia ib:Nat}(h:PI a b out ia ib)(k:Nat):PI a b (out++b.extract ib (ib+k)) ia (ib+k):=by
 unfold PI at h |-;rw[dI,df,Nat.add_sub_cancel_left,List.take_add,<-cK];exact h.append_right _
theorem PI.done{a b out:Array Keyed}{ia ib:Nat}(h:PI a b out ia ib):(out++a.extract ia a.size++b.extract ib b.size).Perm (a++b):=by
 rw[ky];unfold PI at h;rw[dI,dI,dI,df,df];have e1:(a.toList.drop ia).take (a.size-ia)=a.toList.drop ia:=List.take_of_length_le (by simp);have e2:(b.toList.drop ib).take (b.size-ib)=b.toList.drop ib:=List.take_of_length_le (by simp);rw[e1,e2];refine((h.append_right _).append_right _).trans ?_;conv=>rhs;rw[<-lA ia a.toList,<-lA ib b.toList]
 rw[cK,cK,cK];refine mC _ ?_;rw[<-cK,<-cK];exact v8 _ iz
theorem PI.last{a b out:Array Keyed}{ia ib:Nat}(h:PI a b out ia ib):(out++b.extract ib b.size++a.extract ia a.size).Perm (a++b):=by
 refine Array.Perm.trans ?_ h.done;rw[ky];rw[dI,dI,dI,dI,cK,cK];exact mC _ iz
section
variable {prog:Program} {w:World} {A:Around} {E:Value->Shared->Prop} {s:Shared} {κ:SortKind} {a₀:Array Keyed} {pd:Array (Nat×Nat×Nat)} {ar:Array Keyed} {a b out:Array Keyed} {ia ib mg ac bc n:Nat} {st:SortSt}
def JL(a b:Array Keyed)(n:Nat)(out:Array Keyed)(ia ib:Nat):Prop:=PI a b out ia ib/\ia+1<a.size/\ib<b.size/\n<=ia+ib
abbrev GL{ρ:Type}(κ:SortKind)(ar:Array Keyed)(pd:Array (Nat×Nat×Nat))(a b:Array Keyed)(n m:Nat):ForInStep (HI ρ)->SortSt->Prop:=GP κ ar pd (fun x=>x.Perm (a++b)) (fun t=>JL a b n t.1 t.2.1 t.2.2.1) fun t=>JL a b m t.1 t.2.1 t.2.2.1
theorem yW(hB:SM κ ar pd st)(h:JL a b n out ia ib):wpS (model prog w) A E s (RA a b out ia ib mg ac bc) (GL κ ar pd a b n n) st:=by
 obtain⟨p,la,lb,li⟩:=h;refine aF (be (cL a ia (by lia)) ?_);have p:=p.qG (show ia<a.size by lia);refine gA hB (fun _=>p.last) fun f=>?_;have g:=lG f;have j:JL a b n (out.push a[ia]) (ia+1) ib:=⟨p,by lia,lb,by lia⟩
 exact⟨j,j⟩
theorem yX(hC:va prog w A s κ a₀)(ha:∀x∈a.toList,x∈a₀.toList)(hb:∀x∈b.toList,x∈a₀.toList)(hB:SM κ ar pd st)(h:JL a b n out ia ib):wpS (model prog w) A E s (RB a b out ia ib mg ac bc) (GL κ ar pd a b n n) st:=by
 obtain⟨p,la,lb,li⟩:=h;refine aF (be (cL b ib lb) ?_);have p:=p.qH lb;split
 .exact dY hB p.done
 next f=>
 have g:ib+1≠b.size:=by simpa using f
 refine aF (be (cL a ia (by lia)) ?_);refine aF (eE hC hB.kind (ha _ (by simp)) hb (by lia) (by lia) fun k hk=>?_);dsimp only;split
 .split
  .exact dY hB (p.Ag k).done
  next f=>
  have g:ib+1+k≠b.size:=by simpa using f
  exact yW hB ⟨p.Ag k,la,by lia,by lia⟩
 .exact yW hB ⟨p,la,by lia,by lia⟩
theorem FA(hC:va prog w A s κ a₀)(ha:∀x∈a.toList,x∈a₀.toList)(hb:∀x∈b.toList,x∈a₀.toList)(hB:SM κ ar pd st)(h:JL a b n out ia ib):wpS (model prog w) A E s (RC a b out ia ib mg ac bc) (GL κ ar pd a b n n) st:=by
 obtain⟨p,la,lb,li⟩:=h;refine aF (eR ?_);refine aF (be (cL b ib lb) ?_);have pW:SM κ ar pd (SortSt.mk' (kindOf st) (arrOf st) (pendingOf st) mg (failedOf st)):=⟨hB.arr,hB.kind,hB.failed,hB.pend⟩
 refine aF (eE hC pW.kind (hb _ (by simp)) ha (by lia) (by lia) fun k hk=>?_);dsimp only;split
 .split
  .exact dY pW (p.Af k).last
  next f=>
  split
  .exact dY pW (p.Af k).done
  next f'=>
  have g:ia+k+1≠a.size:=by simpa using f
  have g':ia+k≠a.size:=by simpa using f'
  exact yX hC ha hb pW ⟨p.Af k,by lia,lb,by lia⟩
 .exact yX hC ha hb pW ⟨p,la,lb,li⟩
theorem FE{k:Nat}(hC:va prog w A s κ a₀)(ha:∀x∈a.toList,x∈a₀.toList)(hb:∀x∈b.toList,x∈a₀.toList)(hB:SM κ ar pd st)(h:JL a b (n+k) out ia ib){q:Nat×Nat}:wpS (model prog w) A E s (VI a b mg (none,out,ia,ib,q)) (GL κ ar pd a b (n+1) (n+(k+1))) st:=by
 obtain⟨p,la,lb,li⟩:=h;refine aF (be (cL b ib lb) (aF (be (cL a ia (by lia)) (aF (o6 hC hB.kind (hb _ (by simp)) (ha _ (by simp)) fun w=>?_)))));cases w
 .refine aF (be (cL a ia (by lia)) ?_);have p:=p.qG (show ia<a.size by lia);refine gA hB (fun _=>p.last) fun f=>?_;have g:=lG f;exact⟨⟨p,by dsimp only;lia,lb,by dsimp only;lia⟩,p,by dsimp only;lia,lb,by dsimp only;lia⟩
 .refine aF (be (cL b ib lb) ?_);have p:=p.qH lb;refine gA hB (fun _=>p.done) fun f=>?_;have g:=lG f;exact⟨⟨p,la,by dsimp only at g |-;lia,by dsimp only;lia⟩,p,la,by dsimp only at g |-;lia,by dsimp only;lia⟩
theorem ve{Q:Array Keyed->SortSt->Prop}(hC:va prog w A s κ a₀)(hB:SM κ ar pd st)(ha:∀x∈a.toList,x∈a₀.toList)(hb:∀x∈b.toList,x∈a₀.toList)(a1:1<=a.size)(b1:1<=b.size)(h:∀out aV,out.Perm (a++b)->SM κ ar pd aV->Q out aV):wpS (model prog w) A E s (o4 a b) Q st:=by
 rw[vc];refine aF (j4 (et ⟨rfl,?_⟩));refine aF (be (cL b 0 (by lia)) ?_);have p0:PI a b #[b[0]] 0 1:=by
  have:PI a b #[] 0 0:=by unfold PI;simp
  exact this.qH (by lia)
 split
 .exact aJ (h _ _ p0.done hB)
 next f=>
 split
 .exact aJ (h _ _ p0.last hB)
 next f'=>
 have g:1≠b.size:=by simpa using f
 have g':0+1≠a.size:=by simpa using f'
 refine yV (J:=JL a b) hB ⟨p0,by lia,by lia,by lia⟩ (fun i k x y z h=>⟨h.1,h.2.1,h.2.2.1,by have:=h.2.2.2;lia⟩) (fun x y z h=>by have:=h.2;lia) (by lia) (fun mg n k x y z p st m j=>FE hC ha hb m j) (fun n x y z p st m j=>?_) h;unfold VJ;split <;> exact FA hC ha hb m j
end
abbrev iY(a b out:Array Keyed)(na nb:Nat):=a.extract 0 na++b.extract 0 nb++out.reverse
abbrev nY(a b out:Array Keyed)(na nb:Nat):=b.extract 0 nb++a.extract 0 na++out.reverse
abbrev HJ ρ:=nq×Nat×Nat×Array Keyed×ρ
def VL(a b:Array Keyed)(mg:Nat)(t:HJ (Nat×Nat)):qF (ForInStep (HJ (Nat×Nat))):=do
 let x <- elem' b (t.2.2.1-1)
 let y <- elem' a (t.2.1-1)
 let some w <- lt' x y|pure (.done (some (iY a b t.2.2.2.1 t.2.1 t.2.2.1),t.2.1,t.2.2.1,t.2.2.2.1,t.2.2.2.2.1,t.2.2.2.2.2))
 if w then do
  let x <- elem' a (t.2.1-1)
  vb (t.2.1-1==0) (t.2.2.2.2.1+1>=mg) (iY a b (t.2.2.2.1.push x) (t.2.1-1) t.2.2.1) (t.2.1-1,t.2.2.1,t.2.2.2.1.push x,t.2.2.2.2.1+1,0)
 else do
  let x <- elem' b (t.2.2.1-1)
  vb (t.2.2.1-1==1) (t.2.2.2.2.2+1>=mg) (nY a b (t.2.2.2.1.push x) t.2.1 (t.2.2.1-1)) (t.2.1,t.2.2.1-1,t.2.2.2.1.push x,0,t.2.2.2.2.2+1)
def RD(a b:Array Keyed)(na nb:Nat)(out:Array Keyed)(mg ac bc:Nat):qF (ForInStep (HJ (Nat×Nat×Nat))):=do
 let x <- elem' a (na-1)
 vb (na-1==0) ((ac<7&&bc<7)=true) (iY a b (out.push x) (na-1) nb) (na-1,nb,out.push x,mg,ac,bc)
def RE(a b:Array Keyed)(na nb:Nat)(out:Array Keyed)(mg ac bc:Nat):qF (ForInStep (HJ (Nat×Nat×Nat))):=do
 let x <- elem' b (nb-1)
 if nb-1==1 then pure (.done (some (nY a b (out.push x) na (nb-1)),na,nb-1,out.push x,mg,ac,bc))
 else do
  let y <- elem' a (na-1)
  let some k <- fX true y b 0 (nb-1) (nb-1-1)|pure (.done (some (iY a b (out.push x) na (nb-1)),na,nb-1,out.push x,mg,ac,bc))
  if nb-1-k > 0 then
   if k==1 then pure (.done (some (nY a b (out.push x++(b.extract k (nb-1)).reverse) na k),na,k,out.push x++(b.extract k (nb-1)).reverse,mg,ac,nb-1-k))
   else if k==0 then pure (.done (some (iY a b (out.push x++(b.extract k (nb-1)).reverse) na k),na,k,out.push x++(b.extract k (nb-1)).reverse,mg,ac,nb-1-k))
   else RD a b na k (out.push x++(b.extract k (nb-1)).reverse) mg ac (nb-1-k)
  else RD a b na (nb-1) (out.push x) mg ac (nb-1-k)
def RF(a b:Array Keyed)(na nb:Nat)(out:Array Keyed)(mg ac bc:Nat):qF (ForInStep (HJ (Nat×Nat×Nat))):=do
 gb mg
 let y <- elem' b (nb-1)
 let some k <- fX false y a 0 na (na-1)|pure (.done (some (iY a b out na nb),na,nb,out,mg,ac,bc))
 if na-k > 0 then
  if k==0 then pure (.done (some (iY a b (out++(a.extract k na).reverse) k nb),k,nb,out++(a.extract k na).reverse,mg,na-k,bc))
  else RE a b k nb (out++(a.extract k na).reverse) mg (na-k) bc
 else RE a b na nb out mg (na-k) bc
def VM(a b:Array Keyed)(t:HJ (Nat×Nat×Nat)):qF (ForInStep (HJ (Nat×Nat×Nat))):=
 if t.2.2.2.2.1 > 1 then RF a b t.2.1 t.2.2.1 t.2.2.2.1 (t.2.2.2.2.1-1) t.2.2.2.2.2.1 t.2.2.2.2.2.2 else RF a b t.2.1 t.2.2.1 t.2.2.2.1 t.2.2.2.2.1 t.2.2.2.2.2.1 t.2.2.2.2.2.2
theorem vf(a b:Array Keyed):o5 a b=(do
 liftM (rule "list.sort.merge-hi")
 let x <- elem' a (a.size-1)
 if a.size-1==0 then pure (iY a b #[x] (a.size-1) b.size) else if b.size==1 then pure (nY a b #[x] (a.size-1) b.size) else Px (a.size+b.size) (VL a b) (VM a b) (a.size-1) b.size #[x]):=by kernel_rfl
def PH(a b out:Array Keyed)(na nb:Nat):Prop:=out.toList.Perm (a.toList.drop na++b.toList.drop nb)
theorem PH.qG{a b out:Array Keyed}{na nb:Nat}(h:PH a b out na nb)(h1:1<=na)(hi:na-1<a.size):PH a b (out.push a[na-1]) (na-1) nb:=by
 unfold PH at h |-;have e:a.toList.drop (na-1)=a[na-1]::a.toList.drop na:=by
  have:=vX (l:=a.toList) (i:=na-1) (by simpa using hi);rw[this,Nat.sub_add_cancel h1];simp
 rw[lF,e];refine(h.append_right _).trans ?_;exact iz
theorem PH.qH{a b out:Array Keyed}{na nb:Nat}(h:PH a b out na nb)(h1:1<=nb)(hi:nb-1<b.size):PH a b (out.push b[nb-1]) na (nb-1):=by
 unfold PH at h |-;have e:b.toList.drop (nb-1)=b[nb-1]::b.toList.drop nb:=by
  have:=vX (l:=b.toList) (i:=nb-1) (by simpa using hi);rw[this,Nat.sub_add_cancel h1];simp
 rw[lF,e];refine(h.append_right _).trans ?_;rw[cK];exact mC _ iz
theorem kY{l:List Keyed}{i j:Nat}(h:i<=j):l.drop i=(l.drop i).take (j-i)++l.drop j:=by
 have:=(lA (j-i) (l.drop i)).symm;rw[List.drop_drop,show i+(j-i)=j by lia] at this;exact this
theorem PH.Af{a b out:Array Keyed}{na nb:Nat}(h:PH a b out na nb){k:Nat}(hk:k<=na):PH a b (out++(a.extract k na).reverse) k nb:=by
 unfold PH at h |-;rw[dI,wd,df];conv=>rhs;rw[kY hk]
 refine((h.append_left _).trans ?_ |> fun z=>(List.Perm.trans iz ((wz _).append_right _)).trans z);rw[cK]
theorem PH.Ag{a b out:Array Keyed}{na nb:Nat}(h:PH a b out na nb){k:Nat}(hk:k<=nb):PH a b (out++(b.extract k nb).reverse) na k:=by
 unfold PH at h |-;rw[dI,wd,df];conv=>rhs;rw[kY hk]
 refine(h.append_right _).trans ?_;rw[cK];refine mC _ ?_;exact iz.trans ((wz _).append_right _)
theorem M6{a:Array Keyed}{j:Nat}:(a.extract 0 j).toList=a.toList.take j:=by rw[df,wP,Nat.sub_zero]
theorem PH.done{a b out:Array Keyed}{na nb:Nat}(h:PH a b out na nb):(a.extract 0 na++b.extract 0 nb++out.reverse).Perm (a++b):=by
 rw[ky];unfold PH at h;rw[dI,dI,dI,wd,M6,M6];conv=>rhs;rw[<-lA na a.toList,<-lA nb b.toList]
 refine(mC _ ((wz _).trans h)).trans ?_;rw[cK,cK];refine mC _ ?_;rw[<-cK,<-cK];exact v8 _ iz
theorem PH.first{a b out:Array Keyed}{na nb:Nat}(h:PH a b out na nb):(b.extract 0 nb++a.extract 0 na++out.reverse).Perm (a++b):=by
 refine Array.Perm.trans ?_ h.done;rw[ky];rw[dI,dI,dI,dI];exact v8 _ iz
section
variable {prog:Program} {w:World} {A:Around} {E:Value->Shared->Prop} {s:Shared} {κ:SortKind} {a₀:Array Keyed} {pd:Array (Nat×Nat×Nat)} {ar:Array Keyed} {a b out:Array Keyed} {na nb mg ac bc n:Nat} {st:SortSt}
def JH(a b:Array Keyed)(n na nb:Nat)(out:Array Keyed):Prop:=PH a b out na nb/\1<=na/\2<=nb/\na<=a.size/\nb<=b.size/\n+na+nb<=a.size+b.size
abbrev GH{ρ:Type}(κ:SortKind)(ar:Array Keyed)(pd:Array (Nat×Nat×Nat))(a b:Array Keyed)(n m:Nat):ForInStep (HJ ρ)->SortSt->Prop:=GP κ ar pd (fun x=>x.Perm (a++b)) (fun t=>JH a b n t.1 t.2.1 t.2.2.1) fun t=>JH a b m t.1 t.2.1 t.2.2.1
theorem yY(hB:SM κ ar pd st)(p:PH a b out na nb)(la:1<=na)(lb:2<=nb)(ma:na<=a.size)(mb:nb<=b.size)(li:n+na+nb<=a.size+b.size+1):wpS (model prog w) A E s (RD a b na nb out mg ac bc) (GH κ ar pd a b n n) st:=by
 refine aF (be (cL a (na-1) (by lia)) ?_);have p:=p.qG la (show na-1<a.size by lia);refine gA hB (fun _=>p.done) fun f=>?_;have g:=lG f;have j:JH a b n (na-1) nb (out.push a[na-1]):=⟨p,by lia,lb,by lia,mb,by lia⟩
 exact⟨j,j⟩
theorem yZ(hC:va prog w A s κ a₀)(ha:∀x∈a.toList,x∈a₀.toList)(hb:∀x∈b.toList,x∈a₀.toList)(hB:SM κ ar pd st)(h:JH a b n na nb out):wpS (model prog w) A E s (RE a b na nb out mg ac bc) (GH κ ar pd a b n n) st:=by
 obtain⟨p,la,lb,ma,mb,li⟩:=h;refine aF (be (cL b (nb-1) (by lia)) ?_);have p:=p.qH (show 1<=nb by lia) (show nb-1<b.size by lia);split
 .exact dY hB p.first
 next f=>
 have g:nb-1≠1:=by simpa using f
 refine aF (be (cL a (na-1) (by lia)) ?_);refine aF (eE hC hB.kind (ha _ (by simp)) hb (by lia) (by lia) fun k hk=>?_);dsimp only;split
 .split
  .exact dY hB (p.Ag hk).first
  next f=>
  split
  .exact dY hB (p.Ag hk).done
  next f'=>
  have g:k≠1:=by simpa using f
  have g':k≠0:=by simpa using f'
  exact yY hB (p.Ag hk) la (by lia) ma (by lia) (by lia)
 .exact yY hB p la (by lia) ma (by lia) (by lia)
theorem FF(hC:va prog w A s κ a₀)(ha:∀x∈a.toList,x∈a₀.toList)(hb:∀x∈b.toList,x∈a₀.toList)(hB:SM κ ar pd st)(h:JH a b n na nb out):wpS (model prog w) A E s (RF a b na nb out mg ac bc) (GH κ ar pd a b n n) st:=by
 obtain⟨p,la,lb,ma,mb,li⟩:=h;refine aF (eR ?_);refine aF (be (cL b (nb-1) (by lia)) ?_);have pW:SM κ ar pd (SortSt.mk' (kindOf st) (arrOf st) (pendingOf st) mg (failedOf st)):=⟨hB.arr,hB.kind,hB.failed,hB.pend⟩
 refine aF (eE hC pW.kind (hb _ (by simp)) ha (by lia) (by lia) fun k hk=>?_);dsimp only;split
 .split
  .exact dY pW (p.Af hk).done
  next f=>
  have g:k≠0:=by simpa using f
  exact yZ hC ha hb pW ⟨p.Af hk,by lia,lb,by lia,mb,by lia⟩
 .exact yZ hC ha hb pW ⟨p,la,lb,ma,mb,li⟩
theorem FG{k:Nat}(hC:va prog w A s κ a₀)(ha:∀x∈a.toList,x∈a₀.toList)(hb:∀x∈b.toList,x∈a₀.toList)(hB:SM κ ar pd st)(h:JH a b (n+k) na nb out){q:Nat×Nat}:wpS (model prog w) A E s (VL a b mg (none,na,nb,out,q)) (GH κ ar pd a b (n+1) (n+(k+1))) st:=by
 obtain⟨p,la,lb,ma,mb,li⟩:=h;refine aF (be (cL b (nb-1) (by lia)) (aF (be (cL a (na-1) (by lia)) (aF (o6 hC hB.kind (hb _ (by simp)) (ha _ (by simp)) fun w=>?_)))));cases w
 .refine aF (be (cL b (nb-1) (by lia)) ?_);have p:=p.qH (show 1<=nb by lia) (show nb-1<b.size by lia);refine gA hB (fun _=>p.first) fun f=>?_;have g:nb-1≠1:=lG f;have j:JH a b (n+(k+1)) na (nb-1) (out.push b[nb-1]):=⟨p,la,by lia,ma,by lia,by lia⟩
  exact⟨⟨p,la,j.2.2.1,ma,j.2.2.2.2.1,by have:=j.2.2.2.2.2;dsimp only;lia⟩,j⟩
 .refine aF (be (cL a (na-1) (by lia)) ?_);have p:=p.qG la (show na-1<a.size by lia);refine gA hB (fun _=>p.done) fun f=>?_;have g:na-1≠0:=lG f;have j:JH a b (n+(k+1)) (na-1) nb (out.push a[na-1]):=⟨p,by lia,lb,by lia,mb,by lia⟩
  exact⟨⟨p,j.2.1,lb,j.2.2.2.1,mb,by have:=j.2.2.2.2.2;dsimp only;lia⟩,j⟩
theorem vg{Q:Array Keyed->SortSt->Prop}(hC:va prog w A s κ a₀)(hB:SM κ ar pd st)(ha:∀x∈a.toList,x∈a₀.toList)(hb:∀x∈b.toList,x∈a₀.toList)(a1:1<=a.size)(b1:1<=b.size)(h:∀out aV,out.Perm (a++b)->SM κ ar pd aV->Q out aV):wpS (model prog w) A E s (o5 a b) Q st:=by
 rw[vf];refine aF (j4 (et ⟨rfl,?_⟩));refine aF (be (cL a (a.size-1) (by lia)) ?_);have p0:PH a b #[a[a.size-1]] (a.size-1) b.size:=by
  have:PH a b #[] a.size b.size:=by unfold PH;simp
  exact this.qG a1 (by lia)
 split
 .exact aJ (h _ _ p0.done hB)
 next f=>
 split
 .exact aJ (h _ _ p0.first hB)
 next f'=>
 have g:a.size-1≠0:=by simpa using f
 have g':b.size≠1:=by simpa using f'
 refine yV (J:=JH a b) hB ⟨p0,by lia,by lia,by lia,by lia,by lia⟩ (fun i k x y z h=>⟨h.1,h.2.1,h.2.2.1,h.2.2.2.1,h.2.2.2.2.1,by have:=h.2.2.2.2.2;lia⟩) (fun x y z h=>by have:=h.2;lia) (by lia) (fun mg n k x y z p st m j=>FG hC ha hb m j) (fun n x y z p st m j=>?_) h;unfold VM;split <;> exact FF hC ha hb m j
end
section
variable {prog:Program} {w:World} {A:Around} {E:Value->Shared->Prop} {s:Shared} {κ:SortKind} {a₀:Array Keyed} {pd:Array (Nat×Nat×Nat)}
theorem Ah{st:SortSt}{lo mj:Nat}{Q:Option Nat->SortSt->Prop}(hC:va prog w A s κ a₀)(hn:lo+mj<=a₀.size)(h1:1<=mj)(hB:SQ κ a₀ pd st)(h:∀n aV,SQ κ a₀ pd aV->1<=n->n<=mj->Q (some n) aV):wpS (model prog w) A E s (countRun' lo mj) Q st:=by
 rw[countRun'_eq];refine aF (cT (d9 (I:=fun i c aV=>SQ κ a₀ pd aV/\∃m,c=(none,m)/\m=i) (Q:=fun c aV=>SQ κ a₀ pd aV/\∃m,c=(none,m)/\1<=m/\m<=mj) ?_ ?_ ⟨hB,_,rfl,rfl⟩) ?_)
 .rintro i c EU Lm A1 ⟨C1,m,rfl,rfl⟩;dsimp only;refine aF (dX hC C1 (by lia) (by lia) fun b1=>?_);cases b1
  .exact aJ ⟨C1,_,rfl,rfl⟩
  .exact aJ ⟨C1,_,rfl,by lia,by lia⟩
 .rintro c EU ⟨C1,m,rfl,rfl⟩;exact⟨C1,_,rfl,by lia,by lia⟩
 .rintro c EU ⟨C1,n,rfl,n1,n2⟩;dsimp only;by_cases e1:(n==mj)=true
  .rw[ak e1];exact aJ (h n EU C1 n1 n2)
  rw[al e1];have g1:¬ (n=mj):=by simpa using e1
  by_cases e2:n > 1
  .rw[ak e2];refine aF (dX hC C1 (by lia) (by lia) fun b2=>?_);cases b2
   .dsimp only;rw[al (by decide)];refine aF (fw C1 fun qi pW=>?_);refine aF (j4 (et ⟨rfl,?_⟩));refine aF (cT (d9 (I:=fun i c aV=>SQ κ a₀ pd aV/\∃m q,c=(none,m,q)/\m=i) (Q:=fun c aV=>SQ κ a₀ pd aV/\∃m q,c=(none,m,q)/\1<=m/\m<=mj) ?_ ?_ ⟨pW,_,_,rfl,rfl⟩) ?_)
    .rintro i c wY Lm A1 ⟨ng,m,q,rfl,rfl⟩;dsimp only;refine aF (dX hC ng (by lia) (by lia) fun b3=>?_);cases b3
     .dsimp only;rw[al (by decide)];refine aF (dX hC ng (by lia) (by lia) fun b4=>?_);cases b4
      .exact aJ ⟨ng,_,_,rfl,rfl⟩
      .exact aJ ⟨ng,_,_,rfl,by lia,by lia⟩
     .dsimp only;rw[ak rfl];split
      .exact aF (fw ng fun pL Jp=>aJ ⟨Jp,_,_,rfl,rfl⟩)
      .exact aJ ⟨ng,_,_,rfl,rfl⟩
    .rintro c wY ⟨ng,m,q,rfl,rfl⟩;exact⟨ng,_,_,rfl,by lia,by lia⟩
    .rintro c wY ⟨ng,m,q,rfl,m1,m2⟩;dsimp only;split
     .refine aF (fw ng fun pL Jp=>?_);refine aF (fw Jp fun uq Jq=>?_);refine aF (cT (d9 (I:=fun i c aV=>SQ κ a₀ pd aV/\∃m,c=(none,m)/\m=i) (Q:=fun c aV=>SQ κ a₀ pd aV/\∃m,c=(none,m)/\1<=m/\m<=mj) ?_ ?_ ⟨Jq,_,rfl,rfl⟩) ?_)
      .rintro i c xJ Lm A1 ⟨kj,m,rfl,rfl⟩;dsimp only;refine aF (dX hC kj (by lia) (by lia) fun b6=>?_);cases b6
       .exact aJ ⟨kj,_,rfl,rfl⟩
       .exact aJ ⟨kj,_,rfl,by lia,by lia⟩
      .rintro c xJ ⟨kj,m,rfl,rfl⟩;exact⟨kj,_,rfl,by lia,by lia⟩
      .rintro c xJ ⟨kj,m,rfl,h1,h2⟩;exact aJ (h m xJ kj h1 h2)
     .refine aF (fw ng fun uq Jq=>?_);refine aF (cT (d9 (I:=fun i c aV=>SQ κ a₀ pd aV/\∃m,c=(none,m)/\m=i) (Q:=fun c aV=>SQ κ a₀ pd aV/\∃m,c=(none,m)/\1<=m/\m<=mj) ?_ ?_ ⟨Jq,_,rfl,rfl⟩) ?_)
      .rintro i c xJ Lm A1 ⟨kj,m,rfl,rfl⟩;dsimp only;refine aF (dX hC kj (by lia) (by lia) fun b6=>?_);cases b6
       .exact aJ ⟨kj,_,rfl,rfl⟩
       .exact aJ ⟨kj,_,rfl,by lia,by lia⟩
      .rintro c xJ ⟨kj,m,rfl,rfl⟩;exact⟨kj,_,rfl,by lia,by lia⟩
      .rintro c xJ ⟨kj,m,rfl,h1,h2⟩;exact aJ (h m xJ kj h1 h2)
   .exact aJ (h n EU C1 n1 n2)
  .rw[al e2];have pW:=C1;refine aF (j4 (et ⟨rfl,?_⟩));refine aF (cT (d9 (I:=fun i c aV=>SQ κ a₀ pd aV/\∃m q,c=(none,m,q)/\m=i) (Q:=fun c aV=>SQ κ a₀ pd aV/\∃m q,c=(none,m,q)/\1<=m/\m<=mj) ?_ ?_ ⟨pW,_,_,rfl,rfl⟩) ?_)
   .rintro i c wY Lm A1 ⟨ng,m,q,rfl,rfl⟩;dsimp only;refine aF (dX hC ng (by lia) (by lia) fun b3=>?_);cases b3
    .dsimp only;rw[al (by decide)];refine aF (dX hC ng (by lia) (by lia) fun b4=>?_);cases b4
     .exact aJ ⟨ng,_,_,rfl,rfl⟩
     .exact aJ ⟨ng,_,_,rfl,by lia,by lia⟩
    .dsimp only;rw[ak rfl];split
     .exact aF (fw ng fun pL Jp=>aJ ⟨Jp,_,_,rfl,rfl⟩)
     .exact aJ ⟨ng,_,_,rfl,rfl⟩
   .rintro c wY ⟨ng,m,q,rfl,rfl⟩;exact⟨ng,_,_,rfl,by lia,by lia⟩
   .rintro c wY ⟨ng,m,q,rfl,m1,m2⟩;dsimp only;split
    .refine aF (fw ng fun pL Jp=>?_);refine aF (fw Jp fun uq Jq=>?_);refine aF (cT (d9 (I:=fun i c aV=>SQ κ a₀ pd aV/\∃m,c=(none,m)/\m=i) (Q:=fun c aV=>SQ κ a₀ pd aV/\∃m,c=(none,m)/\1<=m/\m<=mj) ?_ ?_ ⟨Jq,_,rfl,rfl⟩) ?_)
     .rintro i c xJ Lm A1 ⟨kj,m,rfl,rfl⟩;dsimp only;refine aF (dX hC kj (by lia) (by lia) fun b6=>?_);cases b6
      .exact aJ ⟨kj,_,rfl,rfl⟩
      .exact aJ ⟨kj,_,rfl,by lia,by lia⟩
     .rintro c xJ ⟨kj,m,rfl,rfl⟩;exact⟨kj,_,rfl,by lia,by lia⟩
     .rintro c xJ ⟨kj,m,rfl,h1,h2⟩;exact aJ (h m xJ kj h1 h2)
    .refine aF (fw ng fun uq Jq=>?_);refine aF (cT (d9 (I:=fun i c aV=>SQ κ a₀ pd aV/\∃m,c=(none,m)/\m=i) (Q:=fun c aV=>SQ κ a₀ pd aV/\∃m,c=(none,m)/\1<=m/\m<=mj) ?_ ?_ ⟨Jq,_,rfl,rfl⟩) ?_)
     .rintro i c xJ Lm A1 ⟨kj,m,rfl,rfl⟩;dsimp only;refine aF (dX hC kj (by lia) (by lia) fun b6=>?_);cases b6
      .exact aJ ⟨kj,_,rfl,rfl⟩
      .exact aJ ⟨kj,_,rfl,by lia,by lia⟩
     .rintro c xJ ⟨kj,m,rfl,rfl⟩;exact⟨kj,_,rfl,by lia,by lia⟩
     .rintro c xJ ⟨kj,m,rfl,h1,h2⟩;exact aJ (h m xJ kj h1 h2)
end
abbrev Lo:=Nat×Nat×Nat
def gB:List Lo->Nat->Nat->Prop
 |[],s,e=>s=e
 |r::rs,s,e=>r.1=s/\1<=r.2.1/\gB rs (s+r.2.1) e
theorem gB.le:∀ {l:List Lo} {s e:Nat},gB l s e->s<=e
 |[],_,_,h=>rZ h
 |r::rs,s,e,⟨_,h2,h3⟩=>by have:=h3.le;lia
theorem gB.two:∀ {l:List Lo} {s e i:Nat} {x y:Lo},gB l s e->l[i]?=some x->l[i+1]?=some y->
  x.1+x.2.1=y.1/\y.1+y.2.1<=e/\1<=x.2.1/\1<=y.2.1/\∀p,gB ((l.set i (x.1,x.2.1+y.2.1,p)).eraseIdx (i+1)) s e
 |r::q::rs,s,e,0,x,y,⟨h1,h2,h3,h4,h5⟩,hx,hy=>by
  obtain rfl:=bi hx;obtain rfl:=bi hy;have:=h5.le;refine⟨by lia,by lia,h2,h4,fun p=>⟨h1,by show 1<=r.2.1+q.2.1;lia,?_⟩⟩;show gB rs (s+(r.2.1+q.2.1)) e;rw[<-Nat.add_assoc];exact h5
 |r::rs,s,e,i+1,x,y,⟨h1,h2,h3⟩,hx,hy=>by
  obtain⟨a1,a2,a3,a4,a5⟩:=gB.two (i:=i) h3 hx hy;exact⟨a1,a2,a3,a4,fun p=>⟨h1,h2,a5 p⟩⟩
theorem gB.push:∀ {l:List Lo} {s e n p:Nat},gB l s e->1<=n->gB (l++[(e,n,p)]) s (e+n)
 |[],s,e,n,p,h,hn=>⟨h.symm,hn,by rw[h];rfl⟩
 |r::rs,s,e,n,p,⟨h1,h2,h3⟩,hn=>⟨h1,h2,gB.push h3 hn⟩
theorem gB.pw:∀ {l:List Lo} {s e:Nat} (i p:Nat),gB l s e->gB (l.modify i fun r=>(r.1,r.2.1,p)) s e
 |[],s,e,i,p,h=>by cases i <;> exact h
 |r::rs,s,e,0,p,⟨h1,h2,h3⟩=>⟨h1,h2,h3⟩
 |r::rs,s,e,i+1,p,⟨h1,h2,h3⟩=>⟨h1,h2,gB.pw i p h3⟩
theorem FH{M:Model}{A:Around}{E:Value->Shared->Prop}{s:Shared}{σ:Type}{x:σ}{Q:PUnit->σ->Prop}{st:σ}(h:Q ⟨⟩ x):wpS M A E s (set x:StateT σ Sem PUnit) Q st:=by
 unfold wpS;rw[StateT.run_set];exact wpAny_pure ⟨rfl,h⟩
theorem vh(i:Nat):mergeAt' i=(do
 let s <- get
 let (some (sa,na,M7),some (sb,nb,_)):=((pendingOf s)[i]?,(pendingOf s)[i+1]?)|unsupported "internal:list.sort.pending"
 set (setPending s (((pendingOf s).setIfInBounds i (sa,na+nb,M7)).eraseIdxIfInBounds (i+1)))
 let some k <- fX false (<-elem' (arrOf s) sb) (arrOf s) sa na 0|return false
 let (sa,na):=(sa+k,na-k)
 if na==0 then return true
 let some nb <- fX true (<-elem' (arrOf s) (sa+na-1)) (arrOf s) sb nb (nb-1)|return false
 if nb==0 then return true
 let x:=(arrOf s).extract sa sb
 let y:=(arrOf s).extract sb (sb+nb)
 let merged <- if na<=nb then o4 x y else o5 x y
 modify fun s=>setArr s (merged.toList.zipIdx.foldl (fun a (p,j)=>a.setIfInBounds (sa+j) p) (arrOf s))
 return (failedOf (<-get)).isNone):=rfl
theorem o8{sa:Nat}:∀ (l:List Keyed) (k:Nat) (arr:Array Keyed),sa+k+l.length<=arr.size->
  ((l.zipIdx k).foldl (fun (a:Array Keyed) (x:Keyed×Nat)=>a.setIfInBounds (sa+x.2) x.1) arr).toList=arr.toList.take (sa+k)++l++arr.toList.drop (sa+k+l.length)
 |[],k,arr,_=>by simp
 |x::l,k,arr,h=>by
  rw[dt] at h;have hs:sa+k<arr.toList.length:=by rw[jO];lia
  rw[List.zipIdx_cons,rN,o8 l (k+1) _ (by rw[Array.size_setIfInBounds];lia),Bg];dsimp only;have e1:(arr.toList.set (sa+k) x).take (sa+(k+1))=arr.toList.take (sa+k)++[x]:=by
   rw[<-Nat.add_assoc,gg,mz hs,List.take_set_of_le (aN _)];rfl
  have e2:(arr.toList.set (sa+k) x).drop (sa+(k+1)+l.length)=arr.toList.drop (sa+k+(x::l).length):=by
   rw[List.drop_set_of_lt (by lia),dt];congr 1;lia
  rw[e1,e2,cK,cK,cK];rfl
section
variable {prog:Program} {w:World} {A:Around} {E:Value->Shared->Prop} {s:Shared} {κ:SortKind} {a₀:Array Keyed}
def SR(κ:SortKind)(a₀:Array Keyed)(lo:Nat)(st:SortSt):Prop:=∃pd,SQ κ a₀ pd st/\gB pd.toList 0 lo/\lo<=a₀.size
theorem iZ{st:SortSt}{i lo:Nat}{Q:Bool->SortSt->Prop}(hC:va prog w A s κ a₀)(hB:SR κ a₀ lo st)(hi:i+1<(pendingOf st).size)(h:∀aV,SR κ a₀ lo aV->Q true aV):wpS (model prog w) A E s (mergeAt' i) Q st:=by
 obtain⟨pd,hq,hr,Pl⟩:=hB;rw[hq.pend] at hi;rw[vh];refine aF (fE ?_);have e1:pd[i]?=some pd[i]:=cL pd i (by lia);have e2:pd[i+1]?=some pd[i+1]:=cL pd (i+1) hi;obtain⟨a1,a2,a3,a4,a5⟩:=hr.two (i:=i) (x:=pd[i]) (y:=pd[i+1]) (by simpa using e1) (by simpa using e2);rw[hq.pend,e1,e2];revert a1 a2 a3 a4 a5;generalize pd[i]=x;generalize pd[i+1]=y;obtain⟨sa,na,pw⟩:=x;obtain⟨sb,nb,Z_⟩:=y;intro a1 a2 a3 a4 a5;dsimp only at a1 a2 a3 a4 a5 |-;obtain⟨FJ,M8⟩:∃FJ,FJ=(pd.setIfInBounds i (sa,na+nb,pw)).eraseIdxIfInBounds (i+1):=⟨_,rfl⟩
 have uv:gB FJ.toList 0 lo:=by
  rw[M8,Array.toList_eraseIdxIfInBounds,Bg];exact a5 pw
 refine aF (FH ?_);rw[<-M8];have Hr:SM κ (arrOf st) FJ (setPending st FJ):=⟨rfl,hq.kind,hq.failed,rfl⟩
 have j9:=hq.size;have nj:∀x∈(arrOf st).toList,x∈a₀.toList:=fun x hx=>(ky.mp hq.perm).mem_iff.mp hx;have dN:∀aV,SM κ (arrOf st) FJ aV->SR κ a₀ lo aV:=fun aV m=>⟨FJ,⟨by rw[m.arr];exact hq.perm,m.kind,m.failed,m.pend⟩,uv,Pl⟩
 refine aF (be (cL (arrOf st) sb (by lia)) ?_);refine aF (eE hC Hr.kind (nj _ (by simp)) nj (by lia) (by lia) fun k hk=>?_);dsimp only;by_cases f1:(na-k==0)=true
 .rw[ak f1];exact aJ (h _ (dN _ Hr))
 rw[al f1];have g1:¬ (na-k=0):=by simpa using f1
 refine aF (be (cL (arrOf st) (sa+k+(na-k)-1) (by lia)) ?_);refine aF (eE hC Hr.kind (nj _ (by simp)) nj (by lia) (by lia) fun k2 XV=>?_);dsimp only;by_cases f2:(k2==0)=true
 .rw[ak f2];exact aJ (h _ (dN _ Hr))
 rw[al f2];have g2:¬ (k2=0):=by simpa using f2
 have hx:∀x∈((arrOf st).extract (sa+k) sb).toList,x∈a₀.toList:=fun x hx=>nj x (by rw[df] at hx;exact rq (jM hx));have hy:∀x∈((arrOf st).extract sb (sb+k2)).toList,x∈a₀.toList:=fun x hx=>nj x (by rw[df] at hx;exact rq (jM hx));have sx:((arrOf st).extract (sa+k) sb).size=sb-(sa+k):=by rw[Array.size_extract];lia
 have sy:((arrOf st).extract sb (sb+k2)).size=k2:=by rw[Array.size_extract];lia
 have last:∀ (out:Array Keyed) (aV:SortSt),out.Perm ((arrOf st).extract (sa+k) sb++(arrOf st).extract sb (sb+k2))->SM κ (arrOf st) FJ aV->wpS (model prog w) A E s (do
   modify fun s=>setArr s (out.toList.zipIdx.foldl (fun a (p,j)=>a.setIfInBounds (sa+k+j) p) (arrOf s))
   return (failedOf (<-get)).isNone) Q aV:=by
  intro out aV hp m;refine aF (eR ?_);refine aF (fE (aJ ?_));have VN:out.toList.length=sb-(sa+k)+k2:=by
   rw[jO,hp.size_eq,Array.size_append,sx,sy]
  have wl:=o8 (sa:=sa+k) out.toList 0 (arrOf aV) (by rw[m.arr,VN];lia);have pm:(out.toList.zipIdx.foldl (fun a (p,j)=>a.setIfInBounds (sa+k+j) p) (arrOf aV)).Perm (arrOf st):=by
   rw[ky];refine(rP wl).trans ?_;rw[m.arr,VN,Nat.add_zero];have Li:=ky.mp hp;rw[dI,df,df] at Li;refine((Li.append_left _).append_right _).trans ?_;have e1:(arrOf st).toList.drop (sa+k)=((arrOf st).toList.drop (sa+k)).take (sb-(sa+k))++(arrOf st).toList.drop sb:=kY (by lia);have e2:(arrOf st).toList.drop sb=((arrOf st).toList.drop sb).take (sb+k2-sb)++(arrOf st).toList.drop (sb+k2):=kY (by lia);have e3:sa+k+(sb-(sa+k)+k2)=sb+k2:=by lia
   rw[e3];refine rP ?_;conv=>rhs;rw[<-lA (sa+k) (arrOf st).toList,e1,e2]
   simp only[cK]
  have hf:(failedOf aV).isNone=true:=by rw[m.failed];rfl
  show Q (failedOf aV).isNone _;rw[hf];exact h _ ⟨FJ,⟨pm.trans hq.perm,m.kind,m.failed,m.pend⟩,uv,Pl⟩
 by_cases f3:na-k<=k2
 .rw[ak f3];exact aF (ve hC Hr hx hy (by lia) (by lia) fun out aV hp m=>last out aV hp m)
 .rw[al f3];exact aF (vg hC Hr hx hy (by lia) (by lia) fun out aV hp m=>last out aV hp m)
theorem vi{c:Prop}[Decidable c]{x:Nat}:(if c then x-1 else x)<=x:=by split <;> lia
theorem SR.pw{lo:Nat}{st:SortSt}(h:SR κ a₀ lo st)(i p:Nat):SR κ a₀ lo (setPending st ((pendingOf st).modify i fun r=>(r.1,r.2.1,p))):=by
 obtain⟨pd,hq,hr,hl⟩:=h;refine⟨_,⟨hq.perm,hq.kind,hq.failed,rfl⟩,?_,hl⟩;show gB ((pendingOf st).modify i fun r=>(r.1,r.2.1,p)).toList 0 lo;rw[hq.pend,Array.toList_modify];exact hr.pw i p
theorem SR.push{lo n:Nat}{st:SortSt}(h:SR κ a₀ lo st)(h1:1<=n)(hn:lo+n<=a₀.size):SR κ a₀ (lo+n) (setPending st ((pendingOf st).push (lo,n,0))):=by
 obtain⟨pd,hq,hr,hl⟩:=h;refine⟨_,⟨hq.perm,hq.kind,hq.failed,rfl⟩,?_,hn⟩;show gB ((pendingOf st).push (lo,n,0)).toList 0 (lo+n);rw[hq.pend,lF];exact hr.push h1
theorem Ai{st:SortSt}{Q:Unit->SortSt->Prop}(hC:va prog w A s κ a₀)(hp:(arrOf st).Perm a₀)(hk:kindOf st=κ)(hf:failedOf st=none)(XW:pendingOf st=#[])(h:∀aV,(arrOf aV).Perm a₀->failedOf aV=none->Q () aV):wpS (model prog w) A E s sortRuns' Q st:=by
 have h0:SR κ a₀ 0 st:=⟨#[],⟨hp,hk,hf,XW⟩,rfl,cS _⟩
 have j9:(arrOf st).size=a₀.size:=hp.size_eq;rw[sortRuns'_eq];refine aF (fE ?_);dsimp only;rw[j9];refine aF (cT (d9 (I:=fun _ c aV=>∃lo,c=(none,lo)/\SR κ a₀ lo aV) (Q:=fun c aV=>∃lo,c=(none,lo)/\SR κ a₀ lo aV) ?_ (fun c aV hh=>hh) ⟨0,rfl,h0⟩) ?_)
 .rintro i c EU _ _ ⟨lo,rfl,hR⟩;dsimp only;by_cases e1:lo>=a₀.size
  .rw[ak e1];exact aJ ⟨lo,rfl,hR⟩
  rw[al e1];have Pl:lo<a₀.size:=by lia
  obtain⟨pd,hq,hr,hl⟩:=hR;refine aF (Ah hC (by lia) (by lia) hq fun n qi Pp n1 n2=>?_);dsimp only;by_cases hm:n<minRun' a₀.size a₀.size 0
  .rw[ak hm];refine aF (j4 (et ⟨rfl,?_⟩));refine aF (Fz hC (by lia) Pp fun wY Vo=>?_);simp only[rT,lE,gJ];have EO:SR κ a₀ lo wY:=⟨pd,Vo,hr,hl⟩
   refine aF (fE ?_);cases hb:(pendingOf wY).back? with
   |none=>
    dsimp only;exact aF (eR (aJ ⟨_,rfl,EO.push (by lia) (by lia)⟩))
   |some r=>
    obtain⟨s1,XX,XY⟩:=r;dsimp only;refine aF (cT (d9 (I:=fun _ c aV=>c=(none,())/\SR κ a₀ lo aV) (Q:=fun c aV=>c=(none,())/\SR κ a₀ lo aV) ?_ (fun c aV hh=>hh) ⟨rfl,EO⟩) ?_)
    .rintro x c pL _ _ ⟨rfl,vj⟩;refine aF (fE ?_);by_cases hs:(pendingOf pL).size > 1
     .rw[ak hs,cL (pendingOf pL) ((pendingOf pL).size-2) (by lia)];generalize (pendingOf pL)[(pendingOf pL).size-2]=r4;obtain⟨_,_,M9⟩:=r4;dsimp only;split
      .exact aJ ⟨rfl,vj⟩
      .refine aF (iZ hC vj (by lia) fun uq M_=>?_);simp only[rT,lE,gJ];exact aJ ⟨rfl,M_⟩
     .rw[al hs];exact aJ ⟨rfl,vj⟩
    .rintro c pL ⟨rfl,vj⟩;dsimp only;exact aF (eR (aF (eR (aJ ⟨_,rfl,(vj.pw _ _).push (by lia) (by lia)⟩))))
  .rw[al hm];have EO:SR κ a₀ lo qi:=⟨pd,Pp,hr,hl⟩
   refine aF (fE ?_);cases hb:(pendingOf qi).back? with
   |none=>
    dsimp only;exact aF (eR (aJ ⟨_,rfl,EO.push (by lia) (by lia)⟩))
   |some r=>
    obtain⟨s1,XX,XY⟩:=r;dsimp only;refine aF (cT (d9 (I:=fun _ c aV=>c=(none,())/\SR κ a₀ lo aV) (Q:=fun c aV=>c=(none,())/\SR κ a₀ lo aV) ?_ (fun c aV hh=>hh) ⟨rfl,EO⟩) ?_)
    .rintro x c pL _ _ ⟨rfl,vj⟩;refine aF (fE ?_);by_cases hs:(pendingOf pL).size > 1
     .rw[ak hs,cL (pendingOf pL) ((pendingOf pL).size-2) (by lia)];generalize (pendingOf pL)[(pendingOf pL).size-2]=r4;obtain⟨_,_,M9⟩:=r4;dsimp only;split
      .exact aJ ⟨rfl,vj⟩
      .refine aF (iZ hC vj (by lia) fun uq M_=>?_);simp only[rT,lE,gJ];exact aJ ⟨rfl,M_⟩
     .rw[al hs];exact aJ ⟨rfl,vj⟩
    .rintro c pL ⟨rfl,vj⟩;dsimp only;exact aF (eR (aF (eR (aJ ⟨_,rfl,(vj.pw _ _).push (by lia) (by lia)⟩))))
 .rintro c EU ⟨lo,rfl,hR⟩;dsimp only;refine aF (cT (d9 (I:=fun _ c aV=>c=(none,())/\SR κ a₀ lo aV) (Q:=fun c aV=>c=(none,())/\SR κ a₀ lo aV) ?_ (fun c aV hh=>hh) ⟨rfl,hR⟩) ?_)
  .rintro x c pL _ _ ⟨rfl,vj⟩;refine aF (fE ?_);by_cases hs:(pendingOf pL).size<=1
   .rw[ak hs];exact aJ ⟨rfl,vj⟩
   rw[al hs];refine aF (iZ hC vj ?_ fun uq M_=>?_)
   .exact gf (Nat.succ_le_succ vi) (show (pendingOf pL).size-2+1<(pendingOf pL).size by lia)
   .simp only[rT,lE,gJ];exact aJ ⟨rfl,M_⟩
  .rintro c pL ⟨rfl,pd,hq,_⟩;exact aJ (h _ hq.perm hq.failed)
end
end PyProof.Rows
namespace L2
open PySem PySem.Spec PyProof.Rows PySem.W
def gZ(h:Heap)(vs:List Value):Prop:=∀v∈vs,∃a o n x t y u,v=Value.ref a/\h.get? a=some o/\o.cls=.type "tuple"/\o.data=.seq #[.int x t,.int y u] n
theorem gZ.gK{h:Heap}:∀ {vs:List Value},gZ h vs->∃fs,KatTups h vs fs/\fs.length=vs.length/\∀v∈fs,∃n t,v=Value.int n t
 |[],_=>⟨[],trivial,rfl,fun v hv=>nomatch hv⟩
 |v::vs,hp=>by
  obtain⟨fs,k1,k2,k3⟩:=gZ.gK (vs:=vs) fun b hb=>hp b (bz _ hb);obtain⟨a,o,n,x,t,y,u,rfl,e,c,d⟩:=hp v bC;refine⟨.int x t::fs,KatTups.cons e c d rfl k1,by simp[k2],fun v hv=>?_⟩;rcases bo.mp hv with z|z
  .exact⟨x,t,z⟩
  .exact k3 v z
section
variable {prog:Program} {w:World} {A:Around} {E:Value->Shared->Prop} {s:Shared}
theorem Aj{vs:List Value}(hp:gZ s.heap vs):va prog w A s (tuples' true) (vs.toArray.zip vs.toArray):=by
 have mem:∀x∈(vs.toArray.zip vs.toArray).toList,x.1∈vs:=by
  intro x hx;rw[Array.toList_zip] at hx;exact(lH hx).1
 intro x y hx hy Q E' q;obtain⟨a,o,n,x1,t1,x2,t2,e1,eo,_,ed⟩:=hp x.1 (mem x hx);obtain⟨b,o',n',y1,u1,y2,u2,e2,XZ,_,X0⟩:=hp y.1 (mem y hy);rw[e1,e2];refine kat_lt eo ed XZ X0 (kat_cons (oC ?_));by_cases h1:x1=y1
 .rw[fD.mpr h1];refine kat_yes (kat_cons (oC ?_));by_cases h2:x2=y2
  .rw[fD.mpr h2];exact kat_yes (kat_nil (q _))
  .rw[lB.mpr h2];exact kat_no (kat_one _ _ (lt_int (q _)))
 .rw[lB.mpr h1];exact kat_no (oneLt_int (q _))
theorem FK{vs:List Value}:((vs.toArray.zip vs.toArray).map (·.2)).toList=vs:=by
 rw[rJ,Array.toList_zip];show (vs.zip vs).map (·.2)=vs;rw[<-List.unzip_snd,List.unzip_zip_right (aN _)]
theorem ny{a:Addr}{vs:List Value}{n:Nat}{P:PySem.Fin->Shared->Prop}(ho:s.heap.get? a=some (seqObj "list" vs.toArray n))(hp:gZ s.heap vs)(hz:vs.length<=4096)(h:∀ (out:Array Value),out.toList.Perm vs->P (.done (.ret .none)) { s with heap:=sortedHeap s.heap a vs out }):
  wpAny (model prog w) A (Builtin.«list.sort» ⟨[.ref a],[]⟩) P E s:=by
 rw[list_sort_plain];have ha:a<s.heap.objs.size:=aU ho;have Lh:vs.toArray.size<=sizeLine:=by rw[cA,iK];lia
 refine ap (listItems_at ho rfl ?_);refine ap (listUpdate_at ho rfl ?_ Lh (cS _));obtain⟨e1,Py⟩:∃e1,(s.heap.update a (Obj.mapSeq fun _=>#[])).get? a=some (seqObj "list" #[] e1):=⟨_,r9 ho (fun _=>#[])⟩
 refine ap (seqEpoch_at Py rfl ?_);refine ap (wpAny_newTuple ?_ (by show vs.length<=_;rw[iK];lia));refine ap (wpAny_newList ?_ (cS _));refine fS ?_;have Lp:(((s.heap.update a (Obj.mapSeq fun _=>#[])).push (seqObj "tuple" vs.toArray 0)).push (seqObj "list" #[] 0)).get? a=some (seqObj "list" #[] e1):=by
  rw[ie _ _ _ (by rw[j3,jA];exact aY (dB ha)),ie _ _ _ (by rw[jA];exact aY ha)];exact Py
 have VO:gZ (((s.heap.update a (Obj.mapSeq fun _=>#[])).push (seqObj "tuple" vs.toArray 0)).push (seqObj "list" #[] 0)) vs:=by
  intro v hv;obtain⟨b,o,n,x,t,y,u,ev,e,c,d⟩:=hp v hv;have hb:b<s.heap.objs.size:=aU e;have iw:b≠a:=by
   rintro rfl;rw[ho] at e;cases e;exact absurd (Value.type.inj c) (by decide)
  refine⟨b,o,n,x,t,y,u,ev,?_,c,d⟩;rw[ie _ _ _ (by rw[j3,jA];exact aY (dB hb)),ie _ _ _ (by rw[jA];exact aY hb),oy _ _ _ _ iw];exact e
 show wpAny (model prog w) A _ P E { s with heap:=((s.heap.update a (Obj.mapSeq fun _=>#[])).push (seqObj "tuple" vs.toArray 0)).push (seqObj "list" #[] 0) };dsimp only;have dN:∀aV:SortSt,(arrOf aV).Perm (vs.toArray.zip vs.toArray)->P (.done (.ret .none)) { s with heap:=sortedHeap s.heap a vs ((arrOf aV).map (·.2)) }:=by
  intro aV Pz;refine h _ ?_;have:=(ky.mp Pz).map (·.2);rw[<-rJ,<-rJ,FK] at this;exact this
 have VP:(vs.toArray.zip vs.toArray).size=vs.length:=by simp
 by_cases h2:vs.toArray.size<2
 .rw[ak h2,ak h2];refine ap (wpAny_pure ?_);rw[StateT.run_pure];refine ap (wpAny_pure ?_);dsimp only;refine ap (seqEpoch_at Lp rfl ?_);refine ap (listUpdate_at Lp rfl ?_ (cS _) (by show ((vs.toArray.zip vs.toArray).map (·.2)).size<=_;rw[gG,VP,iK];lia));simp only[bne_self_eq_false,lE,gJ];exact wpAny_pure (dN (SortSt.mk' general' (vs.toArray.zip vs.toArray) #[] 7 none) (Array.Perm.refl _))
 .rw[al h2,al h2];have eA:2<=vs.length:=by rw[cA] at h2;lia
  obtain⟨fs,k1,k2,k3⟩:=VO.gK;refine ap (kat_kind (T:=.type "int") k1 (by lia) (fun v hv=>?_) rfl ?_)
  .obtain⟨m,t,rfl⟩:=k3 v hv;exact .now
  refine ap (eQ (Ai (a₀:=vs.toArray.zip vs.toArray) (κ:=tuples' true) (st:=SortSt.mk' (tuples' true) (vs.toArray.zip vs.toArray) #[] 7 none)
   (Q:=fun _ aV=>(arrOf aV).Perm (vs.toArray.zip vs.toArray)/\failedOf aV=none) (Aj VO) (Array.Perm.refl _) rfl rfl rfl fun aV b1 b2=>⟨b1,b2⟩) ?_ fun _ _ e=>e)
  rintro⟨⟨⟩,aV⟩ s' ⟨rfl,Pz,hf⟩;dsimp only;refine ap (seqEpoch_at Lp rfl ?_);refine ap (listUpdate_at Lp rfl ?_ (cS _) (by refine bf (rZ ((gG ..).trans (Pz.size_eq.trans VP))) ?_;rw[iK];lia));rw[hf];simp only[bne_self_eq_false,lE,gJ];exact wpAny_pure (dN aV Pz)
theorem tf{l:Addr}{vs:List Value}{Q:Value->Shared->Prop}(hl:s.heap.IsList l vs.toArray)(hp:gZ s.heap vs)(hz:vs.length<=4096)(h:∀ (out:Array Value),out.toList.Perm vs->Q (.ref (s.heap.objs.size+1)) { s with heap:=sortedAll s.heap vs out }):
  wpAny (model prog w) A (call (.builtin "sorted") [.ref l]) Q E s:=by
 have Lh:vs.length<=sizeLine:=by rw[iK];lia
 refine Calls.call_function_entry kind_sorted plain_sorted entry_sorted (args_sorted1 _) ?_;unfold Builtin.«sorted»;refine ap (m:=checkCount "sorted" 1 1 _) (wpAny_pure ?_);refine ap (collect_list hl ?_ Lh);refine ap (wpAny_newList ?_ Lh);have j9:((s.heap.push (seqObj "list" #[] 0)).update s.heap.objs.size (Obj.mapSeq (·++vs.toArray))).objs.size=s.heap.objs.size+1:=by
  rw[jA,j3]
 have EX:(((s.heap.push (seqObj "list" #[] 0)).update s.heap.objs.size (Obj.mapSeq (·++vs.toArray))).push (seqObj "list" vs.toArray 0)).get? (s.heap.objs.size+1)=some (seqObj "list" vs.toArray 0):=by
  rw[<-j9];exact cI _ rfl
 have X1:gZ (((s.heap.push (seqObj "list" #[] 0)).update s.heap.objs.size (Obj.mapSeq (·++vs.toArray))).push (seqObj "list" vs.toArray 0)) vs:=by
  intro v hv;obtain⟨b,o,n,x,t,y,u,ev,e,c,d⟩:=hp v hv;have hb:b<s.heap.objs.size:=aU e;refine⟨b,o,n,x,t,y,u,ev,?_,c,d⟩;rw[ie _ _ _ (by rw[j9];exact aY (dB hb)),oy _ _ _ _ (aY hb),ie _ _ _ (aY hb)];exact e
 show wpAny _ _ _ _ _ { s with heap:=((s.heap.push (seqObj "list" #[] 0)).update s.heap.objs.size (Obj.mapSeq (·++vs.toArray))).push (seqObj "list" vs.toArray 0) };rw[j9];refine ap (fS (iH slot_list_sort ⟨_,EX,rfl⟩ entry_list_sort (ny EX X1 hz fun out a1=>⟨_,rfl,?_⟩) (args_list_sort _)));exact wpAny_pure ⟨_,rfl,h out a1⟩
end
theorem vk:∀ {as:List Addr} {its:List Value},aP (as.map V.ref) its->its=as.map Value.ref
 |[],_,r=>by cases r;rfl
 |a::as,_,r=>by
  cases r with
  |cons r rr=>
   obtain rfl:=(show _=Value.ref a from r)
   rw[vk rr];rfl
theorem qI:∀ {as:List Addr},aP (as.map V.ref) (as.map Value.ref)
 |[]=>.nil
 |_::_=>.cons rfl qI
theorem Ak{as:List Addr}{vs:List Value}(h:vs.Perm (as.map Value.ref)):∃vP:List Addr,vs=vP.map Value.ref/\vP.Perm as:=by
 let un:Value->Addr:=fun v=>match v with|.ref a=>a|_=>0
 refine⟨vs.map un,?_,?_⟩
 .rw[fc];have:∀v∈vs,(Value.ref ∘ un) v=v:=by
   intro v hv;obtain⟨a,_,rfl⟩:=aX.mp (h.mem_iff.mp hv);rfl
  conv=>lhs;rw[<-iJ vs]
  exact mD fun v hv=>(this v hv).symm
 .have:=h.map un;rw[fc] at this;have e:as.map (un ∘ Value.ref)=as:=by
   conv=>rhs;rw[<-iJ as]
   exact mD fun a _=>rfl
  rw[e] at this;exact this
def C2(K:PySem.W.Frag):List V->Hp->VK->Prop:=fun xs H Q=>∃ (l:Addr) (as:List Addr),xs=[.ref l]/\bn K H l (as.map V.ref)/\(∀a∈as,∃x y:Int,bK K H a [.int x,.int y])/\as.length<=4096/\
 ∀ (D:Addr) (vP:List Addr),H D=none->vP.Perm as->Q (.ref D) (upd H D (.lst (vP.map V.ref)))
theorem xK{X:Cx}:eK X (.builtin "sorted") (C2 X.K):=by
 intro ae s σ H xs us Q I r h;obtain⟨l,as,rfl,hl,hp,hz,q⟩:=h;obtain⟨u1,rfl,r1⟩:=r.one;obtain rfl:u1=Value.ref l:=r1;obtain⟨its,rv,pl,_⟩:=I.list hl;have Jh:=vk rv;subst Jh;have X2:gZ s.heap (as.map Value.ref):=by
  intro v hv;obtain⟨a,ha,rfl⟩:=aX.mp hv;obtain⟨x,y,PC⟩:=hp a ha;obtain⟨its,r,⟨o,e,c,n,d⟩,_⟩:=I.tuple PC;obtain⟨u1,u2,rfl,r1,r2⟩:=r.two;obtain⟨t,rfl⟩:=r1;obtain⟨t',rfl⟩:=r2;exact⟨a,o,n,x,t,y,t',rfl,e,c,d⟩
 refine tf pl.isList X2 (by rw[aW];exact hz) fun out Na=>?_;obtain⟨vP,eo,pa⟩:=Ak Na;have Aa:out=(vP.map Value.ref).toArray:=by rw[<-eo]
 subst Aa;have RG:((s.heap.push (seqObj "list" #[] 0)).update s.heap.objs.size (Obj.mapSeq (·++(as.map Value.ref).toArray))).objs.size=s.heap.objs.size+1:=by rw[jA,j3]
 have k1:∀b u,s.heap.get? b=some u->(((s.heap.push (seqObj "list" #[] 0)).update s.heap.objs.size (Obj.mapSeq (·++(as.map Value.ref).toArray))).push (seqObj "list" (as.map Value.ref).toArray 0)).get? b=some u:=fun b u e=>by
  have hb:b<s.heap.objs.size:=aU e;rw[ie _ _ _ (by rw[RG];exact aY (dB hb)),oy _ _ _ _ (aY hb),ie _ _ _ (aY hb)];exact e
 have EX:(((s.heap.push (seqObj "list" #[] 0)).update s.heap.objs.size (Obj.mapSeq (·++(as.map Value.ref).toArray))).push (seqObj "list" (as.map Value.ref).toArray 0)).get? (s.heap.objs.size+1)=some (seqObj "list" (as.map Value.ref).toArray 0):=by
  rw[<-RG];exact cI _ rfl
 have Lq:(((s.heap.push (seqObj "list" #[] 0)).update s.heap.objs.size (Obj.mapSeq (·++(as.map Value.ref).toArray))).push (seqObj "list" (as.map Value.ref).toArray 0)).objs.size=s.heap.objs.size+2:=by rw[j3,RG]
 show EP X ae σ Q (.ref (s.heap.objs.size+1)) { s with heap:=sortedHeap (((s.heap.push (seqObj "list" #[] 0)).update s.heap.objs.size (Obj.mapSeq (·++(as.map Value.ref).toArray))).push (seqObj "list" (as.map Value.ref).toArray 0)) (s.heap.objs.size+1) (as.map Value.ref) (vP.map Value.ref).toArray };revert k1 EX Lq;generalize ((s.heap.push (seqObj "list" #[] 0)).update s.heap.objs.size (Obj.mapSeq (·++(as.map Value.ref).toArray))).push (seqObj "list" (as.map Value.ref).toArray 0)=h1;intro k1 EX Lq;obtain⟨e1,Py⟩:∃e1,(h1.update (s.heap.objs.size+1) (Obj.mapSeq fun _=>(#[]:Array Value))).get? (s.heap.objs.size+1)=some (seqObj "list" #[] e1):=⟨_,r9 EX (fun _=>#[])⟩
 have Lp:(((h1.update (s.heap.objs.size+1) (Obj.mapSeq fun _=>(#[]:Array Value))).push (seqObj "tuple" (as.map Value.ref).toArray 0)).push (seqObj "list" #[] 0)).get? (s.heap.objs.size+1)=some (seqObj "list" #[] e1):=by
  rw[ie _ _ _ (by rw[j3,jA,Lq];exact aY (dB (kD _))),ie _ _ _ (by rw[jA,Lq];exact aY (kD _))];exact Py
 obtain⟨e2,X3⟩:∃e2,(sortedHeap h1 (s.heap.objs.size+1) (as.map Value.ref) (vP.map Value.ref).toArray).get? (s.heap.objs.size+1)=some (seqObj "list" (vP.map Value.ref).toArray e2):=⟨_,r9 Lp (fun _=>(vP.map Value.ref).toArray)⟩
 have keep:∀b u,s.heap.get? b=some u->(sortedHeap h1 (s.heap.objs.size+1) (as.map Value.ref) (vP.map Value.ref).toArray).get? b=some u:=fun b u e=>by
  have hb:b<s.heap.objs.size:=aU e;unfold sortedHeap;rw[oy _ _ _ _ (aY (dB hb)),ie _ _ _ (by rw[j3,jA,Lq];exact aY (dB (dB (dB hb)))),ie _ _ _ (by rw[jA,Lq];exact aY (dB (dB hb))),oy _ _ _ _ (aY (dB hb))];exact k1 b u e
 have HK:s.heap.get? (s.heap.objs.size+1)=none:=rD (by lia);refine⟨.ref (s.heap.objs.size+1),_,I.Cp (t':=s.toks) (o:=.lst (vP.map V.ref)) keep HK ⟨?_,vP.map Value.ref,e2,qI,X3⟩,rfl,q _ vP (I.br.oY HK) pa⟩;rw[aW,pa.length_eq];exact bf hz (by decide)
open PySem PySem.Spec PyProof.Rows
section
variable {prog:Program} {w:World} {A:Around} {E:Value->Shared->Prop} {s:Shared}
end
section
variable {X:Cx}
end
end L2
namespace ir
abbrev Ts:=List (Int×Int)
def T(ts:Ts)(a b:Nat):Prop:=(((a:Nat):Int),((b:Nat):Int))∈ts
instance (ts:Ts) (a b:Nat):Decidable (T ts a b):=inferInstanceAs (Decidable (_∈_))
def g7(ts:Ts):Nat->Nat->Nat->Prop
 |0,a,b=>a=b
 |k+1,a,b=>∃c,g7 ts k a c/\T ts c b
theorem g7.trans(h:g7 ts k a b):∀ {l:Nat} {c:Nat},g7 ts l b c->g7 ts (k+l) a c
 |0,_,e=>by cases e;exact h
 |l+1,_,⟨d,w,t⟩=>⟨d,h.trans w,t⟩
theorem g7.one(h:T ts a b):g7 ts 1 a b:=⟨a,rfl,h⟩
theorem g7.cons(h:T ts a b)(w:g7 ts k b c):g7 ts (k+1) a c:=by
 have:=(g7.one h).trans w;rwa [Nat.add_comm] at this
def qJ(ts:Ts)(a b d:Nat):Prop:=g7 ts d a b/\∀k,g7 ts k a b->d<=k
theorem qJ.uniq(h:qJ ts a b d)(g:qJ ts a b e):d=e:=Nat.le_antisymm (h.2 _ g.1) (g.2 _ h.1)
open Classical in
noncomputable def HL(ts:Ts)(a b:Nat):Nat:=if h:∃d,qJ ts a b d then h.choose else 0
theorem Jr(h:qJ ts a b d):HL ts a b=d:=by
 unfold HL;have hx:∃d,qJ ts a b d:=⟨d,h⟩
 rw[dif_pos hx];exact hx.choose_spec.uniq h
structure i6(n:Nat)(ts:Ts):Prop where
 n1:2<=n
 n2:n<=32
 nd:ts.Nodup
 rg:∀t∈ts,(0<=t.1/\t.1<n)/\(0<=t.2/\t.2<n)
 ne:∀t∈ts,t.1≠t.2
 X4:∀h:Int,(ts.filter fun t=>decide (t.1=h)).length=(ts.filter fun t=>decide (t.2=h)).length
 most:∀h:Int,(ts.filter fun t=>decide (t.1=h)).length<=8
 con:∀a b,a<n->b<n->∃k,g7 ts k a b
theorem Al(f:α->Int):∀ (l:List α) (n:Nat),(∀x∈l,0<=f x/\f x<n)->(∀h:Int,(l.filter fun t=>decide (f t=h)).length<=8)->l.length<=8*n:=by
 intro l n;induction n generalizing l with
 |zero=>
  intro h _;cases l with
  |nil=>simp
  |cons x xs=>have:=h x bC;lia
 |succ n ih=>
  intro h h8;have e:l.length=(l.filter fun t=>decide (f t=(n:Int))).length+(l.filter fun t=>!decide (f t=(n:Int))).length:=by
   induction l with
   |nil=>rfl
   |cons x xs X5=>
    have:=X5 (fun y hy=>h y (bz _ hy)) (fun hh=>bf (by rw[fA];split <;> simp) (h8 hh));by_cases q:f x=(n:Int) <;> simp[fA,q] <;> lia
  have i2:=ih (l.filter fun t=>!decide (f t=(n:Int))) (fun x hx=>by
   have a:=h x (du.mp hx |>.1);have b:=(du.mp hx).2;simp at b;lia) (fun hh=>by
   refine bf ?_ (h8 hh);exact(wm.filter _).length_le)
  have:=h8 (n:Int);lia
theorem i6.len(F:i6 n ts):ts.length<=256:=by
 have:=Al (·.1) ts n (fun t ht=>(F.rg t ht).1) F.most;have:=F.n2;lia
theorem i6.VQ(F:i6 n ts)(h:T ts a b):a<n/\b<n/\a≠b:=by
 have q:=F.rg _ h;have q2:=F.ne _ h;refine⟨by have:=q.1;simp at this;lia,by have:=q.2;simp at this;lia,fun e=>q2 (by rw[e])⟩
def dg(n:Nat)(ts:Ts)(h:Nat):List Nat:=((List.range n).map fun s=>(h+s) % n).filter fun o=>decide (T ts h o)
theorem dE(F:i6 n ts)(hh:h<n):o∈dg n ts h↔T ts h o:=by
 unfold dg;rw[du,jR];refine⟨fun z=>z.2,fun z=>⟨?_,z⟩⟩;obtain⟨_,h2,_⟩:=F.VQ z;refine aX.mpr ⟨if h<=o then o-h else o+n-h,cR.mpr (by split <;> lia),?_⟩;split
 .rw[show h+(o-h)=o by lia,iG h2]
 .rw[show h+(o+n-h)=o+n by lia,Nat.add_mod_right,iG h2]
theorem FL(F:i6 n ts)(hh:h<n)(ho:o∈dg n ts h):o<n:=(F.VQ ((dE F hh).mp ho)).2.1
def key(n h o:Nat):Int:=((o:Int)-(h:Int)) % (n:Int)
theorem C3(hh:h<n)(hs:s<n):key n h ((h+s) % n)=(s:Int):=by
 unfold key;by_cases c:h+s<n
 .rw[iG c,show (((h+s:Nat):Int)-(h:Int))=(s:Int) by lia];exact Int.emod_eq_of_lt (by lia) (by lia)
 .have e:(h+s) % n=h+s-n:=by
   rw[Nat.mod_eq_sub_mod (by lia),iG (by lia)]
  rw[e,show ((((h+s-n:Nat)):Int)-(h:Int))=(s:Int)-(n:Int) by lia,Int.sub_emod_right];exact Int.emod_eq_of_lt (by lia) (by lia)
theorem vm(hh:h<n):(dg n ts h).Pairwise fun a b=>key n h a<key n h b:=by
 unfold dg;refine List.Pairwise.filter _ ?_;refine kB.mpr ?_;refine List.Pairwise.imp_of_mem ?_ (List.pairwise_lt_range (n:=n));intro a b ha hb PD;rw[C3 hh (cR.mp ha),C3 hh (cR.mp hb)];lia
theorem mS{α:Type}{k:α->Int}:∀ {a b:List α},a.Pairwise (fun x y=>k x<k y)->b.Pairwise (fun x y=>k x<k y)->(∀x,x∈a↔x∈b)->a=b
 |[],[],_,_,_=>rfl
 |[],y::ys,_,_,h=>absurd ((h y).mpr bC) (by simp)
 |x::xs,[],_,_,h=>absurd ((h x).mp bC) (by simp)
 |x::xs,y::ys,ha,hb,h=>by
  obtain⟨a1,a2⟩:=List.pairwise_cons.mp ha;obtain⟨b1,b2⟩:=List.pairwise_cons.mp hb;have e:x=y:=by
   rcases bo.mp ((h x).mp bC) with z|z
   .exact z
   .rcases bo.mp ((h y).mpr bC) with z'|z'
    .exact z'.symm
    .have q1:=b1 x z;have q2:=a1 y z';lia
  subst e;refine congrArg (x::·) (mS a2 b2 fun z=>⟨fun hz=>?_,fun hz=>?_⟩)
  .rcases bo.mp ((h z).mp (bz _ hz)) with q|q
   .subst q;exact absurd (a1 _ hz) (by lia)
   .exact q
  .rcases bo.mp ((h z).mpr (bz _ hz)) with q|q
   .subst q;exact absurd (b1 _ hz) (by lia)
   .exact q
structure Am(n:Nat)(ts:Ts)(s i:Nat)(R:List Nat)(f:Nat->Nat):Prop where
 nd:R.Nodup
 lt:∀x∈R,x<n
 st:s∈R
 z:f s=0
 wk:∀x∈R,g7 ts (f x) s x
 up:R.Pairwise fun a b=>f a<=f b
 bd:∀u,R[i]?=some u->∀x∈R,f x<=f u+1
 cl:∀j u,j<i->R[j]?=some u->∀v,T ts u v->v∈R/\f v<=f u+1
theorem Am.start(hs:s<n):Am n ts s 0 [s] (fun _=>0):=
 ⟨by simp,fun x hx=>by simp at hx;lia,by simp,rfl,fun x hx=>by simp at hx;subst hx;rfl,by simp,fun u _ x _=>by lia,fun j u h=>absurd h (by lia)⟩
def put(f:Nat->Nat)(v k:Nat):Nat->Nat:=fun y=>if y=v then k else f y
theorem i7:put f v k v=k:=by simp[put]
theorem eW(h:x≠v):put f v k x=f x:=by simp[put,h]
theorem Am.add(B:Am n ts s i R f)(hu:R[i]?=some u)(hv:v<n)(t:T ts u v)(hn:v∉R):Am n ts s i (R++[v]) (put f v (f u+1)):=by
 have VR:u∈R:=dA hu;have nv:∀x∈R,x≠v:=fun x hx e=>hn (e ▸ hx);have hi:i<R.length:=(cH.mp hu).1;refine⟨?_,fun x hx=>?_,fR _ B.st,by rw[eW (nv s B.st)];exact B.z,fun x hx=>?_,?_,fun w hw x hx=>?_,fun j w hj hw x hx=>?_⟩
 .rw[rE];exact⟨B.nd,by simp,fun a ha b hb e=>by simp at hb;subst hb;exact hn (e ▸ ha)⟩
 .rcases cQ.mp hx with z|z
  .exact B.lt x z
  .simp at z;lia
 .rcases cQ.mp hx with z|z
  .rw[eW (nv x z)];exact B.wk x z
  .simp at z;subst z;rw[i7];exact⟨u,B.wk u VR,t⟩
 .rw[List.pairwise_append];refine⟨B.up.imp_of_mem fun {a b} ha hb h=>by rw[eW (nv a ha),eW (nv b hb)];exact h,by simp,fun a ha b hb=>?_⟩;simp at hb;subst hb;rw[eW (nv a ha),i7];exact B.bd u hu a ha
 .have An:w=u:=by
   rw[my hi,hu] at hw;exact(bi hw).symm
  subst An;rw[eW (nv w VR)];rcases cQ.mp hx with z|z
  .rw[eW (nv x z)];exact B.bd w hu x z
  .simp at z;subst z;rw[i7];exact aN _
 .rw[my (by lia)] at hw;obtain⟨a,b⟩:=B.cl j w hj hw x hx;refine⟨fR _ a,?_⟩;rw[eW (nv x a),eW (nv w (dA hw))];exact b
theorem Am.next(B:Am n ts s i R f)(hu:R[i]?=some u)(h:∀v,T ts u v->v∈R/\f v<=f u+1):Am n ts s (i+1) R f:=by
 refine⟨B.nd,B.lt,B.st,B.z,B.wk,B.up,fun w hw x hx=>?_,fun j w hj hw v hv=>?_⟩
 .have h1:=B.bd u hu x hx;have h2:f u<=f w:=by
   have hi:i<R.length:=(cH.mp hu).1;have HG:i+1<R.length:=(cH.mp hw).1;have:=List.pairwise_iff_getElem.mp B.up i (i+1) hi HG (by lia);rw[cr hi] at hu;rw[cr HG] at hw;rw[bi hu,bi hw] at this;exact this
  lia
 .by_cases e:j=i
  .subst e;rw[hu] at hw;cases hw;exact h v hv
  .exact B.cl j w (by lia) hw v hv
theorem g8:∀ {n:Nat} {R:List Nat},R.Nodup->(∀x∈R,x<n)->R.length<=n:=by
 intro n R hn hl;have key:∀ (a b:List Nat),a.Nodup->(∀x∈a,x∈b)->a.length<=b.length:=by
  intro a;induction a with
  |nil=>intro b _ _;exact cS _
  |cons x xs ih=>
   intro b hn hs;obtain⟨h1,h2⟩:=dC.mp hn;have hx:x∈b:=hs x bC;have:=ih (b.erase x) h2 fun y hy=>(rB (fun (e:y=x)=>h1 (e ▸ hy))).mpr (hs y (bz _ hy));rw[re hx] at this;have:0<b.length:=rn hx;rw[dt];lia
 have:=key R (List.range n) hn fun x hx=>cR.mpr (hl x hx);rwa [iB] at this
theorem Am.done(B:Am n ts s i R f)(F:i6 n ts)(hi:R.length<=i)(hx:x<n):x∈R/\f x=HL ts s x:=by
 have cl:∀u∈R,∀v,T ts u v->v∈R/\f v<=f u+1:=fun u hu v hv=>by
  obtain⟨j,hj,e⟩:=rA.mp hu;exact B.cl j u (by lia) (by rw[cr hj,e]) v hv
 have walk:∀k x,g7 ts k s x->x∈R/\f x<=k:=by
  intro k;induction k with
  |zero=>intro x e;cases e;exact⟨B.st,by rw[B.z];exact aN _⟩
  |succ k ih=>
   rintro x ⟨c,w,t⟩;obtain⟨c1,c2⟩:=ih c w;obtain⟨d1,d2⟩:=cl c c1 x t;exact⟨d1,by lia⟩
 obtain⟨k,w⟩:=F.con s x (B.lt s B.st) hx;obtain⟨m,_⟩:=walk k x w;exact⟨m,(Jr ⟨B.wk x m,fun k w=>(walk k x w).2⟩).symm⟩
end ir
namespace L2
open PySem PySem.Spec PyProof.Rows
section
variable {X:Cx}
theorem vn:∀ {ns:List Int} {its:List Value},aP (ns.map V.int) its->∃xs:List (Int×Tok),its=xs.map (fun p=>Value.int p.1 p.2)/\xs.map (·.1)=ns
 |[],_,r=>by cases r;exact⟨[],rfl,rfl⟩
 |n::ns,_,r=>by
  cases r with
  |cons r rr=>
   obtain⟨t,rfl⟩:=(show ∃t,_=Value.int n t from r)
   obtain⟨xs,rfl,e⟩:=vn rr;exact⟨(n,t)::xs,rfl,by rw[f9,e]⟩
end
end L2
namespace ir
abbrev y3(u:Int×Int):Int×Int:=(u.2,u.1)
def ku(ps:Ts):Ts:=ps.flatMap fun u=>[u,y3 u]
theorem xL:ku (ps++qs)=ku ps++ku qs:=List.flatMap_append
theorem i8:∀ {ps:Ts},(ku ps).Perm (ps++ps.map y3)
 |[]=>List.Perm.refl _
 |u::ps=>by
  have ih:=i8 (ps:=ps);show (u::y3 u::ku ps).Perm (u::(ps++y3 u::ps.map y3));refine List.Perm.cons _ ?_;exact(ih.cons _).trans List.perm_middle.symm
theorem tj:∀ {ps:Ts},(ku ps).length=2*ps.length
 |[]=>rfl
 |u::ps=>by
  have ih:=tj (ps:=ps);show (ku ps).length+2=2*(ps.length+1);lia
theorem FM(h:u∈ku ps):y3 u∈ku ps:=by
 obtain⟨v,hv,hu⟩:=wH.mp h;refine wH.mpr ⟨v,hv,?_⟩;rcases bo.mp hu with e|e
 .rw[e];exact bz _ (cJ.mpr rfl)
 .rw[cJ.mp e];exact bC
theorem eJ:u∈ku ps↔u∈ps\/y3 u∈ps:=by
 rw[(i8 (ps:=ps)).mem_iff,cQ];refine or_congr Iff.rfl ⟨fun h=>?_,fun h=>aX.mpr ⟨_,h,rfl⟩⟩;obtain⟨v,hv,rfl⟩:=aX.mp h;exact hv
theorem FN:((ku ps).map y3).Perm (ku ps):=by
 refine((i8 (ps:=ps)).map y3).trans (List.Perm.trans ?_ (i8 (ps:=ps)).symm);rw[dJ,fc];have e:ps.map (y3 ∘ y3)=ps:=(mD fun u _=>rfl).trans (iJ ps);rw[e];exact iz
abbrev nZ(q:Nat×Nat):Int×Int:=((q.1:Int),(q.2:Int))
def b1(b:Bool):Nat:=cond b 1 0
def kl(h:Nat):List (Nat×Nat)->Nat
 |[]=>0
 |q::qs=>b1 (Nat.beq q.1 h)+(b1 (Nat.beq q.2 h)+kl h qs)
theorem y4{h:Nat}:∀ {qs:List (Nat×Nat)},((ku (qs.map nZ)).filter fun t=>decide (t.1=(h:Int))).length=kl h qs
 |[]=>rfl
 |q::qs=>by
  have ih:=y4 (h:=h) (qs:=qs);have e:∀a:Nat,(if decide ((a:Int)=(h:Int))=true then 1 else 0)=b1 (Nat.beq a h):=fun a=>by
   by_cases c:a=h
   .subst c;rw[ak (by simp),Nat.beq_refl];rfl
   .rw[al (by simp;lia),show Nat.beq a h=false from kC.mpr fun z=>c (Nat.eq_of_beq_eq_true z)];rfl
  show ((nZ q::y3 (nZ q)::ku (qs.map nZ)).filter _).length=b1 (Nat.beq q.1 h)+(b1 (Nat.beq q.2 h)+kl h qs);rw[<-ih,<-e q.1,<-e q.2,fA,fA];split <;> split <;> simp <;> lia
def pr:List Nat->Nat
 |[]=>1
 |n::ns=>n*pr ns
def pX(m st n:Nat):List (Nat×Nat):=((List.range m).filter fun h=>decide (h / st % n+1<n)).map fun h=>(h,h+st)
def bx(m:Nat):Nat->List Nat->List (Nat×Nat)
 |_,[]=>[]
 |st,n::ns=>pX m st n++bx m (st*n) ns
def g9(ns:List Nat):List (Nat×Nat):=bx (pr ns) 1 ns
def FP:Nat->List Nat->Nat->Nat->Prop
 |_,[],_,_=>False
 |st,n::ns,a,b=>(a / st % n+1<n/\b=a+st)\/FP (st*n) ns a b
theorem y6:q∈pX m st n↔q.1<m/\q.1 / st % n+1<n/\q.2=q.1+st:=by
 unfold pX;rw[aX];constructor
 .rintro⟨h,hh,rfl⟩;obtain⟨h1,h2⟩:=du.mp hh;exact⟨cR.mp h1,eY h2,rfl⟩
 .rintro⟨h1,h2,h3⟩;exact⟨q.1,du.mpr ⟨cR.mpr h1,bD h2⟩,jZ rfl h3.symm⟩
theorem ml:∀ {ns:List Nat} {st:Nat},q∈bx m st ns↔q.1<m/\FP st ns q.1 q.2
 |[],st=>⟨fun h=>(nomatch h),fun h=>h.2.elim⟩
 |n::ns,st=>by
  unfold bx FP;rw[cQ,y6,ml (ns:=ns)];constructor
  .rintro(⟨a,b,c⟩|⟨a,b⟩)
   .exact⟨a,.inl ⟨b,c⟩⟩
   .exact⟨a,.inr b⟩
  .rintro⟨a,⟨b,c⟩|b⟩
   .exact .inl ⟨a,b,c⟩
   .exact .inr ⟨a,b⟩
abbrev U(ns:List Nat):Nat->Nat->Prop:=FP 1 ns
theorem tq:∀ {ns:List Nat} {st a b:Nat},0<st->(∀n∈ns,0<n)->(FP st ns a b↔a % st=b % st/\U ns (a / st) (b / st))
 |[],st,a,b,h,_=>⟨fun z=>z.elim,fun z=>z.2.elim⟩
 |n::ns,st,a,b,h,hn=>by
  have Ck:=hn n bC;have u6:∀n∈ns,0<n:=fun x hx=>hn x (bz _ hx);show (_\/FP (st*n) ns a b)↔a % st=b % st/\(_\/FP (1*n) ns (a / st) (b / st))
  rw[r6,tq (lK h Ck) u6,tq Ck u6,lM,n_ a st n,n_ b st n,Nat.mod_mul,Nat.mod_mul];have e1:=iE a st;have e2:=iE b st;constructor
  .rintro(⟨c,rfl⟩|⟨c,d⟩)
   .refine⟨by rw[Nat.add_mod_right],.inl ⟨c,by rw[Nat.add_div_right _ h]⟩⟩
   .have m1:a % st=b % st:=by
     have:=congrArg (· % st) c;simp only[Bh,Nat.mod_mod] at this;exact this
    refine⟨m1,.inr ⟨?_,d⟩⟩;rw[m1] at c;exact Nat.eq_of_mul_eq_mul_left h (Nat.add_left_cancel c)
  .rintro⟨m1,⟨c,d⟩|⟨c,d⟩⟩
   .refine .inl ⟨c,?_⟩;rw[<-e2,d,<-m1,oI,lL,Nat.add_right_comm,e1]
   .exact .inr ⟨by rw[m1,c],d⟩
theorem tw (h : ∀ x∈n :: ns,0 < x) : U (n :: ns) a b↔(a % n + 1 < n/\b = a + 1)\/(a % n = b % n/\U ns (a / n) (b / n)):=by
 show (_\/FP (1 * n) ns a b)↔_;rw [r6,tq (h n bC) fun x hx=>h x (bz _ hx),lM]
theorem km(h:a % n+1<n):(a+1) / n=a / n/\(a+1) % n=a % n+1:=by
 have e:=iE a n;have e2:a+1=n*(a / n)+(a % n+1):=by lia
 have hn:0<n:=by lia
 rw[e2,Nat.mul_add_div hn,Nat.mul_add_mod,wG h,iG h];exact⟨rfl,rfl⟩
theorem Nb:∀ {ns:List Nat} {a b:Nat},(∀x∈ns,0<x)->U ns a b->a<pr ns->a<b/\b<pr ns
 |[],a,b,_,h,_=>h.elim
 |n::ns,a,b,hn,h,ha=>by
  have Ck:=hn n bC;have u6:∀n∈ns,0<n:=fun x hx=>hn x (bz _ hx);have Mq:a<n*pr ns:=ha;have hq:a / n<pr ns:=wb Mq;show a<b/\b<n*pr ns;rcases(tw hn).mp h with ⟨c,rfl⟩|⟨c,d⟩
  .refine⟨by lia,?_⟩;have e:=iE a n;have:=lC n hq;rw[Nat.succ_eq_add_one,oI,lL] at this;lia
  .obtain⟨i1,i2⟩:=Nb u6 d hq;refine⟨?_,?_⟩
   .have e1:=iE a n;have e2:=iE b n;have:=Be i1 Ck;lia
   .have e2:=iE b n;have hm:=iL b Ck;have:=lC n i2;rw[Nat.succ_eq_add_one,oI,lL] at this;lia
theorem C4:∀ {ns:List Nat} {v:Nat},(∀x∈ns,0<x)->0<v->v<pr ns->∃u,u<v/\U ns u v
 |[],v,_,h1,h2=>by have h2:v<1:=h2;lia
 |n::ns,v,hn,h1,h2=>by
  have Ck:=hn n bC;have u6:∀n∈ns,0<n:=fun x hx=>hn x (bz _ hx);have lv:=iL v Ck;have ev:=iE v n;by_cases c:v % n=0
  .have hq:0<v / n:=by
    rcases Nat.eq_zero_or_pos (v / n) with z|z
    .rw[z,c] at ev;simp at ev;lia
    .exact z
   obtain⟨u,hu,uu⟩:=C4 (v:=v / n) u6 hq (wb h2);refine⟨n*u,?_,(tw hn).mpr (.inr ⟨by rw[Nat.mul_mod_right,c],by rw[Nat.mul_div_cancel_left _ Ck];exact uu⟩)⟩;have:=Be hu Ck;lia
  .have hv:v-1=n*(v / n)+(v % n-1):=by lia
   have hm:(v-1) % n=v % n-1:=by rw[hv,Nat.mul_add_mod,iG (by lia)]
   exact⟨v-1,by lia,(tw hn).mpr (.inl ⟨by lia,by lia⟩)⟩
theorem y7:∀ {ns:List Nat} {st a b:Nat},(∀x∈ns,0<x)->FP st ns a b->a+st<=b
 |[],st,a,b,_,h=>h.elim
 |n::ns,st,a,b,hn,h=>by
  rcases h with ⟨_,rfl⟩|h
  .exact aN _
  .have:=y7 (fun x hx=>hn x (bz _ hx)) h;have h1:=v4 st (hn n bC);lia
theorem Ao:(pX m st n).Nodup:=by
 unfold pX;refine qb.mpr (kB.mpr ?_);exact(qb.mp (rH.sublist wm)).imp fun {a b} h e=>h (congrArg Prod.fst e)
theorem vo:∀ {ns:List Nat} {st:Nat},0<st->(∀x∈ns,2<=x)->(bx m st ns).Nodup
 |[],_,_,_=>ig
 |n::ns,st,h,hn=>by
  have Lg:=hn n bC;have u6:∀x∈ns,2<=x:=fun x hx=>hn x (bz _ hx);refine rE.mpr ⟨Ao,vo (lK h (by lia)) u6,fun x hx y hy e=>?_⟩;subst e;have h1:=(y6.mp hx).2.2;have h2:=y7 (fun x hx=>by have:=u6 x hx;lia) (ml.mp hy).2;have h3:=lC st Lg;lia
theorem Ap(nd:ps.Nodup)(h:∀u∈ps,u.1<u.2):(ku ps).Nodup:=by
 refine(i8 (ps:=ps)).nodup_iff.mpr (rE.mpr ⟨nd,?_,fun x hx y hy e=>?_⟩)
 .refine qb.mpr (kB.mpr ((qb.mp nd).imp fun {a b} PD e=>PD ?_));exact jZ (congrArg Prod.snd e) (congrArg Prod.fst e)
 .subst e;obtain⟨u,hu,rfl⟩:=aX.mp hy;have h1:=h _ hx;have h2:=h u hu;have h1:u.2<u.1:=h1;lia
theorem Aq{qs:List (Nat×Nat)}(h:qs.Nodup):(qs.map nZ).Nodup:=by
 refine qb.mpr (kB.mpr ((qb.mp h).imp fun {a b} PD e=>PD ?_));exact jZ (cZ (congrArg Prod.fst e)) (cZ (congrArg Prod.snd e))
theorem mU:∀ {a b:List (Nat×Nat)},kl h (a++b)=kl h a+kl h b
 |[],b=>by show kl h b=0+_;lia
 |q::a,b=>by
  have:=mU (h:=h) (a:=a) (b:=b);show b1 _+(b1 _+kl h (a++b))=b1 _+(b1 _+kl h a)+kl h b;lia
theorem HN:b1 (Nat.beq a b)=if a=b then 1 else 0:=by
 by_cases c:a=b
 .subst c;rw[ak rfl,Nat.beq_refl];rfl
 .rw[al c,show Nat.beq a b=false from kC.mpr fun z=>c (Nat.eq_of_beq_eq_true z)];rfl
theorem y8:∀ {L:List Nat},L.Nodup->kl h (L.map fun x=>(x,x+st))<=(if h∈L then 1 else 0)+(if st<=h/\h-st∈L then 1 else 0)
 |[],_=>cS _
 |x::L,nd=>by
  obtain⟨n1,n2⟩:=dC.mp nd;have ih:=y8 (h:=h) (st:=st) n2;show b1 (Nat.beq x h)+(b1 (Nat.beq (x+st) h)+kl h (L.map fun x=>(x,x+st)))<=_;rw[HN,HN];have e1:(if h∈x::L then 1 else 0)=(if x=h then 1 else 0)+(if h∈L then 1 else 0):=by
   by_cases c:x=h
   .subst c;rw[ak bC,ak rfl,al n1]
   .rw[al c];by_cases d:h∈L
    .rw[ak (bz _ d),ak d]
    .rw[al d,al (fun z=>(bo.mp z).elim (fun z=>c z.symm) d)]
  have e2:(if st<=h/\h-st∈x::L then 1 else 0)=(if x+st=h then 1 else 0)+(if st<=h/\h-st∈L then 1 else 0):=by
   by_cases c:x+st=h
   .have e:h-st=x:=by lia
    rw[ak c,e,ak ⟨by lia,bC⟩,al (fun z=>n1 z.2)]
   .rw[al c];by_cases d:st<=h/\h-st∈L
    .rw[ak d,ak ⟨d.1,bz _ d.2⟩]
    .rw[al d,al];rintro⟨z1,z2⟩;rcases bo.mp z2 with z|z
     .lia
     .exact d ⟨z1,z⟩
  rw[e1,e2];lia
def wt:List Nat->Nat
 |[]=>0
 |n::ns=>(if n=2 then 1 else 2)+wt ns
theorem FQ(hs:0<st):kl h (pX m st n)<=if n=2 then 1 else 2:=by
 have c:=y8 (h:=h) (st:=st) (L:=(List.range m).filter fun h=>decide (h / st % n+1<n)) (rH.sublist wm);refine bf c ?_;by_cases e:n=2
 .rw[ak e];by_cases c1:h∈(List.range m).filter fun h=>decide (h / st % n+1<n)
  .rw[ak c1,al]
   .lia
   .rintro⟨z1,z2⟩;have d1:h / st % n+1<n:=eY (du.mp c1).2;have d2:(h-st) / st % n+1<n:=eY (du.mp z2).2;have d3:h / st=(h-st) / st+1:=by
     have:=Nat.add_div_right (h-st) hs;rw[show h-st+st=h by lia] at this;exact this
    obtain⟨_,d4⟩:=km d2;rw[<-d3] at d4;lia
  .rw[al c1];split <;> lia
 .rw[al e];split <;> split <;> lia
theorem C5:∀ {ns:List Nat} {st:Nat},0<st->(∀x∈ns,0<x)->kl h (bx m st ns)<=wt ns
 |[],_,_,_=>aN _
 |n::ns,st,hs,hn=>by
  show kl h (pX m st n++bx m (st*n) ns)<=_+wt ns;rw[mU];have h1:=FQ (m:=m) (n:=n) (h:=h) hs;have h2:=C5 (m:=m) (h:=h) (ns:=ns) (st:=st*n) (lK hs (hn n bC)) fun x hx=>hn x (bz _ hx);lia
theorem C6:∀ {ns:List Nat},(∀x∈ns,2<=x)->3 ^ wt ns<=pr ns*pr ns
 |[],_=>aN _
 |n::ns,hn=>by
  have ih:=C6 (ns:=ns) fun x hx=>hn x (bz _ hx);have h2:=hn n bC;show 3 ^ ((if n=2 then 1 else 2)+wt ns)<=n*pr ns*(n*pr ns);rw[Nat.pow_add,Nat.mul_mul_mul_comm];refine wM ?_ ih;by_cases c:n=2
  .rw[ak c,c];decide
  .rw[al c];have:3<=n:=by lia
   exact wM this this
theorem Nc(hn:∀x∈ns,2<=x)(hp:pr ns<=32):wt ns<=8:=by
 refine rd fun z=>?_;have h1:3 ^ 9<=3 ^ wt ns:=Nat.pow_le_pow_right (by decide) (by lia);have h2:=C6 hn;have h3:pr ns*pr ns<=32*32:=wM hp hp;have h4:(3:Nat) ^ 9=19683:=by decide
 lia
theorem C7{ns:List Nat}(hn:∀x∈ns,2<=x)(h0:ns≠[])(hp:pr ns<=32):i6 (pr ns) (ku ((g9 ns).map nZ)):=by
 have uT:∀x∈ns,0<x:=fun x hx=>by have:=hn x hx;lia
 have q:∀q∈g9 ns,q.1<q.2/\q.2<pr ns:=fun q hq=>by
  obtain⟨a,b⟩:=ml.mp hq;exact Nb uT b a
 have n1:2<=pr ns:=by
  cases ns with
  |nil=>exact absurd rfl h0
  |cons n ns=>
   have h2:=hn n bC;have:∀ {l:List Nat},(∀x∈l,2<=x)->1<=pr l:=fun {l}=>by
    induction l with
    |nil=>intro _;exact aN _
    |cons x l ih=>intro hl;exact lK (by have:=hl x bC;lia) (ih fun y hy=>hl y (bz _ hy))
   have h3:=this (l:=ns) fun x hx=>hn x (bz _ hx);show 2<=n*pr ns;exact bf h2 (v4 n h3)
 have mem:∀t∈ku ((g9 ns).map nZ),∃q∈g9 ns,t=nZ q\/t=y3 (nZ q):=fun t ht=>by
  rcases eJ.mp ht with z|z
  .obtain⟨q,hq,e⟩:=aX.mp z;exact⟨q,hq,.inl e.symm⟩
  .obtain⟨q,hq,e⟩:=aX.mp z;exact⟨q,hq,.inr (by rw[e])⟩
 have rg:∀t∈ku ((g9 ns).map nZ),((0<=t.1/\t.1<pr ns)/\(0<=t.2/\t.2<pr ns))/\t.1≠t.2:=fun t ht=>by
  obtain⟨p,hq,e⟩:=mem t ht;obtain⟨a,b⟩:=q p hq;rcases e with rfl|rfl
  .exact⟨⟨⟨by show (0:Int)<=(p.1:Int);lia,by show (p.1:Int)<(pr ns:Int);lia⟩,by show (0:Int)<=(p.2:Int);lia,by show (p.2:Int)<(pr ns:Int);lia⟩,by show ((p.1:Nat):Int)≠(p.2:Nat);lia⟩
  .exact⟨⟨⟨by show (0:Int)<=(p.2:Int);lia,by show (p.2:Int)<(pr ns:Int);lia⟩,by show (0:Int)<=(p.1:Int);lia,by show (p.1:Int)<(pr ns:Int);lia⟩,by show ((p.2:Nat):Int)≠(p.1:Nat);lia⟩
 have nd:(ku ((g9 ns).map nZ)).Nodup:=Ap (Aq (vo (by decide) hn)) fun u hu=>by
  obtain⟨p,hq,rfl⟩:=aX.mp hu;have:=(q p hq).1;show (p.1:Int)<(p.2:Int);lia
 refine⟨n1,hp,nd,fun t ht=>(rg t ht).1,fun t ht=>(rg t ht).2,fun h=>?_,fun h=>?_,fun a b ha hb=>?_⟩
 .rw[<-(FN (ps:=(g9 ns).map nZ)).filter (fun t=>decide (t.1=h)) |>.length_eq,List.filter_map,aW];rfl
 .by_cases c:0<=h/\h<pr ns
  .have:=C5 (m:=pr ns) (h:=h.toNat) (ns:=ns) (st:=1) (by decide) uT;have e:=y4 (h:=h.toNat) (qs:=g9 ns);rw[Int.toNat_of_nonneg c.1] at e;rw[e];exact bf this (Nc hn hp)
  .have e:(ku ((g9 ns).map nZ)).filter (fun t=>decide (t.1=h))=[]:=List.filter_eq_nil_iff.mpr fun t ht e=>c ((show t.1=h from eY e) ▸ (rg t ht).1.1);rw[e];exact cS _
 .have Fg:∀v,v<pr ns->(∃k,g7 (ku ((g9 ns).map nZ)) k 0 v)/\∃k,g7 (ku ((g9 ns).map nZ)) k v 0:=by
   intro v;induction v using Nat.strongRecOn with
   |ind v ih=>
    intro hv;rcases Nat.eq_zero_or_pos v with e|e
    .subst e;exact⟨⟨0,rfl⟩,0,rfl⟩
    .obtain⟨u,hu,uu⟩:=C4 uT e hv;obtain⟨⟨k,w⟩,l,w'⟩:=ih u hu (by lia);have t:T (ku ((g9 ns).map nZ)) u v:=eJ.mpr (.inl (aX.mpr ⟨(u,v),ml.mpr ⟨by show u<pr ns;lia,uu⟩,rfl⟩));have t':T (ku ((g9 ns).map nZ)) v u:=FM t;exact⟨⟨k+1,u,w,t⟩,l+1,g7.cons t' w'⟩
  obtain⟨_,k,w⟩:=Fg a ha;obtain⟨⟨l,w'⟩,_⟩:=Fg b hb;exact⟨_,w.trans w'⟩
end ir
namespace nz
open PySem L2
def fH(i:Nat):Stmt:=PySem.Challenge.pw_neverwait_k43_berths.main.body.getD i (.Pass ⟨0,0,0,0⟩)
abbrev xM:Stmt:=fH 16
abbrev tG:Stmt:=fH 17
abbrev xN:Stmt:=fH 18
abbrev Js:Stmt:=fH 20
structure Bl(mg:Str->Option Value):Prop where
 tI:mg "isinstance"=none
 int:mg "int"=none
 bool:mg "bool"=none
 tup:mg "tuple"=none
 lst:mg "list"=none
 str:mg "str"=none
 set:mg "set"=none
 len:mg "len"=none
 range:mg "range"=none
 sorted:mg "sorted"=none
 any:mg "any"=none
 max:mg "max"=none
 min:mg "min"=none
 RH:mg "ValueError"=none
 all:mg "all"=none
def C8(K:PySem.W.Frag)(H:Hp)(x:V):Prop:=∃t,I_ K H x t/\(PySem.W.kitOne K t (.type "int")=some false\/(PySem.W.kitOne K t (.type "int")=some true/\PySem.W.kitOne K t (.type "bool")=some true))
theorem mV:PySem.W.kitOne K (.type "int") (.type "int")=some true:=by kernel_rfl
theorem kZ:PySem.W.kitOne K (.type "int") (.type "bool")=some false:=by kernel_rfl
inductive Wh (K:PySem.W.Frag) (H:Hp):V->Option Int->Prop where
 |int (i:Int):Wh K H (.int i) (some i)
 |no {x:V} (h:C8 K H x):Wh K H x none
def n4(K:PySem.W.Frag):Sp:=fun vs H Q _=>∃x o,vs=[x]/\Wh K H x o/\Q (.bl o.isSome) H
section
variable {P:Program} {w:World} {K:PySem.W.Frag} {mg:Str->Option Value} {base:Heap}
theorem FR:aw ["thing"] ["thing"] (aj xM):=⟨rfl,rfl,rfl,by decide +kernel,rfl,by decide +kernel,by decide +kernel⟩
theorem C9(F:dR K "is_whole" "is_whole" xM f fd)(B:Bl mg):a9 P w K mg base a_ 1 f fd ["thing"] (n4 K):=by
 refine F.ok FR (fun vs H Q E h=>?_) (fun bL A outer s H vs Q E hr h=>?_)
 .obtain⟨x,o,rfl,_⟩:=h;rfl
 .obtain⟨x,o,rfl,W,k⟩:=h;refine⟨_,ai (aE (j8 (au fF (by rfl) B.tI dO (aa (pv 0) (aa (gO (v:=.ty "int") rfl B.int PyProof.Rows.boot_int rfl) af)))
   (lR (Iz (au fF (by rfl) B.tI dO (aa (pv 0) (aa (gO (v:=.ty "bool") rfl B.bool PyProof.Rows.boot_bool rfl) af))))))),?_⟩
  cases W with
  |int i=>
   refine⟨_,rfl,_,_,_,.type "int",true,rfl,⟨rfl,mV⟩,.of (.int _),true,rfl,?_⟩;exact⟨_,rfl,_,_,_,.type "int",false,rfl,⟨rfl,kZ⟩,.of (.int _),false,rfl,k⟩
  |no h=>
   obtain⟨t,ty,h|⟨h1,h2⟩⟩:=h
   .exact⟨_,rfl,_,_,_,t,false,rfl,⟨rfl,h⟩,ty,false,rfl,k⟩
   .refine⟨_,rfl,_,_,_,t,true,rfl,⟨rfl,h1⟩,ty,true,rfl,?_⟩;exact⟨_,rfl,_,_,_,t,true,rfl,⟨rfl,h2⟩,ty,true,rfl,k⟩
def aT(o:Option Int)(lo hi:Int):Bool:=match o with
 |some i=>decide (lo<=i)&&decide (i<=hi)
 |none=>false
def i9(K:PySem.W.Frag):Sp:=fun vs H Q _=>∃x o lo hi,vs=[x,.int lo,.int hi]/\Wh K H x o/\Q (.bl (aT o lo hi)) H
theorem C_:aw ["thing","least","most"] ["thing","least","most"] (aj tG):=⟨rfl,rfl,rfl,by decide +kernel,rfl,by decide +kernel,by decide +kernel⟩
theorem Ar(F:dR K "is_whole_within" "is_whole_within" tG f fd)(W:bJ P w K mg base a_ 1 "is_whole" ["thing"] (n4 K)):a9 P w K mg base a_ 2 f fd ["thing","least","most"] (i9 K):=by
 refine F.ok C_ (fun vs H Q E h=>?_) (fun bL A outer s H vs Q E hr h=>?_)
 .obtain⟨x,o,lo,hi,rfl,_⟩:=h;rfl
 .obtain⟨x,o,lo,hi,rfl,wh,k⟩:=h;refine⟨_,ai (aE (j8 (az W hr aL (aa (pv 0) af)) (lR (BZ uC uC (pv 1) (pv 0) (pv 2))))),?_⟩;refine⟨_,rfl,x,o,rfl,wh,?_⟩;cases wh with
  |no h=>exact⟨false,rfl,k⟩
  |int i=>
   refine⟨true,rfl,_,rfl,_,rfl,_,_,rfl,rfl,_,rfl,?_⟩;show if decide (lo<=i)=true then _ else _
   have k':Q (.bl (decide (lo<=i)&&decide (i<=hi))) H:=k;by_cases h:lo<=i
   .rw[bD h] at k' |-;exact⟨_,rfl,_,_,rfl,rfl,k'⟩
   .rw[cV h] at k' |-;exact k'
def k_(K:PySem.W.Frag):Sp:=fun vs H Q _=>∃x o n,vs=[.int n,x]/\Wh K H x o/\Q (.bl (aT o 0 (n-1))) H
theorem FS:aw ["many","thing"] ["many","thing"] (aj xN):=⟨rfl,rfl,rfl,by decide +kernel,rfl,by decide +kernel,by decide +kernel⟩
theorem Da(F:dR K "is_house" "is_house" xN f fd)(W:bJ P w K mg base a_ 2 "is_whole_within" ["thing","least","most"] (i9 K)):a9 P w K mg base a_ 3 f fd ["many","thing"] (k_ K):=by
 refine F.ok FS (fun vs H Q E h=>?_) (fun bL A outer s H vs Q E hr h=>?_)
 .obtain⟨x,o,n,rfl,_⟩:=h;rfl
 .obtain⟨x,o,n,rfl,wh,k⟩:=h;refine⟨_,ai (aE (az W hr aL (aa (pv 1) (aa aB (aa (ba lU (pv 0) aB) af))))),?_⟩;exact⟨_,rfl,_,rfl,_,_,rfl,rfl,x,o,0,n-1,rfl,wh,k⟩
inductive Rw (K:PySem.W.Frag) (H:Hp):V->Option (List V)->Prop where
 |tup {p:Addr} {xs:List V} (h:H p=some (.tup xs)):Rw K H (.ref p) (some xs)
 |no {x:V} {t:Value} (ty:I_ K H x t) (h:PySem.W.kitOne K t (.type "tuple")=some false):Rw K H x none
def Db(o:Option (List V))(m:Int):Bool:=match o with
 |some xs=>decide ((xs.length:Int)=m)
 |none=>false
theorem y9:PySem.W.kitOne K (.type "tuple") (.type "tuple")=some true:=by kernel_rfl
def vp(K:PySem.W.Frag):Sp:=fun vs H Q _=>∃x o m,vs=[x,.int m]/\Rw K H x o/\Q (.bl (Db o m)) H
theorem Nd:aw ["thing","length"] ["thing","length"] (aj Js):=⟨rfl,rfl,rfl,by decide +kernel,rfl,by decide +kernel,by decide +kernel⟩
theorem Jt(F:dR K "is_row" "is_row" Js f fd)(B:Bl mg):a9 P w K mg base a_ 1 f fd ["thing","length"] (vp K):=by
 refine F.ok Nd (fun vs H Q E h=>?_) (fun bL A outer s H vs Q E hr h=>?_)
 .obtain⟨x,o,m,rfl,_⟩:=h;rfl
 .obtain⟨x,o,m,rfl,W,k⟩:=h;refine⟨_,ai (aE (j8 (au fF (by rfl) B.tI dO (aa (pv 0) (aa (gO (v:=.ty "tuple") rfl B.tup kA rfl) af)))
   (lR (fW ij (au aG (by rfl) B.len cY (aa (pv 0) af)) (pv 1) (aQ _))))),?_⟩
  cases W with
  |@tup p xs h=>
   refine⟨_,rfl,_,_,_,.type "tuple",true,rfl,⟨rfl,y9⟩,.of (.tup h),true,rfl,?_⟩;refine⟨_,rfl,_,_,rfl,.inr (bK.of h),_,rfl,rfl,?_⟩;have e:decide (V.int ((xs.length:Nat):Int)=V.int m)=decide (((xs.length:Nat):Int)=m):=by simp
   rw[e];exact k
  |no ty h=>exact⟨_,rfl,_,_,_,_,false,rfl,⟨rfl,h⟩,ty,false,rfl,k⟩
end
theorem cE(s:av H H')(hD:H D=none):av H (upd H' D o):=fun b u e=>by rw[ao (aq e hD)];exact s b u e
abbrev IV(ns:List Int):List V:=ns.map V.int
abbrev NV(ns:List Nat):List V:=ns.map fun (x:Nat)=>V.int (x:Int)
theorem mW(G:St->Hp->Prop)(hr:∀σ H,G σ H->u D σ H)(ht:∀N:St->Hp->Prop,(∀σ H,G σ H->N σ H)->t { D with nx:=N } σ H):LQ t u D σ H:=ht _ hr
abbrev Zs:=List (Addr×(Int×Int))
abbrev Lr(u:Int×Int):HO:=.tup [.int u.1,.int u.2]
def zr(zs:Zs):List V:=zs.map fun z=>V.ref z.1
def zp(zs:Zs):List (Int×Int):=zs.map (·.2)
def PO(H:Hp)(zs:Zs):Prop:=∀z∈zs,H z.1=some (Lr z.2)
theorem qK:zr (a++b)=zr a++zr b:=dJ
theorem qL:zp (a++b)=zp a++zp b:=dJ
theorem i_:(zr a).length=a.length:=aW _
theorem cN:(zp a).length=a.length:=aW _
theorem tJ:zr a=(a.map (·.1)).map V.ref:=by unfold zr;rw[fc];rfl
theorem tK{zs:Zs}{i:Nat}{x:V}(h:(zr zs)[i]?=some x):∃z,zs[i]?=some z/\x=.ref z.1:=by
 unfold zr at h;rw[bA] at h;cases e:zs[i]? with
 |none=>rw[e] at h;cases h
 |some z=>rw[e] at h;exact⟨z,rfl,(bi h).symm⟩
theorem PO.nil:PO H []:=fun z hz=>(nomatch hz)
theorem PO.same(h:PO H zs)(s:av H H'):PO H' zs:=fun z hz=>s _ _ (h z hz)
theorem PO.putL(h:PO H zs)(e:H D=some (.lst xs)):PO (upd H D o) zs:=fun z hz=>by
 have:=h z hz;rw[ao (by rintro rfl;rw[e] at this;cases this)];exact this
theorem PO.putN(h:PO H zs)(e:H D=none):PO (upd H D o) zs:=h.same (am e)
theorem PO.append(h:PO H a)(h':PO H b):PO H (a++b):=fun z hz=>(cQ.mp hz).elim (h z) (h' z)
theorem PO.one(h:H p=some (Lr u)):PO H [(p,u)]:=fun z hz=>by rw[cJ.mp hz];exact h
theorem Dd{zs:Zs}{i:Nat}(h:i<zs.length):(zs.map (·.1)).getD i 0=zs[i].1:=by
 rw[bU,bA,cr h];rfl
theorem FT(h:i<zs.length):(zp zs).getD i (0,0)=zs[i].2:=by
 unfold zp;rw[bU,bA,cr h];rfl
theorem As{H:Hp}{zs:Zs}(ho:PO H zs){as:List Addr}(h:as.Perm (zs.map (·.1))):∃HP:Zs,HP.Perm zs/\as=HP.map (·.1):=by
 classical
 let f:Addr->Int×Int:=fun a=>match H a with
  |some (.tup [.int x,.int y])=>(x,y)
  |_=>(0,0)
 have e:(zs.map (·.1)).map (fun a=>(a,f a))=zs:=by
  rw[fc];conv=>rhs;rw[<-iJ zs]
  refine mD fun z hz=>?_;have:=ho z hz;show (z.1,f z.1)=z;have e2:f z.1=z.2:=by
   show (match H z.1 with|some (.tup [.int x,.int y])=>(x,y)|_=>(0,0))=z.2;rw[this]
  rw[e2]
 refine⟨as.map fun a=>(a,f a),?_,?_⟩
 .have:=h.map (fun a=>(a,f a));rw[e] at this;exact this
 .rw[fc];exact(iJ as).symm
abbrev VS(us:List (Int×Int)):Prop:=us=us
theorem FU{K:PySem.W.Frag}{H:Hp}{l:Addr}{zs:Zs}{Q:VK}(hl:H l=some (.lst (zr zs)))(ho:PO H zs)(hz:zs.length<=4096)(hb:∀u∈zp zs,0<=u.2/\u.2<64)(q:∀ (D:Addr) (HP:Zs),H D=none->HP.Perm zs->VS (zp HP)->Q (.ref D) (upd H D (.lst (zr HP)))):C2 K [.ref l] H Q:=by
 refine⟨l,zs.map (·.1),rfl,bn.of (by rw[<-tJ];exact hl),fun a ha=>?_,by rw[aW];exact hz,fun D vP hD hp=>?_⟩
 .obtain⟨z,hz,rfl⟩:=aX.mp ha;exact⟨_,_,bK.of (ho z hz)⟩
 .obtain⟨HP,h1,rfl⟩:=As ho hp;rw[<-tJ];exact q D HP hD h1 rfl
theorem De{K:PySem.W.Frag}{a D:Addr}{EQ:Zs}{g:TG}{tt:TT}{te:TE}{dN:Hp->Prop}{σB:St}{H0:Hp}(F:Int×Int->Int×Int)(dw:St->Prop)(ha:H0 a=some (.lst (zr EQ)))(X6:PO H0 EQ)(hD:H0 D=none)(hn:EQ.length<=100000)(h0:dw σB)(hs:∀z σ H (R:V->St->Hp->Prop) (Kf:St->Hp->Prop),z∈EQ->dw σ->H z.1=some (Lr z.2)->(∀σ2 p,dw σ2->H p=none->R (.ref p) σ2 (upd H p (Lr (F z.2))))->g (.ref z.1) σ H fun σ2 H2=>tt σ2 H2 fun b H3=>if b=true then te σ2 H3 fun v H4=>R v σ2 H4 else Kf σ2 H3)(hd:∀zs H,av H0 H->H D=some (.lst (zr zs))->PO H zs->zp zs=(zp EQ).map F->(∀z∈zs,H0 z.1=none)->dN H):jD (E2 K a) g tt te D dN σB (upd H0 D (.lst [])):=by
 refine gz (xs:=zr EQ) (fun i ys σ H=>dw σ/\av H0 H/\H D=some (.lst ys)/\∃zs:Zs,ys=zr zs/\PO H zs/\zp zs=((zp EQ).take i).map F/\∀z∈zs,H0 z.1=none) ⟨h0,am hD,ah,[],rfl,PO.nil,rfl,fun z hz=>nomatch hz⟩ (fun i ys σ H _ z=>bn.of (z.2.1 _ _ ha)) ?_ ?_
 .rintro i x ys σ H Kt Kf hx ⟨sh,sm,pY,zs,rfl,po,ep,fr⟩ kt kf;obtain⟨z,hz,rfl⟩:=tK hx;have hi:i<EQ.length:=(cH.mp hz).1;have HQ:z∈EQ:=dA hz;have hl:zs.length=i:=by rw[<-cN,ep,aW,kF,cN];lia
  refine hs z σ H Kt Kf HQ sh (sm _ _ (X6 z HQ)) (fun σ2 p At hp=>?_)
  .have nD:D≠p:=aq pY hp;refine kt _ _ _ (by rw[ao nD];exact pY) (by rw[i_,hl];exact cG hi (bf hn (by decide))) ⟨At,cE (sm.trans (am hp)) hD,ah,zs++[(p,F z.2)],?_,?_,?_,?_⟩
   .rw[qK];rfl
   .refine PO.putL (xs:=zr zs) ?_ (by rw[ao nD];exact pY);exact(po.putN hp).append (PO.one ah)
   .have e2:(zp EQ)[i]?=some z.2:=by unfold zp;rw[bA,hz];rfl
    rw[qL,ep,gg,e2,Option.toList_some,dJ];rfl
   .intro z hz;rcases cQ.mp hz with z'|z'
    .exact fr z z'
    .rw[cJ.mp z'];exact sm.free hp
 .rintro ys σ H ⟨_,sm,pY,zs,rfl,po,ep,fr⟩;rw[i_,<-cN,iC] at ep;exact hd zs H sm pY po ep fr
open ir
abbrev y_:Stmt:=fv (fH 31) 0
abbrev Df:Stmt:=fv (fH 31) 1
abbrev Ju:Stmt:=fv (fH 31) 3
abbrev xO:Stmt:=fv (fH 31) 8
structure Er(K:PySem.W.Frag)(mg:Str->Option Value)(x:Str)(C:Addr):Prop where
 at_:mg x=some (.ref C)
 ok:iV K C
theorem X7:¬ (("house_count":Str)="tie_list"):=by decide +kernel
theorem X8:¬ (("house_count":Str)="out_lists"):=by decide +kernel
theorem X9:¬ (("house_count":Str)="distances"):=by decide +kernel
theorem X_:¬ (("out_lists":Str)="distances"):=by decide +kernel
def pZ(n:Int)(tl ol ds:Addr):List (Str×V):=ck "distances" (.ref ds) (ck "out_lists" (.ref ol) (ck "tie_list" (.ref tl) (ck "house_count" (.int n) [])))
theorem zc(n:Int)(tl ol ds:Addr):(pZ n tl ol ds).lookup ("house_count":Str)=some (.int n):=by
 unfold pZ;rw[aR,al X9,aR,al X8,aR,al X7,aR,ak rfl]
theorem tO(n:Int)(tl ol ds:Addr){m:Str}(h1:¬ m="house_count")(h2:¬ m="tie_list")(h3:¬ m="out_lists")(h4:¬ m="distances"):(pZ n tl ol ds).lookup m=none:=by
 unfold pZ;rw[aR,al h4,aR,al h3,aR,al h2,aR,al h1];all_goals rfl
theorem FV(n:Int)(tl ol ds:Addr):(pZ n tl ol ds).lookup ("out_lists":Str)=some (.ref ol):=by
 unfold pZ;rw[aR,al X_,aR,ak rfl]
def gc(H:Hp)(L:Addr->Prop)(l:Addr)(n:Nat)(r:Nat->List Nat):Prop:=∃bs:List Addr,H l=some (.lst (bs.map V.ref))/\(∀b∈bs,L b)/\Holds H bs n (fun h=>.lst (NV (r h)))
theorem gc.keep(R:gc H L l n r)(hl:L l)(k:∀b o,L b->H b=some o->H' b=some o):gc H' L l n r:=
 let ⟨bs,a,b,c⟩:=R
 ⟨bs,k _ _ hl a,b,c.mono fun j hj e=>k _ _ (b _ (by rw[bU,cr (by rw[c.1];exact hj)];exact gh _)) e⟩
theorem gc.row(R:gc H L l n r)(hh:h<n):∃ (bs:List Addr) (b:Addr),H l=some (.lst (bs.map V.ref))/\(bs.map V.ref)[h]?=some (V.ref b)/\H b=some (.lst (NV (r h)))/\L b:=by
 obtain⟨bs,a,b,c⟩:=R;have hl:h<bs.length:=by rw[c.1];exact hh
 refine⟨bs,bs[h],a,by rw[bA,cr hl];rfl,?_,b _ (gh _)⟩;have:=c.2 h hh;rw[bU,cr hl] at this;exact this
def FW(H:Hp)(L:Addr->Prop)(tl:Addr)(ts:Ts):Prop:=L tl/\∃zs:Zs,H tl=some (.lst (zr zs))/\PO H zs/\(∀z∈zs,L z.1)/\(zp zs).Perm ts/\VS (zp zs)
theorem FW.keep(h:FW H L tl ts)(k:∀b o,L b->H b=some o->H' b=some o):FW H' L tl ts:=
 let ⟨a,zs,b,c,d,e⟩:=h;⟨a,zs,k _ _ a b,fun z hz=>k _ _ (d z hz) (c z hz),d,e⟩
structure fk(C:Addr)(H:Hp)(L:Addr->Prop)(p:Addr)(n:Nat)(ts:Ts):Prop where
 o9:i6 n ts
 ob:∃dx tl ol ds,H p=some (.ins C dx (pZ n tl ol ds))/\L ol/\L ds/\gc H L ol n (dg n ts)/\gc H L ds n (fun h=>(List.range n).map (HL ts h))/\FW H L tl ts
theorem fk.keep(N:fk C H L p n ts)(k:∀b o,L b->H b=some o->H' b=some o)(kp:∀o,H p=some o->H' p=some o):fk C H' L p n ts:=
 let ⟨dx,tl,ol,ds,a,l1,l2,b,c,d⟩:=N.ob
 ⟨N.o9,dx,tl,ol,ds,kp _ a,l1,l2,b.keep l1 k,c.keep l2 k,d.keep k⟩
theorem fk.same(N:fk C H L p n ts)(s:av H H'):fk C H' L p n ts:=N.keep (fun b o _ e=>s b o e) (fun o e=>s _ o e)
structure NT(K:PySem.W.Frag)(mg:Str->Option Value)(C:Addr):Prop where
 cl:A0 K C
 nH:eT K C "house_count"
 nT:eT K C "tie_list"
 nO:eT K C "out_lists"
 nD:eT K C "distances"
 RI:mg "Net"=some (.ref C)
structure ge(P:Program)(w:World)(K:PySem.W.Frag)(mg:Str->Option Value)(base:Heap)(CX:nU)(k:Nat)(C:Addr)(x:Str)(ps:List Str)(sp:Sp):Prop where
 ex:∃f fd,E7 K C x f/\eL K fd ps []/\a9 P w K mg base CX k f fd ps sp
section
variable {P:Program} {w:World} {K:PySem.W.Frag} {mg:Str->Option Value} {base:Heap}
theorem FX:aw ["self","thing"] ["self","thing"] (aj xO):=⟨rfl,rfl,rfl,by decide +kernel,rfl,by decide +kernel,by decide +kernel⟩
def n5(K:PySem.W.Frag)(C CE:Addr):Sp:=fun vs H Q E=>∃ (L:Addr->Prop) (p:Addr) (n:Nat) (ts:Ts) (x:V) (o:Option Int),vs=[.ref p,x]/\fk C H L p n ts/\Wh K H x o/\(aT o 0 ((n:Int)-1)=false->E (.ref CE) none H)/\(aT o 0 ((n:Int)-1)=true->Q .bp H)
theorem Dg{f C CE:Addr}{fd:FuncData}(F:dR K "check_house" "Net.check_house" xO f fd)(T:NT K mg C)(e:Er K mg "NoHouse" CE)(HH:bJ P w K mg base a_ 3 "is_house" ["many","thing"] (k_ K)):
  a9 P w K mg base (eO P w) 4 f fd ["self","thing"] (n5 K C CE):=by
 refine F.Hm FX (fun vs H Q E h=>?_) (fun bL A outer s H vs Q E hr h=>?_)
 .obtain⟨L,p,n,ts,x,o,rfl,_⟩:=h;rfl
 .obtain⟨L,p,n,ts,x,o,rfl,N,wh,k1,k2⟩:=h;obtain⟨dx,tl,ol,ds,h1,_⟩:=N.ob;refine⟨_,ai (bt (c_ (cU (az HH hr aL (aa (gT (pv 0) rfl) (aa (pv 1) af))))) (ai (gy (q:=fun H1=>E (.ref CE) none H1) rfl e.ok rfl e.at_ (aa lP af) (fun _ _ _ _ _ _ _ I m q=>gw I m q))) aO),?_⟩;refine⟨_,rfl,p,C,dx,_,_,rfl,h1,T.cl,T.nH,zc _ _ _ _,_,rfl,x,o,n,rfl,wh,_,rfl,?_⟩;cases hw:aT o 0 ((n:Int)-1) with
  |false=>exact gW ⟨by show 1<=sizeLine;decide,k1 hw⟩
  |true=>exact d8 (k2 hw)
theorem Nf(n:Int)(tl ol ds:Addr):(pZ n tl ol ds).lookup ("check_house":Str)=none:=tO n tl ol ds (by decide +kernel) (by decide +kernel) (by decide +kernel) (by decide +kernel)
theorem bu:(NV xs).length=xs.length:=aW _
theorem eF{o:Option Int}{n:Nat}(h:aT o 0 ((n:Int)-1)=true):∃i:Nat,i<n/\o=some (i:Int):=by
 cases o with
 |none=>cases h
 |some i=>
  unfold aT at h;simp at h;exact⟨i.toNat,by lia,by congr 1;lia⟩
theorem dL{i n:Nat}(h:i<n):aT (some (i:Int)) 0 ((n:Int)-1)=true:=by unfold aT;simp;lia
def zd(K:PySem.W.Frag)(C CE:Addr)(Ya:Hp->Nat->Ts->Nat->VK->Prop):Sp:=fun vs H Q E=>∃ (L:Addr->Prop) (p:Addr) (n:Nat) (ts:Ts) (x:V) (o:Option Int),vs=[.ref p,x]/\fk C H L p n ts/\Wh K H x o/\(aT o 0 ((n:Int)-1)=false->E (.ref CE) none H)/\∀i:Nat,i<n->o=some (i:Int)->Ya H n ts i Q
theorem Ng:aw ["self","house"] ["self","house"] (aj Ju):=⟨rfl,rfl,rfl,by decide +kernel,rfl,by decide +kernel,by decide +kernel⟩
def FY:Hp->Nat->Ts->Nat->VK->Prop:=fun H n ts i Q=>∀r H',av H H'->H r=none->H' r=some (.lst (NV (dg n ts i)))->Q (.ref r) H'
theorem mm{H:Hp}{x:V}{i:Int}(h:Wh K H x (some i)):x=.int i:=by cases h;rfl
theorem Jv{f C CE:Addr}{fd:FuncData}(F:dR K "out" "Net.out" Ju f fd)(T:NT K mg C)(B:Bl mg)(M:ge P w K mg base (eO P w) 4 C "check_house" ["self","thing"] (n5 K C CE)):
  a9 P w K mg base (eO P w) 5 f fd ["self","house"] (zd K C CE FY):=by
 obtain⟨fM,PF,mM,bM,GM⟩:=M.ex;refine F.Hm Ng (fun vs H Q E h=>?_) (fun bL A outer s H vs Q E hr h=>?_)
 .obtain⟨L,p,n,ts,x,o,rfl,_⟩:=h;rfl
 .obtain⟨L,p,n,ts,x,o,rfl,N,wh,k1,k2⟩:=h;obtain⟨dx,tl,ol,ds,h1,_,_,R,_⟩:=N.ob;refine⟨_,ag (cj (cM (pv 0) T.cl mM GM hr bM .nil (uO (E':=E) fun _ _ _ z=>z) (aa (pv 1) af)))
   (ai (aE (cD sH (by rfl) B.lst rh (aa (bh bv (gT (pv 0) rfl) (pv 1) (fun _ _=>rfl)) af)))),?_⟩
  refine⟨_,rfl,p,dx,_,rfl,h1,Nf _ _ _ _,_,rfl,L,p,n,ts,x,o,rfl,N,wh,k1,fun hw=>?_⟩;obtain⟨i,hi,rfl⟩:=eF hw;obtain rfl:=mm wh;obtain⟨bs,b,r1,r2,r3,_⟩:=R.row hi;exact⟨_,rfl,p,C,dx,_,_,rfl,h1,T.cl,T.nO,FV _ _ _ _,_,rfl,ol,_,_,_,rfl,rfl,bn.of r1,aM r2,b,_,rfl,.inl (bn.of r3),fun l hl=>k2 i hi rfl l _ (am hl) hl ah⟩
end
open PySem L2 ir
abbrev xP:Stmt:=fH 32
abbrev Jw:Stmt:=fH 33
abbrev Jx:Stmt:=fH 34
section
variable {P:Program} {w:World} {K:PySem.W.Frag} {mg:Str->Option Value} {base:Heap}
abbrev Jy:Stmt:=fH 19
theorem Nh:aw ["many","one","other"] ["many","one","other"] (aj Jy):=⟨rfl,rfl,rfl,by decide +kernel,rfl,by decide +kernel,by decide +kernel⟩
def Dh:Sp:=fun vs H Q _=>∃ (n a b:Int),vs=[.int n,.int a,.int b]/\0<=a/\a<n/\0<=b/\b<n/\a≠b/\Q (.bl true) H
theorem Jz(F:dR K "are_unlike_houses" "are_unlike_houses" Jy f fd)(HH:bJ P w K mg base a_ 3 "is_house" ["many","thing"] (k_ K)):
  a9 P w K mg base a_ 4 f fd ["many","one","other"] Dh:=by
 refine F.ok Nh (fun vs H Q E h=>?_) (fun bL A outer s H vs Q E hr h=>?_)
 .obtain⟨n,a,b,rfl,_⟩:=h;rfl
 .obtain⟨n,a,b,rfl,a1,a2,b1,b2,iw,k⟩:=h;refine⟨_,ai (aE (j8 (az HH hr aL (aa (pv 0) (aa (pv 1) af))) (j8 (az HH hr aL (aa (pv 0) (aa (pv 2) af))) (lR (fW qj (pv 1) (pv 2) (aQ _)))))),?_⟩;refine⟨_,rfl,_,rfl,_,_,n,rfl,.int a,_,rfl,?_⟩;rw[ak (show aT (some a) 0 (n-1)=true by unfold aT;simp;lia)];refine⟨_,rfl,_,rfl,_,_,n,rfl,.int b,_,rfl,?_⟩;rw[ak (show aT (some b) 0 (n-1)=true by unfold aT;simp;lia)];refine⟨_,rfl,_,rfl,rfl,?_⟩;have e:(!decide (V.int a=V.int b))=true:=by simp[iw]
  rw[e];exact k
theorem Ni:aw ["many","thing"] ["many","thing"] (aj Jw):=⟨rfl,rfl,rfl,by decide +kernel,rfl,by decide +kernel,by decide +kernel⟩
def Di:Sp:=fun vs H Q _=>∃ (n:Int) (p:Addr) (a b:Int),vs=[.int n,.ref p]/\H p=some (.tup [.int a,.int b])/\0<=a/\a<n/\0<=b/\b<n/\a≠b/\Q (.bl true) H
theorem JA(F:dR K "is_tie" "is_tie" Jw f fd)(R:bJ P w K mg base a_ 1 "is_row" ["thing","length"] (vp K))(U:bJ P w K mg base a_ 4 "are_unlike_houses" ["many","one","other"] Dh):
  a9 P w K mg base a_ 5 f fd ["many","thing"] Di:=by
 refine F.ok Ni (fun vs H Q E h=>?_) (fun bL A outer s H vs Q E hr h=>?_)
 .obtain⟨n,p,a,b,rfl,_⟩:=h;rfl
 .obtain⟨n,p,a,b,rfl,hp,a1,a2,b1,b2,iw,k⟩:=h;refine⟨_,ai (aE (j8 (az R (hr.mono (by decide)) aL (aa (pv 1) (aa aB af)))
   (lR (az U hr aL (aa (pv 0) (aa (bh cw (pv 1) aB (fun _ _=>rfl)) (aa (bh cw (pv 1) aB (fun _ _=>rfl)) af))))))),?_⟩
  refine⟨_,rfl,_,_,_,rfl,.tup hp,true,rfl,?_⟩;exact⟨_,rfl,_,rfl,p,_,_,_,rfl,rfl,bK.of hp,aM (j:=0) rfl,_,rfl,p,_,_,_,rfl,rfl,bK.of hp,aM (j:=1) rfl,n,a,b,rfl,a1,a2,b1,b2,iw,k⟩
theorem ze:aw ["many","ties","tie"] ["many","ties"] (aj xP):=⟨rfl,rfl,rfl,by decide +kernel,rfl,by decide +kernel,by decide +kernel⟩
theorem vq:PySem.W.kitOne K (.type "list") (.type "list")=some true:=by kernel_rfl
structure eG(H:Hp)(l:Addr)(n:Nat)(zs:Zs):Prop where
 o9:i6 n (zp zs)
 at_:H l=some (.lst (zr zs))
 po:PO H zs
theorem eG.same(h:eG H l n zs)(s:av H H'):eG H' l n zs:=⟨h.o9,s _ _ h.at_,h.po.same s⟩
def jr:Sp:=fun vs H Q _=>∃ (n:Nat) (l:Addr) (zs:Zs),vs=[.int n,.ref l]/\eG H l n zs/\∀H',av H H'->Q .bp H'
theorem Dj(F:dR K "check_ties" "check_ties" xP f fd)(B:Bl mg)(gF:∃t,mg "FEWEST_HOUSES"=some (.int 2 t))(gM:∃t,mg "MOST_HOUSES"=some (.int 32 t))(W:bJ P w K mg base a_ 2 "is_whole_within" ["thing","least","most"] (i9 K))(T:bJ P w K mg base a_ 5 "is_tie" ["many","thing"] Di):
  a9 P w K mg base a_ 6 f fd ["many","ties"] jr:=by
 obtain⟨tF,gF⟩:=gF;obtain⟨tM,gM⟩:=gM;refine F.ok ze (fun vs H Q E h=>?_) (fun bL A outer s H vs Q E hr h=>?_)
 .obtain⟨n,l,zs,rfl,_⟩:=h;rfl
 .refine⟨_,ag (bt (c_ (cU (az W (hr.mono (by decide)) aL (aa (pv 0) (aa (bE (v:=.int 2) rfl gF ⟨_,rfl⟩) (aa (bE (v:=.int 32) rfl gM ⟨_,rfl⟩) af)))))) dh aO)
   (ag (bt (c_ (cU (au fF (by rfl) B.tI dO (aa (pv 1) (aa (gO (v:=.ty "list") rfl B.lst rh rfl) af))))) dh aO)
   (ag (bW dQ rfl (di (pv 1)) (aA (i:=2) ze.nd rfl (Or.inl rfl)) (ai (bt (c_ (cU (az T hr aL (aa (pv 0) (aa (pv 2) af))))) dh aO)))
   (ai (bt (aI qj (au u0 (by rfl) B.len cY (aa (cD (zZ rfl (by have:=hr.un;show (A.deeper _).units+8<_;lia)) (by rfl) B.set PyProof.Rows.boot_set (aa (pv 1) af)) af)) (au aG (by rfl) B.len cY (aa (pv 1) af)) (aQ _)) dh aO)))),?_⟩
  obtain⟨n,l,zs,rfl,tt,k⟩:=h;obtain⟨fi,hl,po⟩:=id tt;have n1:=fi.n1;have n2:=fi.n2;refine⟨_,rfl,_,_,2,32,rfl,.int n,_,rfl,?_⟩;rw[show aT (some (n:Int)) 2 32=true by unfold aT;simp;lia];refine d8 ?_;refine⟨_,rfl,_,_,_,.type "list",true,rfl,⟨rfl,vq⟩,.of (.lst hl),_,rfl,d8 ?_⟩;refine⟨_,rfl,l,rfl,⟨_,bn.of hl⟩,oQ (K:=K) (a:=l) (xs:=zr zs) (fun i σ H2=>H2=H/\∃v,σ=[some (.int n),some (.ref l),v]) ⟨rfl,none,rfl⟩ (fun i σ H2 _ ⟨e,_⟩=>by rw[e];exact bn.of hl) ?_ ?_⟩
  .rintro i x σ H2 hx ⟨rfl,v,rfl⟩;obtain⟨z,hz,rfl⟩:=tK hx;have HQ:z∈zs:=dA hz;have VT:z.2∈zp zs:=aX.mpr ⟨z,HQ,rfl⟩;have r:=fi.rg _ VT;exact⟨_,rfl,_,rfl,n,_,_,_,rfl,po z HQ,r.1.1,r.1.2,r.2.1,r.2.2,fi.ne _ VT,_,rfl,d8 ⟨rfl,_,rfl⟩⟩
  .rintro σ H2 ⟨rfl,v,rfl⟩;have eA:(zp zs).length<=256:=fi.len;refine⟨_,rfl,l,zs.map (·.1),zp zs,rfl,bn.of (by rw[<-tJ];exact hl),by rw[aW,cN],fun i hi=>?_,fi.nd,fun y hy=>?_,by lia,fun D hD=>?_⟩
   .rw[cN] at hi;rw[Dd hi,FT hi];exact bK.of (po _ (gh hi))
   .have r:=fi.rg _ hy;lia
   .have nl:l≠D:=aq hl hD;refine⟨D,_,rfl,ah,by lia,_,rfl,l,zr zs,rfl,.inl (bn.of (by rw[ao nl];exact hl)),rfl,_,rfl,?_⟩;have ez:(!decide (V.int (((zp zs).length:Nat):Int)=V.int (((zr zs).length:Nat):Int)))=false:=by rw[cN,i_];simp
    rw[ez];exact d8 (k _ (am hD))
end
abbrev vt:Stmt:=fH 35
section
variable {P:Program} {w:World} {K:PySem.W.Frag} {mg:Str->Option Value} {base:Heap}
theorem mq(S:St->Prop)(p q:Int×Int->Int)(h:Int)(hD:H D=none)(hl:H l=some (.lst (zr zs)))(po:PO H zs)(hn:zs.length<=1000)(s0:S σB)(hg:∀z σ H2 (Kt:V->St->Hp->Prop) (Kf:St->Hp->Prop),z∈zs->S σ->H2 z.1=some (Lr z.2)->(∀σ2,S σ2->p z.2=h->Kt (.int (q z.2)) σ2 H2)->(∀σ2,S σ2->p z.2≠h->Kf σ2 H2)->
   g (.ref z.1) σ H2 fun σ2 H2=>tt σ2 H2 fun b H3=>if b=true then te σ2 H3 fun v H4=>Kt v σ2 H4 else Kf σ2 H3)(hd:dN (upd H D (.lst (IV (((zp zs).filter fun y=>decide (p y=h)).map q))))):jD (E2 K l) g tt te D dN σB (upd H D (.lst [])):=by
 have nl:l≠D:=aq hl hD;have tk:∀ {i:Nat} {z:Addr×(Int×Int)},zs[i]?=some z->(zp zs).take (i+1)=(zp zs).take i++[z.2]:=fun {i z} hz=>by
  rw[gg,show (zp zs)[i]?=some z.2 by unfold zp;rw[bA,hz];rfl];rfl
 refine gz (xs:=zr zs) (fun i ys σ H2=>S σ/\ys=IV ((((zp zs).take i).filter fun y=>decide (p y=h)).map q)/\H2=upd H D (.lst ys)) ⟨s0,by simp,rfl⟩ (fun i ys σ H2 _ ⟨_,_,e⟩=>by rw[e];exact bn.of (by rw[ao nl];exact hl)) ?_ ?_
 .rintro i x ys σ H2 Kt Kf hx ⟨hS,ey,rfl⟩ kt kf;obtain⟨z,hz,rfl⟩:=tK hx;have HQ:z∈zs:=dA hz;have hp:=po z HQ;have na:z.1≠D:=aq hp hD;have hi:i<zs.length:=(cH.mp hz).1;refine hg z σ _ Kt Kf HQ hS (by rw[ao na];exact hp) (fun σ2 s2 e=>?_) (fun σ2 s2 e=>?_)
  .refine kt _ _ _ ah ?_ ⟨s2,?_,?_⟩
   .rw[ey,aW,aW];exact gf (mB _ _) (gf (List.length_take_le _ _) (cG (show i<1000 by lia) (by decide)))
   .rw[ey,tk hz,iA,dJ];have:decide (p z.2=h)=true:=by simp[e]
    simp[fA,this]
   .rw[nJ]
  .refine kf _ _ ⟨s2,?_,rfl⟩;have:decide (p z.2=h)=false:=by simp[e]
   rw[ey,tk hz,iA];simp[fA,this]
 .rintro ys σ H2 ⟨_,ey,rfl⟩;rw[i_,<-cN,iC] at ey;rw[ey];exact hd
theorem Ls:(["one","other","house"]:List Str).Nodup:=by decide +kernel
theorem zf:aw ["many","ties","house","leading_out","leading_in"] ["many","ties"] (aj Jx):=⟨rfl,rfl,rfl,by decide +kernel,rfl,by decide +kernel,by decide +kernel⟩
theorem JB(F:dR K "check_balance" "check_balance" Jx f fd)(B:Bl mg)(gM:∃t,mg "MOST_TIES_OUT"=some (.int 8 t)):
  a9 P w K mg base a_ 1 f fd ["many","ties"] jr:=by
 obtain⟨tM,gM⟩:=gM;refine F.ok zf (fun vs H Q E h=>?_) (fun bL A outer s H vs Q E hr h=>?_)
 .obtain⟨n,l,zs,rfl,_⟩:=h;rfl
 .obtain⟨n,l,zs,rfl,T,k⟩:=h;have fi:=T.o9;have n1:=fi.n1;have n2:=fi.n2;have eA:zs.length<=256:=by have:=fi.len;rw[cN] at this;exact this
  refine'⟨_,ai (bW dQ rfl (a7 rfl B.range (aa (pv 0) af)) (aA (i:=2) zf.nd rfl (Or.inr rfl))
   (ag (aK (i:=3) zf.nd rfl (Or.inl rfl) (au aG (by rfl) B.len cY (aa ?c1 af)))
   (ag (aK (i:=4) zf.nd rfl (Or.inl rfl) (au aG (by rfl) B.len cY (aa ?c2 af)))
   (ag (bt (aI qj (pv 3) (pv 4) (aQ _)) dh aO)
   (ai (bt (aI uD (pv 3) (bE (v:=.int 8) rfl gM ⟨_,rfl⟩) (aQ _)) dh aO)))))),?_⟩
  case c1=>
   refine' dG (g:=By K 2 (kH (bR 0) (kH (bR 1) Bw))) (NB:=["one","other","house"]) (src:=[none,none,some 2]) (bX (by kernel_rfl)) rfl (di (pv 1)) ?g ?t ?e;case g=>exact fun cl C s₃ H₃ fp=>gP (n:=2) rfl (bw (aA (i:=0) Ls rfl (Or.inl rfl) (Or.inr rfl)) (bw (aA (i:=1) Ls rfl (Or.inl rfl) (Or.inr rfl)) ft))
   case t=>exact fun cl C s₃ H₃ fp=>dj (aI ij (pv 0) (pv 2) (aQ _))
   case e=>exact fun cl C s₃ H₃ fp=>pv 0
  case c2=>
   refine' dG (g:=By K 2 (kH (bR 0) (kH (bR 1) Bw))) (NB:=["one","other","house"]) (src:=[none,none,some 2]) (bX (by kernel_rfl)) rfl (di (pv 1)) ?g ?t ?e;case g=>exact fun cl C s₃ H₃ fp=>gP (n:=2) rfl (bw (aA (i:=0) Ls rfl (Or.inl rfl) (Or.inr rfl)) (bw (aA (i:=1) Ls rfl (Or.inl rfl) (Or.inr rfl)) ft))
   case t=>exact fun cl C s₃ H₃ fp=>dj (aI ij (pv 1) (pv 2) (aQ _))
   case e=>exact fun cl C s₃ H₃ fp=>pv 1
  refine⟨_,rfl,n,rfl,by lia,by lia,cC (n:=n) (lo:=0) (fun i σ H2=>av H H2/\∃a b c,σ=[some (.int n),some (.ref l),a,b,c]) ⟨av.refl _,none,none,none,rfl⟩ ?_ ?_⟩
  .rintro i σ H2 hi ⟨sm,a,b,c,rfl⟩;have T2:=T.same sm;refine⟨_,rfl,l,rfl,⟨_,bn.of T2.at_⟩,fun D hD=>mq (fun σ=>∃a b,σ=[a,b,some (.int (0+(i:Int)))]) (·.1) (·.1) (0+(i:Int)) hD T2.at_ T2.po (by lia) ⟨_,_,rfl⟩ ?_ ?_⟩
   .rintro z σ H3 Kt Kf hj ⟨x,y,rfl⟩ ha kt kf;refine⟨z.1,_,rfl,bK.of ha,rfl,_,_,rfl,_,_,rfl,rfl,?_⟩;refine⟨_,rfl,_,rfl,rfl,_,rfl,?_⟩;refine iT (fun e=>?_) (fun e=>?_)
    .exact⟨_,rfl,kt _ ⟨_,_,rfl⟩ (by simpa using e)⟩
    .exact kf _ ⟨_,_,rfl⟩ (by simpa using e)
   .refine⟨D,_,rfl,.inl (bn.of ah),?_⟩;have vQ:=cE (o:=.lst (IV (((zp zs).filter fun y=>decide (y.1=0+(i:Int))).map (·.1)))) (sm.trans (av.refl _)) (H:=H) (by cases z:H D with|none=>rfl|some o=>rw[sm _ _ z] at hD;cases hD);have T3:=T.same vQ;refine⟨_,rfl,l,rfl,⟨_,bn.of T3.at_⟩,fun D' VU=>mq (fun σ=>∃a b,σ=[a,b,some (.int (0+(i:Int)))]) (·.2) (·.2) (0+(i:Int)) VU T3.at_ T3.po (by lia) ⟨_,_,rfl⟩ ?_ ?_⟩
    .rintro z σ H3 Kt Kf hj ⟨x,y,rfl⟩ ha kt kf;refine⟨z.1,_,rfl,bK.of ha,rfl,_,_,rfl,_,_,rfl,rfl,?_⟩;refine⟨_,rfl,_,rfl,rfl,_,rfl,?_⟩;refine iT (fun e=>?_) (fun e=>?_)
     .exact⟨_,rfl,kt _ ⟨_,_,rfl⟩ (by simpa using e)⟩
     .exact kf _ ⟨_,_,rfl⟩ (by simpa using e)
    .refine⟨D',_,rfl,.inl (bn.of ah),?_⟩;rw[dD] at *;have q1:(IV (((zp zs).filter fun y=>decide (y.1=(i:Int))).map (·.1))).length=(IV (((zp zs).filter fun y=>decide (y.2=(i:Int))).map (·.2))).length:=by
      rw[aW,aW,aW,aW];exact fi.X4 i
     have q2:(IV (((zp zs).filter fun y=>decide (y.1=(i:Int))).map (·.1))).length<=8:=by
      rw[aW,aW];exact fi.most i
     refine⟨_,rfl,_,rfl,rfl,_,rfl,?_⟩;rw[<-q1];rw[show (!decide (V.int (((IV (((zp zs).filter fun y=>decide (y.1=(i:Int))).map (·.1))).length:Nat):Int)=V.int (((IV (((zp zs).filter fun y=>decide (y.1=(i:Int))).map (·.1))).length:Nat):Int)))=false by simp];refine d8 ?_;refine⟨_,rfl,_,_,rfl,rfl,_,rfl,?_⟩;rw[show decide ((((IV (((zp zs).filter fun y=>decide (y.1=(i:Int))).map (·.1))).length:Nat):Int) > 8)=false by rw[rf];lia];exact d8 ⟨vQ.trans (am VU),_,_,_,rfl⟩
  .rintro σ H2 ⟨sm,a,b,c,rfl⟩;exact k H2 sm
end
def FZ:Expr:=match (bq vt).getD 1 (.Pass ⟨0,0,0,0⟩) with
 |.Return (some (.Call _ _ (k::_) _)) _=>k.value
 |_=>.Name "x" ⟨0,0,0,0⟩
def F1:Arguments:=match FZ with
 |.Lambda a _ _ _=>a
 |_=>{ posonlyargs:=[],args:=[],vararg:=none,kwonlyargs:=[],kw_defaults:=[],kwarg:=none,defaults:=[] }
def F2:Expr:=match FZ with
 |.Lambda _ b _ _=>b
 |e=>e
def Nj:Scope:=match FZ with
 |.Lambda _ _ s _=>s
 |_=>{ kind:=.function,names:=[],isGenerator:=false,isCoroutine:=false }
def JC:Pos:=match FZ with
 |.Lambda _ _ _ p=>p
 |_=>⟨0,0,0,0⟩
def HR:Str:=("houses_out":Str)++".<locals>."++"<lambda>"
abbrev lc(Pt:Addr)(H:Hp):Prop:=eN JC HR Pt H
def qM(Pt:Addr)(H H':Hp):Prop:=∀b o,H b=some o->b≠Pt->H' b=some o
theorem qM.of(a:av H H'):qM Pt H H':=fun c o h _=>a c o h
theorem lc.not(t:lc Pt H)(h:H b=some o)(n:∀ps,o≠.mH ps):b≠Pt:=by
 rintro rfl;rcases t with z|⟨c,z,_⟩ <;> · rw[h] at z;exact n _ (bi z)
theorem lc.same(t:lc Pt H)(e:av H H'):lc Pt H':=by
 rcases t with z|⟨c,z,y⟩
 .exact .inl (e _ _ z)
 .exact .inr ⟨c,e _ _ z,e _ _ y⟩
theorem F3{n a b h:Int}(hn:0<n)(a0:0<=a)(a1:a<n)(b0:0<=b)(b1:b<n)(e:(a-h) % n=(b-h) % n):a=b:=by
 have h1:=Int.emod_emod_of_dvd (a-h) (Int.dvd_refl n);have q:(a-b) % n=0:=by
  have:a-b=(a-h)-(b-h):=by lia
  rw[this,Int.sub_emod,e,Int.sub_self,Int.zero_emod]
 obtain⟨c,hc⟩:=Int.dvd_of_emod_eq_zero q;have c0:c=0:=by
  rcases Int.lt_trichotomy c 0 with z|z|z
  .have:n*c<=n*(-1):=Bc (by lia) (by lia);lia
  .exact z
  .have:n*1<=n*c:=Bc (by lia) (by lia);lia
 rw[c0] at hc;lia
theorem p7{ts:Ts}{h:Int}(nd:ts.Nodup):((ts.filter fun y=>decide (y.1=h)).map (·.2)).Nodup:=by
 refine L2.mf (nd.filter _) fun x hx y hy e=>?_;have a:=(du.mp hx).2;have b:=(du.mp hy).2;simp at a b;exact jZ (a.trans b.symm) e
theorem Au{n:Nat}{ts:Ts}{h:Nat}(F:i6 n ts)(hh:h<n){out:List Int}(ko:Jj (h:Int) (n:Int) ((ts.filter fun y=>decide (y.1=(h:Int))).map (·.2)) out):out.map V.int=NV (dg n ts h):=by
 obtain⟨ps,hp,rfl,hs⟩:=ko;have Aa:(ps.map (·.2)).Perm ((ts.filter fun y=>decide (y.1=(h:Int))).map (·.2)):=by
  have:=hp.map (·.2);rw[fc] at this;refine this.trans (rP ?_);conv=>rhs;rw[<-iJ ((ts.filter fun y=>decide (y.1=(h:Int))).map (·.2))]
  rfl
 have mem:∀z,z∈ps.map (·.2)↔((h:Int),z)∈ts:=fun z=>by
  rw[Aa.mem_iff,aX];constructor
  .rintro⟨y,hy,rfl⟩;obtain⟨y1,y2⟩:=du.mp hy;have:y.1=(h:Int):=by simpa using y2
   rw[<-this];exact y1
  .intro hz;exact⟨_,du.mpr ⟨hz,by simp⟩,rfl⟩
 have nd:(ps.map (·.2)).Nodup:=Aa.nodup_iff.mpr (p7 F.nd);have key:∀q∈ps,q.1=(q.2-(h:Int)) % (n:Int):=fun q hq=>by
  obtain⟨z,_,e⟩:=aX.mp (hp.mem_iff.mp hq);rw[<-e]
 have hn:(0:Int)<n:=by have:=F.n1;lia
 have sorted:(ps.map (·.2)).Pairwise fun x y=>(x-(h:Int)) % (n:Int)<(y-(h:Int)) % (n:Int):=by
  refine kB.mpr ?_;have Yb:=kB.mp nd;refine(hs.and Yb).imp_of_mem fun {x y} hx hy PC=>?_;have l1:=PC.1;rw[key x hx,key y hy] at l1;have ax:=F.rg _ ((mem x.2).mp (aX.mpr ⟨x,hx,rfl⟩));have ay:=F.rg _ ((mem y.2).mp (aX.mpr ⟨y,hy,rfl⟩));have ne:(x.2-(h:Int)) % (n:Int)≠(y.2-(h:Int)) % (n:Int):=fun z=>PC.2 (F3 hn ax.2.1 ax.2.2 ay.2.1 ay.2.2 z);lia
 have e:ps.map (·.2)=(dg n ts h).map fun (o:Nat)=>(o:Int):=by
  refine mS (k:=fun z=>(z-(h:Int)) % (n:Int)) sorted ?_ fun z=>?_
  .refine kB.mpr ?_;exact vm hh
  .rw[mem,aX];constructor
   .intro hz;have r:=F.rg _ hz;refine⟨z.toNat,(dE F hh).mpr ?_,by lia⟩;show (((h:Nat):Int),((z.toNat:Nat):Int))∈ts;rw[show ((z.toNat:Nat):Int)=z by lia];exact hz
   .rintro⟨o,ho,rfl⟩;exact(dE F hh).mp ho
 rw[e,fc];rfl
section
variable {P:Program} {w:World} {K:PySem.W.Frag} {mg:Str->Option Value} {base:Heap}
theorem Dk:aw ["many","ties","house","others"] ["many","ties","house"] (aj vt):=⟨rfl,rfl,rfl,by decide +kernel,rfl,by decide +kernel,by decide +kernel⟩
def tP(Pt:Addr):Sp:=fun vs H Q _=>∃ (n:Nat) (l:Addr) (h:Nat) (zs:Zs),vs=[.int n,.ref l,.int h]/\h<n/\eG H l n zs/\lc Pt H/\
 ∀ (r:Addr) (H':Hp),lc Pt H'->qM Pt H H'->H r=none->H' r=some (.lst (NV (dg n (zp zs) h)))->Q (.ref r) H'
theorem F4(F:u7 K "houses_out" "houses_out" vt f fd c)(B:Bl mg)(kb:K.In base)(hb:pV mg base)(hc:PySem.W.codeHdIn K c Pt=true):
  a9 P w K mg base a_ 1 f fd ["many","ties","house"] (tP Pt):=by
 refine F.ok Dk (fun vs H Q E h=>?_) (fun A outer s H vs Q E hr h=>?_)
 .obtain⟨n,l,h,zs,rfl,_⟩:=h;rfl
 .obtain⟨n,l,h,zs,rfl,hh,T,tb,k⟩:=h;have fi:=T.o9;have n1:=fi.n1;have eA:zs.length<=256:=by have:=fi.len;rw[cN] at this;exact this
  have LS:MX (fQ a_ P w K mg base ["many","ties","house","others"] "houses_out" (aj vt) f (.ref c) A outer s H E).AZ HR F1 F2 Nj "other" "house" "many" 2 0:=
   ⟨⟨_,_,_,_,_,rfl⟩,fun _ _ _ _ _=>rfl,rfl,rfl,rfl,rfl,rfl,rfl,rfl,by decide +kernel,by decide +kernel,by decide +kernel,rfl,rfl,rfl,by decide,⟨by decide,by decide⟩,⟨by decide,by decide⟩⟩
  refine'⟨_,ag (eC (i:=3) (g:=By K 2 (kH (bR 0) (kH (bR 1) Bw))) (NB:=["one","other","house"]) (src:=[none,none,some 2]) (bX (by kernel_rfl)) rfl (di (pv 1)) ?g ?t ?e Dk.nd rfl rfl rfl)
   (ai (aE (qB (xE LS hr) rfl B.sorted Bj (aa (pv 3) af) (su (CL (NB:=["other","house","many"]) (src:=[none,some 2,some 0]) (yR kb hb hc) (bX (by kernel_rfl))) B8)))),?_⟩
  case g=>exact fun cl C s₃ H₃ fp=>gP (n:=2) rfl (bw (aA (i:=0) Ls rfl (Or.inl rfl) (Or.inr rfl)) (bw (aA (i:=1) Ls rfl (Or.inl rfl) (Or.inr rfl)) ft))
  case t=>exact fun cl C s₃ H₃ fp=>dj (aI ij (pv 0) (pv 2) (aQ _))
  case e=>exact fun cl C s₃ H₃ fp=>pv 1
  refine⟨_,rfl,l,rfl,⟨_,bn.of T.at_⟩,fun D hD=>mq (fun σ=>∃a b,σ=[a,b,some (.int (h:Int))]) (·.1) (·.2) (h:Int) hD T.at_ T.po (by lia) ⟨_,_,rfl⟩ ?_ ?_⟩
  .rintro z σ H3 Kt Kf hj ⟨x,y,rfl⟩ ha kt kf;refine⟨z.1,_,rfl,bK.of ha,rfl,_,_,rfl,_,_,rfl,rfl,?_⟩;refine⟨_,rfl,_,rfl,rfl,_,rfl,?_⟩;refine iT (fun e=>?_) (fun e=>?_)
   .exact⟨_,rfl,kt _ ⟨_,_,rfl⟩ (by simpa using e)⟩
   .exact kf _ ⟨_,_,rfl⟩ (by simpa using e)
  .generalize EL:((zp zs).filter fun y=>decide (y.1=(h:Int))).map (·.2)=os;have Hs:os.length<=8:=by rw[<-EL,aW];exact fi.most h
   have sm:av H (upd H D (.lst (IV os))):=am hD;refine⟨_,rfl,tb.same sm,fun f' c' H2 Yc jw EY CF=>?_⟩;have t2:lc Pt H2:=Yc;have lf:H2 D=some (.lst (IV os)):=jw _ _ ah ((tb.same sm).not ah (by intro ps z;cases z));refine⟨D,f',c',os,h,n,rfl,rfl,bn.of lf,(by lia),CF,EY,rfl,rfl,by lia,fun r out uv ko=>?_⟩;rw[<-EL] at ko;rw[Au fi hh ko];have vQ:av H2 (upd H2 r (.lst (NV (dg n (zp zs) h)))):=am uv;refine k r _ (t2.same vQ) (fun b o e hb=>vQ _ _ (jw b o (sm _ _ e) hb)) ?_ ah;cases z:H r with
   |none=>rfl
   |some o=>
    by_cases hP:r=Pt
    .rcases t2 with q|⟨_,q,_⟩ <;> · rw[<-hP,uv] at q;cases q
    .rw[jw r o (sm _ _ z) hP] at uv;cases uv
end
abbrev Dl:Stmt:=fH 36
abbrev xQ:Stmt:=fH 37
def jy(n:Nat)(R:List Nat)(f:Nat->Nat):List V:=(List.range n).map fun x=>if x∈R then V.int ((f x:Nat):Int) else .bp
theorem ja:(jy n R f).length=n:=by unfold jy;rw[aW,iB]
theorem jb(h:x<n):(jy n R f)[x]?=some (if x∈R then V.int ((f x:Nat):Int) else .bp):=by
 unfold jy;rw[bA,List.getElem?_range h];rfl
theorem xR(hs:s<n):(List.replicate n V.bp).set s (V.int 0)=jy n [s] (fun _=>0):=by
 apply wA;intro x;by_cases hx:x<n
 .rw[jb hx];by_cases e:x=s
  .subst e;rw[mz (by rw[og];exact hx),ak (by simp)];rfl
  .rw[jN (fun z=>e z.symm),v5,ak hx,al (by simp[e])]
 .rw[oh (by rw[rM,og];lia),oh (by rw[ja];lia)]
theorem Dm(hv:v<n):(jy n R f).set v (V.int ((k:Nat):Int))=jy n (R++[v]) (put f v k):=by
 apply wA;intro x;by_cases hx:x<n
 .rw[jb hx];by_cases e:x=v
  .subst e;rw[mz (by rw[ja];exact hx),ak (by simp),i7]
  .rw[jN (fun z=>e z.symm),jb hx,eW e];by_cases h:x∈R
   .rw[ak h,ak (fR _ h)]
   .rw[al h,al (fun z=>(cQ.mp z).elim h fun z=>e (by simpa using z))]
 .rw[oh (by rw[rM,ja];lia),oh (by rw[ja];lia)]
def Nk(σ:St):Nat:=match σ[4]? with
 |some (some (V.int z))=>z.toNat
 |_=>0
theorem Yd:(["others"]:List Str).Nodup:=by decide +kernel
def o_(H:Hp)(ol:Addr)(n:Nat)(ts:Ts):Prop:=∃bs:List Addr,H ol=some (.lst (bs.map V.ref))/\Holds H bs n (fun h=>.lst (NV (dg n ts h)))
theorem o_.same(x:o_ H ol n ts)(e:av H H'):o_ H' ol n ts:=let ⟨bs,a,b⟩:=x;⟨bs,e _ _ a,b.mono fun _ _ z=>e _ _ z⟩
theorem HU{as:List Addr}{i:Nat}{x:V}(h:(as.map V.ref)[i]?=some x):i<as.length/\x=.ref (as.getD i 0):=by
 rw[bA] at h;cases e:as[i]? with
 |none=>rw[e] at h;cases h
 |some a=>
  rw[e] at h;refine⟨(cH.mp e).1,?_⟩;rw[bU,e];exact(bi h).symm
section
variable {P:Program} {w:World} {K:PySem.W.Frag} {mg:Str->Option Value} {base:Heap}
theorem kn:aw ["out_lists","start","distances","reached","at","house","other"] ["out_lists","start"] (aj Dl):=⟨rfl,rfl,rfl,by decide +kernel,rfl,by decide +kernel,by decide +kernel⟩
def tQ:Sp:=fun vs H Q _=>∃ (ol:Addr) (n s:Nat) (ts:Ts),vs=[.ref ol,.int s]/\i6 n ts/\s<n/\o_ H ol n ts/\
 ∀ (r:Addr) (H':Hp),av H H'->H r=none->H' r=some (.lst (NV ((List.range n).map (HL ts s))))->Q (.ref r) H'
theorem F5{f:Addr}{fd:FuncData}(F:dR K "distances_from" "distances_from" Dl f fd)(B:Bl mg):a9 P w K mg base a_ 1 f fd ["out_lists","start"] tQ:=by
 refine F.ok kn (fun vs H Q E h=>?_) (fun bL A outer s H vs Q E hr h=>?_)
 .obtain⟨ol,n,s,ts,rfl,_⟩:=h;rfl
 .obtain⟨ol,n,st,ts,rfl,fi,hs,O,k⟩:=h;have n1:=fi.n1;have n2:=fi.n2;refine'⟨_,ag (eC (i:=2) (g:=bR 0) (NB:=["others"]) (src:=[none]) (bX (by kernel_rfl)) rfl (di (pv 0)) ?g ?t ?e kn.nd rfl rfl rfl)
   (ag (lS aB (sg (pv 2) (pv 1) kP))
   (ag (aK (i:=3) kn.nd rfl (Or.inl rfl) (cu (aa (pv 1) af)))
   (ag (aK (i:=4) kn.nd rfl (Or.inl rfl) aB)
   (ag (BG dQ (aI yr (pv 4) (au aG (by rfl) B.len cY (aa (pv 3) af)) (aQ _))
    (ag (aK (i:=5) kn.nd rfl (Or.inl rfl) (bh bv (pv 3) (pv 4) (fun _ _=>rfl)))
    (ag (bW dQ rfl (di (bh bv (pv 0) (pv 5) (fun _ _=>rfl))) (aA (i:=6) kn.nd rfl (Or.inl rfl))
     (ai (bt (aI iR (bh bv (pv 2) (pv 6) (fun _ _=>rfl)) bV (aQ _))
      (ag (lS (ba dz (bh bv (pv 2) (pv 5) (fun _ _=>rfl)) aB) (sg (pv 2) (pv 6) kP))
      (ai (cj (io h_ iy ix b_ (pv 3) (aa (pv 6) af))))) aO)))
    (ai (sj (i:=4) kn.nd rfl (Or.inl rfl) aB IE)))))
   (ai (aE (pv 2))))))),?_⟩
  case g=>exact fun cl C s₃ H₃ fp=>aA (i:=0) Yd rfl (Or.inl rfl) (Or.inr rfl)
  case t=>exact fun cl C s₃ H₃ fp=>jq
  case e=>exact fun cl C s₃ H₃ fp=>bV
  obtain⟨bs,Hs,RJ,Lj⟩:=id O;refine⟨_,rfl,ol,rfl,⟨_,bn.of Hs⟩,fun D hD=>?_⟩;have Ye:ol≠D:=aq Hs hD;refine gz (xs:=bs.map V.ref) (fun i ys σ H2=>(∃a,σ=[a])/\ys=List.replicate i V.bp/\H2=upd H D (.lst ys)) ⟨⟨_,rfl⟩,rfl,rfl⟩ (fun i ys σ H2 _ ⟨_,_,e⟩=>by rw[e];exact bn.of (by rw[ao Ye];exact Hs)) ?_ ?_
  .rintro i x ys σ H2 Kt Kf hx ⟨⟨a,rfl⟩,rfl,rfl⟩ kt kf;have hi:=(HU hx).1;refine kt _ _ _ ah ?_ ⟨⟨_,rfl⟩,?_,by rw[nJ]⟩
   .rw[og];exact cG hi (by rw[RJ];exact bf n2 (by decide))
   .rw[List.replicate_succ']
  .rintro ys σ H2 ⟨_,rfl,rfl⟩;rw[aW,RJ];refine⟨_,rfl,_,rfl,D,_,st,st,rfl,rfl,ah,by rw[og];exact nX hs,?_⟩;rw[nJ,xR hs];refine⟨_,rfl,by show 1<=sizeLine;decide,fun R hR=>?_⟩;have PJ:D≠R:=aq (H:=upd H D (.lst (jy n [st] (fun _=>0)))) ah hR;have RK:H R=none:=by rw[ao PJ.symm] at hR;exact hR
   refine BM (fun σ H2=>∃ (i:Nat) (Rs:List Nat) (f:Nat->Nat),i<=Rs.length/\Am n ts st i Rs f/\(∃a b,σ=[some (.ref ol),some (.int st),some (.ref D),some (.ref R),some (.int (i:Int)),a,b])/\av H H2/\H2 D=some (.lst (jy n Rs f))/\H2 R=some (.lst (NV Rs)))
    (fun σ _=>n-Nk σ) ⟨0,[st],fun _=>0,cS _,Am.start hs,⟨none,none,rfl⟩,cE (am hD) RK,?_,ah⟩ ?_ ?_
   .rw[ao PJ,ah]
   .rintro σ H2 ⟨i,Rs,f,hi,Bf,⟨a,b,rfl⟩,sm,lf,RL⟩;have hRn:Rs.length<=n:=g8 Bf.nd Bf.lt;refine⟨_,rfl,_,rfl,R,_,rfl,.inl (bn.of RL),_,_,rfl,rfl,_,rfl,?_⟩;rw[bu];by_cases nj:i<Rs.length
    .rw[show decide ((i:Int)<((Rs.length:Nat):Int))=true by simp;lia];refine gW ?_;have hu:Rs[i]?=some Rs[i]:=cr nj;generalize Rs[i]=u at hu;have F6:u<n:=Bf.lt u (dA hu);have Yf:(NV Rs)[i]?=some (.int (u:Int)):=by rw[bA,hu];rfl
     refine⟨_,rfl,_,rfl,R,_,_,_,rfl,rfl,bn.of RL,aM Yf,?_⟩;have PM:(bs.map V.ref)[u]?=some (.ref (bs.getD u 0)):=by
      rw[bA,bU,cr (by rw[RJ];exact F6)];rfl
     have Yg:=sm _ _ (Lj _ F6);refine⟨_,rfl,_,rfl,ol,_,_,_,rfl,rfl,bn.of (sm _ _ Hs),aM PM,_,rfl,⟨_,bn.of Yg⟩,?_⟩;have nbD:bs.getD u 0≠D:=aq (Lj _ F6) hD;have nbR:bs.getD u 0≠R:=aq (Lj _ F6) RK;refine oQ (K:=K) (xs:=NV (dg n ts u)) (fun j σ H3=>∃ (nA:List Nat) (f':Nat->Nat),Am n ts st i nA f'/\nA[i]?=some u/\(∀v∈(dg n ts u).take j,v∈nA/\f' v<=f' u+1)/\
      (∃b,σ=[some (.ref ol),some (.int st),some (.ref D),some (.ref R),some (.int (i:Int)),some (.int (u:Int)),b])/\av H H3/\H3 D=some (.lst (jy n nA f'))/\H3 R=some (.lst (NV nA)))
      ⟨Rs,f,Bf,hu,fun v hv=>by simp at hv,⟨_,rfl⟩,sm,lf,RL⟩ (fun j σ H3 _ ⟨_,_,_,_,_,_,Dn,_⟩=>bn.of (Dn _ _ (Lj _ F6))) ?_ ?_
     .rintro j x σ H3 hx ⟨nA,f',F7,vO,dn,⟨b',rfl⟩,Dn,A2,EO⟩;rw[bA] at hx;cases hv:(dg n ts u)[j]? with
      |none=>rw[hv] at hx;cases hx
      |some v=>
       rw[hv] at hx;obtain rfl:V.int ((v:Nat):Int)=x:=bi hx;have VV:v∈dg n ts u:=dA hv;have PP:v<n:=FL fi F6 VV;have Yh:T ts u v:=(dE fi F6).mp VV;have tk:(dg n ts u).take (j+1)=(dg n ts u).take j++[v]:=by rw[gg,hv];rfl
       have Nl:u∈nA:=dA vO;refine⟨_,rfl,_,rfl,D,_,_,_,rfl,rfl,bn.of A2,aM (jb PP),rfl,_,rfl,?_⟩;by_cases JD:v∈nA
       .rw[ak JD];refine d8 ⟨nA,f',F7,vO,fun x hx=>?_,⟨_,rfl⟩,Dn,A2,EO⟩;rw[tk] at hx;rcases cQ.mp hx with z|z
        .exact dn x z
        .simp at z;subst z;exact⟨JD,F7.bd u vO _ JD⟩
       .rw[al JD];refine gW ?_;have Yi:(jy n nA f')[u]?=some (.int ((f' u:Nat):Int)):=by rw[jb F6,ak Nl]
        refine⟨_,rfl,_,rfl,D,_,_,_,rfl,rfl,bn.of A2,aM Yi,_,_,rfl,rfl,_,rfl,_,rfl,D,_,_,_,rfl,rfl,A2,by rw[ja];exact nX PP,?_⟩;have e1:(jy n nA f').set v (.int (((f' u:Nat):Int)+1))=jy n (nA++[v]) (put f' v (f' u+1)):=by
         rw[show ((f' u:Nat):Int)+1=((f' u+1:Nat):Int) by lia,Dm PP]
        rw[e1];have vj:(upd H3 D (.lst (jy n (nA++[v]) (put f' v (f' u+1))))) R=some (.lst (NV nA)):=by rw[ao PJ.symm];exact EO
        have Nm:nA.length<=n:=g8 F7.nd F7.lt;refine⟨_,rfl,.inl ⟨rfl,_,bn.of vj⟩,_,rfl,R,_,_,rfl,rfl,vj,by rw[bu];exact cG (show nA.length<33 by lia) (by decide),?_⟩;have HG:i<nA.length:=(cH.mp vO).1;have Yj:u≠v:=fun z=>JD (z ▸ Nl);refine⟨nA++[v],put f' v (f' u+1),F7.add vO PP Yh JD,by rw[my HG];exact vO,fun x hx=>?_,⟨_,rfl⟩,cE (cE Dn hD) RK,?_,?_⟩
        .rw[eW Yj];rw[tk] at hx;rcases cQ.mp hx with z|z
         .obtain⟨q1,q2⟩:=dn x z;exact⟨fR _ q1,by rw[eW (fun (z:x=v)=>JD (z ▸ q1))];exact q2⟩
         .simp at z;subst z;exact⟨by simp,by rw[i7];exact aN _⟩
        .rw[ao PJ,ah]
        .rw[ah];show _=some (HO.lst (NV (nA++[v])));rw[show NV (nA++[v])=NV nA++[.int (v:Int)] by unfold NV;rw[dJ];rfl]
     .rintro σ H3 ⟨nA,f',F7,vO,dn,⟨b',rfl⟩,Dn,A2,EO⟩;rw[bu,iC] at dn;have HG:i<nA.length:=(cH.mp vO).1;have Nm:nA.length<=n:=g8 F7.nd F7.lt;refine⟨_,rfl,_,_,rfl,rfl,⟨⟨i+1,nA,f',HG,F7.next vO (fun v t=>dn v ((dE fi F6).mpr t)),⟨_,_,rfl⟩,Dn,A2,EO⟩,?_⟩⟩;show n-((i:Int)+1).toNat<n-(i:Int).toNat;lia
    .rw[show decide ((i:Int)<((Rs.length:Nat):Int))=false by rw[rf];lia];have e:jy n Rs f=NV ((List.range n).map (HL ts st)):=by
      unfold jy NV;rw[fc];refine mD fun x hx=>?_;obtain⟨q1,q2⟩:=Bf.done fi (by lia) (cR.mp hx);rw[ak q1,q2];rfl
     rw[e] at lf;refine d8 ⟨_,rfl,k D H2 sm hD lf⟩
   .rintro σ H2 Q1 Q2 imp ⟨v,e1,v2,e2,p,ys,e3,e4,i1,i2,e5,e6,kk,e7,q⟩;exact⟨v,e1,v2,e2,p,ys,e3,e4,i1,i2,e5,e6,kk,e7,imp _ _ q⟩
end
theorem Nn:(["row"]:List Str).Nodup:=by decide +kernel
section
variable {P:Program} {w:World} {K:PySem.W.Frag} {mg:Str->Option Value} {base:Heap}
theorem F8:aw ["distances"] ["distances"] (aj xQ):=⟨rfl,rfl,rfl,by decide +kernel,rfl,by decide +kernel,by decide +kernel⟩
def tR:Sp:=fun vs H Q _=>∃ (l:Addr) (ds:List Addr) (n:Nat) (o:Nat->List V),vs=[.ref l]/\H l=some (.lst (ds.map V.ref))/\n<=32/\Holds H ds n (fun j=>.lst (o j))/\(∀j,j<n->∀x∈o j,∃i,x=.int i)/\∀H',av H H'->Q .bp H'
theorem Do(F:dR K "check_reached" "check_reached" xQ f fd)(B:Bl mg):a9 P w K mg base a_ 1 f fd ["distances"] tR:=by
 refine F.ok F8 (fun vs H Q E h=>?_) (fun bL A outer s H vs Q E hr h=>?_)
 .obtain⟨l,ds,n,o,rfl,_⟩:=h;rfl
 .obtain⟨l,ds,n,o,rfl,hl,n2,hh,hx,k⟩:=h;refine'⟨_,ai (bt (cU (au (z0 rfl) (by rfl) B.any PyProof.Rows.boot_any (aa ?c af))) dh aO),?_⟩;case c=>
   refine' dG (g:=bR 0) (te:=kJ (Mg K false) (tC .bp) (a8 0)) (NB:=["row"]) (src:=[none]) (bX (by kernel_rfl)) rfl (di (pv 0)) ?g ?t ?e;case g=>exact fun cl C s₃ H₃ fp=>aA (i:=0) Nn rfl (Or.inl rfl) (Or.inr rfl)
   case t=>exact fun cl C s₃ H₃ fp=>jq
   case e=>exact fun cl C s₃ H₃ fp=>fW l8 bV (pv 0) rfl
  refine⟨_,rfl,l,rfl,⟨_,bn.of hl⟩,fun D hD=>?_⟩;have nl:l≠D:=aq hl hD;refine gz (xs:=ds.map V.ref) (fun i ys σ H2=>(∃a,σ=[a])/\ys=(List.replicate i false).map V.bl/\H2=upd H D (.lst ys)) ⟨⟨_,rfl⟩,rfl,rfl⟩ (fun i ys σ H2 _ ⟨_,_,e⟩=>by rw[e];exact bn.of (by rw[ao nl];exact hl)) ?_ ?_
  .rintro i x ys σ H2 Kt Kf Yk ⟨⟨a,rfl⟩,rfl,rfl⟩ kt kf;obtain⟨hi,rfl⟩:=HU Yk;rw[hh.1] at hi;have hd:=hh.2 i hi;have nd:ds.getD i 0≠D:=aq hd hD;have q1:(o i).all ee=true:=iD.mpr fun x si=>by obtain⟨z,rfl⟩:=hx i hi x si;rfl
   have q2:yC .bp (o i)=false:=by
    unfold yC;rw[wB];intro x si;obtain⟨z,rfl⟩:=hx i hi x si;exact fun z=>by cases z
   refine⟨_,rfl,_,_,rfl,.inl (bn.of (by rw[ao nd];exact hd)),rfl,q1,?_⟩;refine kt _ _ _ ah ?_ ⟨⟨_,rfl⟩,?_,by rw[nJ]⟩
   .rw[aW,og];exact cG hi (bf n2 (by decide))
   .rw[List.replicate_succ',dJ,q2];rfl
  .rintro ys σ H2 ⟨_,rfl,rfl⟩;refine⟨D,_,rfl,bn.of ah,_,rfl,?_⟩;have e:(List.replicate (ds.map V.ref).length false).any id=false:=by
    rw[wB];intro x si;rw[(List.mem_replicate.mp si).2];decide
   rw[e];exact d8 (k _ (am hD))
end
theorem VW:(["one","other"]:List Str).Nodup:=by decide +kernel
theorem No:(["house","many","ties"]:List Str).Nodup:=by decide +kernel
theorem RM:(["house","self"]:List Str).Nodup:=by decide +kernel
def jH(p Pt:Addr)(H H':Hp):Prop:=∀b o,H b=some o->b≠p->b≠Pt->H' b=some o
theorem eG.mono(h:eG H l n zs)(e:jH p Pt H H')(hp:H p=some (.ins C dx fs))(tb:lc Pt H):eG H' l n zs:=
 ⟨h.o9,e _ _ h.at_ (d_ h.at_ hp (by intro z;cases z)) (tb.not h.at_ (by intro ps z;cases z)),fun z hz=>e _ _ (h.po z hz) (d_ (h.po z hz) hp (by intro z;cases z)) (tb.not (h.po z hz) (by intro ps z;cases z))⟩
theorem lc.mono(t:lc Pt H)(e:∀b o,H b=some o->b≠p->H' b=some o)(hp:H p=some (.ins C dx fs)):lc Pt H':=by
 rcases t with z|⟨c,z,y⟩
 .exact .inl (e _ _ z (d_ z hp (by intro q;cases q)))
 .exact .inr ⟨c,e _ _ z (d_ z hp (by intro q;cases q)),e _ _ y (d_ y hp (by intro q;cases q))⟩
theorem lc.full(t:lc Pt H):H Pt≠none:=by
 rcases t with z|⟨c,z,y⟩ <;> rw[z] <;> intro q <;> cases q
theorem jH.free(s:jH p Pt H H')(hp:H' p≠none)(tb:lc Pt H')(h:H' r=none):H r=none:=by
 cases z:H r with
 |none=>rfl
 |some o=>
  by_cases e1:r=p
  .subst e1;exact absurd h hp
  .by_cases e2:r=Pt
   .subst e2;exact absurd h tb.full
   .rw[s r o z e1 e2] at h;cases h
theorem Np(h:k [] H):gU σ H k:=h
theorem js{H:Hp}{p:Addr}{o:HO}(h:H p=some o):H p≠none:=by rw[h];intro z;cases z
section
variable {P:Program} {w:World} {K:PySem.W.Frag} {mg:Str->Option Value} {base:Heap}
theorem JE:aw ["self","many","ties"] ["self","many","ties"] (aj y_):=⟨rfl,rfl,rfl,by decide +kernel,rfl,by decide +kernel,by decide +kernel⟩
def xS(C Pt:Addr):Sp:=fun vs H Q E=>∃ (p dx:Addr) (n:Nat) (l:Addr) (zs:Zs),vs=[.ref p,.int n,.ref l]/\H p=some (.ins C dx [])/\eG H l n zs/\lc Pt H/\
  ∀H',fk C H' (fun a=>H a=none) p n (zp zs)->lc Pt H'->jH p Pt H H'->Q .bp H'
theorem F9{f C Pt:Addr}{fd:FuncData}(F:dR K "__init__" "Net.__init__" y_ f fd)(T:NT K mg C)(B:Bl mg)(CT:bJ P w K mg base a_ 6 "check_ties" ["many","ties"] jr)(CB:bJ P w K mg base a_ 1 "check_balance" ["many","ties"] jr)(Yl:bJ P w K mg base a_ 1 "houses_out" ["many","ties","house"] (tP Pt))(DF:bJ P w K mg base a_ 1 "distances_from" ["out_lists","start"] tQ)(CR:bJ P w K mg base a_ 1 "check_reached" ["distances"] tR):
  a9 P w K mg base a_ 7 f fd ["self","many","ties"] (xS C Pt):=by
 refine F.ok JE (fun vs H Q E h=>?_) (fun bL A outer s H vs Q E hr h=>?_)
 .obtain⟨p,dx,n,l,zs,rfl,_⟩:=h;rfl
 .have Av:aZ 1 _:=hr.mono (by decide);refine'⟨_,ag (cj (az CT hr aL (aa (pv 1) (aa (pv 2) af))))
   (ag (cj (az CB Av aL (aa (pv 1) (aa (pv 2) af))))
   (ag (lW (pv 0) (pv 1) rfl)
   (ag (lW (pv 0) (au xK (by rfl) B.sorted Bj (aa ?c1 af)) rfl)
   (ag (lW (pv 0) ?c2 rfl)
   (ag (lW (pv 0) ?c3 rfl)
   (ai (cj (az CR Av aL (aa (gT (pv 0) rfl) af))))))))),?_⟩
  case c1=>
   refine' dG (g:=By K 2 (kH (bR 0) (kH (bR 1) Bw))) (te:=IM (bF (a8 0) (bF (a8 1) gU))) (NB:=["one","other"]) (src:=[none,none]) (bX (by kernel_rfl)) rfl (di (pv 2)) ?g ?t ?e;case g=>exact fun cl C s₃ H₃ fp=>gP (n:=2) rfl (bw (aA (i:=0) VW rfl (Or.inl rfl) (Or.inr rfl)) (bw (aA (i:=1) VW rfl (Or.inl rfl) (Or.inr rfl)) ft))
   case t=>exact fun cl C s₃ H₃ fp=>jq
   case e=>exact fun cl C s₃ H₃ fp=>lY (aa (pv 0) (aa (pv 1) af))
  case c2=>
   refine' dG (g:=bR 0) (te:=kL (tP Pt) [] E0 (bF (a8 1) (bF (a8 2) (bF (a8 0) gU)))) (NB:=["house","many","ties"]) (src:=[none,some 1,some 2]) (bX (by kernel_rfl)) rfl (a7 rfl B.range (aa (pv 1) af)) ?g ?t ?e;case g=>exact fun cl C s₃ H₃ fp=>aA (i:=0) No rfl (Or.inl rfl) (Or.inr rfl)
   case t=>exact fun cl C s₃ H₃ fp=>jq
   case e=>exact fun cl C s₃ H₃ fp=>az Yl Av aL (aa (pv 1) (aa (pv 2) (aa (pv 0) af)))
  case c3=>
   refine' dG (g:=bR 0) (te:=kL tQ [] E0 (bF (L_ K (a8 1) "out_lists") (bF (a8 0) gU))) (NB:=["house","self"]) (src:=[none,some 0]) (bX (by kernel_rfl)) rfl (a7 rfl B.range (aa (pv 1) af)) ?g ?t ?e;case g=>exact fun cl C s₃ H₃ fp=>aA (i:=0) RM rfl (Or.inl rfl) (Or.inr rfl)
   case t=>exact fun cl C s₃ H₃ fp=>jq
   case e=>exact fun cl C s₃ H₃ fp=>az DF Av aL (aa (gT (pv 1) rfl) (aa (pv 0) af))
  obtain⟨p,dx,n,l,zs,rfl,hp,TT,tb,k⟩:=h;have fi:=TT.o9;have n1:=fi.n1;have n2:=fi.n2;have eA:zs.length<=256:=by have:=fi.len;rw[cN] at this;exact this
  refine⟨_,rfl,_,rfl,n,l,zs,rfl,TT,fun H1 s1=>?_⟩;refine⟨_,rfl,_,rfl,n,l,zs,rfl,TT.same s1,fun H2 s2=>?_⟩;have n6:av H H2:=s1.trans s2;refine⟨_,rfl,_,rfl,p,C,dx,[],rfl,n6 _ _ hp,T.cl,T.nH,(by show 0<1000;decide),?_⟩
  let G1:Hp:=upd H2 p (.ins C dx (ck "house_count" (.int n) []))
  have d1:jH p Pt H G1:=fun b o e h1 _=>by show upd _ _ _ _=_;rw[ao h1];exact n6 _ _ e
  have PQ:G1 p=some (.ins C dx (ck "house_count" (.int n) [])):=ah;have RN:eG G1 l n zs:=TT.mono d1 hp tb;have RO:lc Pt G1:=tb.mono (fun b o e h1=>by show upd _ _ _ _=_;rw[ao h1];exact n6 _ _ e) hp;refine⟨_,rfl,l,rfl,⟨_,bn.of RN.at_⟩,fun D hD=>?_⟩;refine De (fun y=>y) (fun σ=>∃a b,σ=[a,b]) RN.at_ RN.po hD (by lia) ⟨_,_,rfl⟩ ?_ ?_
  .rintro z σ H3 R Kf hz ⟨a,b,rfl⟩ ha kk;refine⟨_,_,rfl,bK.of ha,rfl,_,_,rfl,_,_,rfl,rfl,?_⟩;exact⟨_,rfl,_,rfl,by show 2<=sizeLine;decide,fun t ht=>kk _ _ ⟨_,_,rfl⟩ ht⟩
  .intro VX H3 sm A2 Nq ez Ym;rw[List.map_id'] at ez;have Mn:VX.length=zs.length:=by rw[<-cN,ez,cN]
   refine Np ?_;refine FU A2 Nq (by lia) (fun u hu=>by have:=(fi.rg u (ez ▸ hu)).2;lia) fun tl Lu RP pm Yn=>?_;have RQ:H tl=none:=d1.free (js PQ) RO (sm.free RP);have IF:∀z∈Lu,H z.1=none:=fun z hz=>d1.free (js PQ) RO (Ym z (pm.mem_iff.mp hz));have RS:H3 p=some (.ins C dx (ck "house_count" (.int n) [])):=sm _ _ PQ;have JF:p≠tl:=aq RS RP;refine⟨_,rfl,p,C,dx,_,rfl,by rw[ao JF];exact RS,T.cl,T.nT,by show 1<1000;decide,?_⟩
   let G2:Hp:=upd (upd H3 tl (.lst (zr Lu))) p (.ins C dx (ck "tie_list" (.ref tl) (ck "house_count" (.int n) [])))
   have q2:∀b o,H3 b=some o->b≠p->G2 b=some o:=fun b o e h1=>by
    show upd _ _ _ _=_;rw[ao h1,ao (aq e RP)];exact e
   have d2:jH p Pt H G2:=fun b o e h1 h2=>q2 _ _ (sm _ _ (d1 _ _ e h1 h2)) h1;have VY:G2 tl=some (.lst (zr Lu)):=by show upd _ _ _ _=_;rw[ao JF.symm,ah]
   have RT:PO G2 Lu:=fun z hz=>q2 _ _ (Nq z (pm.mem_iff.mp hz)) (d_ (Nq z (pm.mem_iff.mp hz)) RS (by intro z;cases z));have JG:G2 p=some (.ins C dx (ck "tie_list" (.ref tl) (ck "house_count" (.int n) []))):=ah;have Yo:eG G2 l n zs:=TT.mono d2 hp tb;have JI:lc Pt G2:=RO.mono (fun b o e h1=>q2 _ _ (sm _ _ e) h1) PQ;refine⟨_,rfl,n,rfl,by lia,by lia,fun D2 lf=>?_⟩;refine eD (n:=n) (lo:=0) (fun i ys σ H4=>(∃a,σ=[a,some (.int n),some (.ref l)])/\∃bs:List Addr,ys=bs.map V.ref/\(∀b∈bs,H b=none)/\Holds H4 bs i (fun h=>.lst (NV (dg n (zp zs) h)))/\qM Pt G2 H4/\lc Pt H4/\H4 D2=some (.lst ys)/\∀b∈bs,b≠D2)
    ⟨⟨_,rfl⟩,[],rfl,(fun _ h=>nomatch h),Holds.nil,qM.of (am lf),JI.same (am lf),ah,(fun _ h=>nomatch h)⟩ ?_ ?_
   .rintro i ys σ H4 Kt Kf hi ⟨⟨a,rfl⟩,bs,rfl,RU,hb,zS,Lv,A3,RV⟩ kt kf;have Yp:eG H4 l n zs:=Yo.mono (p:=p) (fun b o e _ h2=>zS _ _ e h2) JG JI;have Lw:=zS _ _ JG (JI.not JG (by intro ps z;cases z));refine⟨_,rfl,_,rfl,_,rfl,n,l,i,zs,by rw[dD];rfl,hi,Yp,Lv,fun r H5 t5 uq RX Yq=>?_⟩;have RY:H r=none:=jH.free (fun b o e h1 h2=>zS _ _ (d2 _ _ e h1 h2) h2) (js Lw) Lv RX;have PU:H5 D2=some (.lst (bs.map V.ref)):=uq _ _ A3 (Lv.not A3 (by intro ps z;cases z));have Nr:r≠D2:=by rintro rfl;rw[A3] at RX;cases RX
    have jI:∀b o u8,H5 b=some o->b≠D2->(upd H5 D2 u8) b=some o:=fun b o u8 e h=>by rw[ao h];exact e
    refine kt _ _ _ PU (by rw[aW,hb.1];exact cG hi (bf n2 (by decide))) ⟨⟨_,rfl⟩,bs++[r],by rw[dJ];rfl,?_,?_,?_,?_,ah,?_⟩
    .intro b yF;rcases cQ.mp yF with z|z
     .exact RU b z
     .rw[cJ.mp z];exact RY
    .refine Holds.snoc (hb.mono fun j hj e=>?_) (jI _ _ _ Yq Nr);refine jI _ _ _ (uq _ _ e (Lv.not e (by intro ps z;cases z))) (RV _ ?_);rw[bU,cr (by rw[hb.1];exact hj)];exact gh _
    .intro b o e h;exact jI _ _ _ (uq _ _ (zS _ _ e h) h) (aq e lf)
    .rcases t5 with z|⟨c,z,y⟩
     .exact .inl (jI _ _ _ z (d_ z PU (by intro q;cases q)))
     .exact .inr ⟨c,jI _ _ _ z (d_ z PU (by intro q;cases q)),jI _ _ _ y (d_ y PU (by intro q;cases q))⟩
    .intro b yF;rcases cQ.mp yF with z|z
     .exact RV b z
     .rw[cJ.mp z];exact Nr
   .rintro ys σ H4 ⟨_,bs,rfl,RU,hb,zS,Lv,A3,RV⟩;have Lw:H4 p=some (.ins C dx (ck "tie_list" (.ref tl) (ck "house_count" (.int n) []))):=zS _ _ JG (JI.not JG (by intro ps z;cases z));have RZ:H D2=none:=d2.free (js JG) JI lf;refine⟨_,rfl,p,C,dx,_,rfl,Lw,T.cl,T.nO,by have h1:=de "tie_list" (V.ref tl) (ck "house_count" (V.int n) []);have h2:=de "house_count" (V.int n) [];simp at h2;lia,?_⟩
    let G3:Hp:=upd H4 p (.ins C dx (ck "out_lists" (.ref D2) (ck "tie_list" (.ref tl) (ck "house_count" (.int n) []))))
    have q3:∀b o,H4 b=some o->b≠p->G3 b=some o:=fun b o e h1=>by show upd _ _ _ _=_;rw[ao h1];exact e
    have JJ:G3 p=some (.ins C dx (ck "out_lists" (.ref D2) (ck "tie_list" (.ref tl) (ck "house_count" (.int n) [])))):=ah;have d3:jH p Pt H G3:=fun b o e h1 h2=>q3 _ _ (zS _ _ (d2 _ _ e h1 h2) h2) h1;have R0:lc Pt G3:=Lv.mono q3 Lw;have VZ:Holds G3 bs n (fun h=>.lst (NV (dg n (zp zs) h))):=hb.mono fun j hj e=>q3 _ _ e (d_ e Lw (by intro z;cases z));have R1:G3 D2=some (.lst (bs.map V.ref)):=q3 _ _ A3 (d_ A3 Lw (by intro z;cases z));have O3:o_ G3 D2 n (zp zs):=⟨bs,R1,VZ⟩
    refine⟨_,rfl,n,rfl,by lia,by lia,fun D3 JK=>?_⟩;refine eD (n:=n) (lo:=0) (fun i ys σ H6=>(∃a,σ=[a,some (.ref p)])/\∃ds:List Addr,ys=ds.map V.ref/\(∀b∈ds,H b=none)/\Holds H6 ds i (fun s=>.lst (NV ((List.range n).map (HL (zp zs) s))))/\av G3 H6/\H6 D3=some (.lst ys)/\∀b∈ds,b≠D3)
     ⟨⟨_,rfl⟩,[],rfl,(fun _ h=>nomatch h),Holds.nil,am JK,ah,(fun _ h=>nomatch h)⟩ ?_ ?_
    .rintro i ys σ H6 Kt Kf hi ⟨⟨a,rfl⟩,ds,rfl,R3,hd,Cs,A4,L8⟩ kt kf;refine⟨_,rfl,p,C,dx,_,_,rfl,Cs _ _ JJ,T.cl,T.nO,by rw[aR,ak rfl],_,rfl,D2,n,i,zp zs,by rw[dD];rfl,fi,hi,O3.same Cs,fun r H7 R4 Nt Yr=>?_⟩;have Ys:H7 D3=some (.lst (ds.map V.ref)):=R4 _ _ A4;have Nr:r≠D3:=by rintro rfl;rw[A4] at Nt;cases Nt
     have RY:H r=none:=jH.free (fun b o e h1 h2=>Cs _ _ (d3 _ _ e h1 h2)) (js (Cs _ _ JJ)) (R0.same Cs) Nt;have jI:∀b o u8,H7 b=some o->b≠D3->(upd H7 D3 u8) b=some o:=fun b o u8 e h=>by rw[ao h];exact e
     refine kt _ _ _ Ys (by rw[aW,hd.1];exact cG hi (bf n2 (by decide))) ⟨⟨_,rfl⟩,ds++[r],by rw[dJ];rfl,?_,?_,?_,ah,?_⟩
     .intro b yF;rcases cQ.mp yF with z|z
      .exact R3 b z
      .rw[cJ.mp z];exact RY
     .refine Holds.snoc (hd.mono fun j hj e=>?_) (jI _ _ _ Yr Nr);refine jI _ _ _ (R4 _ _ e) (L8 _ ?_);rw[bU,cr (by rw[hd.1];exact hj)];exact gh _
     .intro b o e;exact jI _ _ _ (R4 _ _ (Cs _ _ e)) (aq e JK)
     .intro b yF;rcases cQ.mp yF with z|z
      .exact L8 b z
      .rw[cJ.mp z];exact Nr
    .rintro ys σ H6 ⟨_,ds,rfl,R3,hd,Cs,A4,L8⟩;have Nu:=Cs _ _ JJ;refine⟨_,rfl,p,C,dx,_,rfl,Nu,T.cl,T.nD,by have h1:=de "tie_list" (V.ref tl) (ck "house_count" (V.int n) []);have h2:=de "house_count" (V.int n) [];have h3:=de "out_lists" (V.ref D2) (ck "tie_list" (V.ref tl) (ck "house_count" (V.int n) []));simp at h2;lia,?_⟩;have q4:∀b o u,H6 b=some o->b≠p->(upd H6 p u) b=some o:=fun b o u e h1=>by rw[ao h1];exact e
     refine⟨_,rfl,p,C,dx,_,_,rfl,ah,T.cl,T.nD,by rw[aR,ak rfl],D3,ds,n,fun s=>NV ((List.range n).map (HL (zp zs) s)),rfl,q4 _ _ _ A4 (d_ A4 Nu (by intro z;cases z)),n2,hd.mono fun j hj e=>q4 _ _ _ e (d_ e Nu (by intro z;cases z)),fun j hj x hx=>?_,fun H8 s8=>?_⟩
     .obtain⟨y,hy,rfl⟩:=aX.mp hx;exact⟨_,rfl⟩
     .have up:∀b o,G3 b=some o->b≠p->H8 b=some o:=fun b o e h1=>s8 _ _ (q4 _ _ _ (Cs _ _ e) h1);have R5:H D3=none:=d3.free (js JJ) R0 JK;have V0:∀b o,G2 b=some o->b≠p->b≠Pt->H8 b=some o:=fun b o e h1 h2=>up _ _ (q3 _ _ (zS _ _ e h2) h1) h1;refine k H8 ⟨fi,dx,tl,D2,D3,s8 _ _ ah,RZ,R5,⟨bs,up _ _ R1 (d_ R1 JJ (by intro z;cases z)),RU,VZ.mono fun j hj e=>up _ _ e (d_ e JJ (by intro z;cases z))⟩,
       ⟨ds,s8 _ _ (q4 _ _ _ A4 (d_ A4 Nu (by intro z;cases z))),R3,hd.mono fun j hj e=>s8 _ _ (q4 _ _ _ e (d_ e Nu (by intro z;cases z)))⟩,
       ⟨RQ,Lu,V0 _ _ VY JF.symm (JI.not VY (by intro ps z;cases z)),fun z hz=>V0 _ _ (RT z hz) (d_ (RT z hz) JG (by intro z;cases z)) (JI.not (RT z hz) (by intro ps z;cases z)),IF,((show (zp Lu).Perm (zp VX) from pm.map _).trans (rP ez)),Yn⟩⟩ ?_ fun b o e h1 h2=>up _ _ (d3 _ _ e h1 h2) h1
      exact R0.mono up JJ
end
theorem g_:NV xs++[.int (x:Int)]=NV (xs++[x]):=by unfold NV;rw[dJ];rfl
theorem qN{xs:List Nat}{i:Nat}{x:V}(h:(NV xs)[i]?=some x):∃y,xs[i]?=some y/\x=.int (y:Int):=by
 unfold NV at h;rw[bA] at h;cases e:xs[i]? with
 |none=>rw[e] at h;cases h
 |some z=>rw[e] at h;exact⟨z,rfl,(bi h).symm⟩
end nz
namespace L2
open PySem PySem.Spec PyProof.Rows
section
variable {X:Cx}
def HV(X:Cx)(H:Hp)(d:Nat)(x y:V):Prop:=∀ (ae:List (Addr×Obj)) (s:Shared) (σ:St) (A:Around) (u v:Value),aD X ae σ H s->A.units+d<cLine->bj x u->bj y v->SeqAt.EqAt A s u v true
theorem F_:HV X H 0 (.int i) (.int i):=by
 intro ae s σ A u v I hu rx ry;have h:=sw (A:=A) (s:=s) rx ry rfl rfl;rw[show ut (.int i) (.int i)=true by show decide (i=i)=true;simp] at h;exact h
theorem qO(I:aD X ae σ H s)(hu:A.units+d<cLine)(rx:aP xs us)(ry:aP ys vs)(he:∀i,i<xs.length->i<ys.length->HV X H d (xs.getD i .bp) (ys.getD i .bp)):∀j (h1:j<us.toArray.size) (h2:j<vs.toArray.size),SeqAt.EqAt A s us.toArray[j] vs.toArray[j] true:=by
 intro j h1 h2;have j1:j<xs.length:=by rw[rx.length];simpa using h1
 have j2:j<ys.length:=by rw[ry.length];simpa using h2
 have e1:xs[j]?=some (xs.getD j .bp):=by rw[bU,cr j1];rfl
 have e2:ys[j]?=some (ys.getD j .bp):=by rw[bU,cr j2];rfl
 obtain⟨u,Rg,ru⟩:=rx.get e1;obtain⟨v,Rh,rv⟩:=ry.get e2;have eu:us.toArray[j]=u:=by
  have:us[j]?=some us.toArray[j]:=by simp at h1 |-
  rw[Rg] at this;exact(bi this).symm
 have ev:vs.toArray[j]=v:=by
  have:vs[j]?=some vs.toArray[j]:=by simp at h2 |-
  rw[Rh] at this;exact(bi this).symm
 rw[eu,ev];exact he j j1 j2 ae s σ A u v I hu ru rv
theorem vw:(List.range n).all (fun _=>true)=true:=iD.mpr fun _ _=>rfl
def Nv(X:Cx)(IS:Bool)(d:Nat):R2:=fun x y H Q=>∃p q xs ys,x=.ref p/\y=.ref q/\bK X.K H p xs/\bK X.K H q ys/\xs.length=ys.length/\(∀i,i<xs.length->i<ys.length->HV X H d (xs.getD i .bp) (ys.getD i .bp))/\Q (.bl (!IS)) H
theorem zg{d:Nat}(hu:X.A.units+(d+1)<cLine):jC X (compareOp .NotEq) (Nv X true d):=by
 intro ae s σ H x y v u Q I rx ry h;obtain⟨p,q,xs,ys,rfl,rfl,hp,hq,hl,he,k⟩:=h;obtain rfl:v=Value.ref p:=rx;obtain rfl:u=Value.ref q:=ry;obtain⟨us,r1,p1,_⟩:=I.tuple hp;obtain⟨vs,r2,p2,_⟩:=I.tuple hq;have e:(us.toArray.size==vs.toArray.size)=true:=by simp only[cA];rw[<-r1.length,<-r2.length,hl];simp
 refine SeqAt.RcNeAt.tuples (e:=fun _=>true) (show s.heap.IsTuple p us.toArray from p1) (show s.heap.IsTuple q vs.toArray from p2) (by lia) (qO I (by show X.A.units+1+d<cLine;lia) r1 r2 he) _ _ _ _ ⟨.bl _,H,I,rfl,?_⟩;rw[vw,e];exact k
def HW(X:Cx)(IS:Bool)(d:Nat):R2:=fun x y H Q=>∃p q xs ys,x=.ref p/\y=.ref q/\bn X.K H p xs/\bn X.K H q ys/\xs.length=ys.length/\(∀i,i<xs.length->i<ys.length->HV X H d (xs.getD i .bp) (ys.getD i .bp))/\Q (.bl (!IS)) H
theorem zh{d:Nat}(hu:X.A.units+(d+1)<cLine):jC X (compareOp .NotEq) (HW X true d):=by
 intro ae s σ H x y v u Q I rx ry h;obtain⟨p,q,xs,ys,rfl,rfl,hp,hq,hl,he,k⟩:=h;obtain rfl:v=Value.ref p:=rx;obtain rfl:u=Value.ref q:=ry;obtain⟨us,r1,p1,_⟩:=I.list hp;obtain⟨vs,r2,p2,_⟩:=I.list hq;refine SeqAt.RcNeAt.lists (e:=fun _=>true) p1.isList p2.isList (by simp only[cA];rw[<-r1.length,<-r2.length];exact hl) (by lia) (qO I (by show X.A.units+1+d<cLine;lia) r1 r2 he) _ _ _ _ ⟨.bl _,H,I,rfl,?_⟩;rw[vw];exact k
end
end L2
namespace nz
open PySem L2 ir
section
variable {P:Program} {w:World} {K:PySem.W.Frag} {mg:Str->Option Value} {base:Heap}
theorem JM:aw ["self"] ["self"] (aj Df):=⟨rfl,rfl,rfl,by decide +kernel,rfl,by decide +kernel,by decide +kernel⟩
def xT(C:Addr):Sp:=fun vs H Q _=>∃ (L:Addr->Prop) (p:Addr) (n:Nat) (ts:Ts),vs=[.ref p]/\fk C H L p n ts/\Q (.int n) H
theorem Ga{f C:Addr}{fd:FuncData}(F:dR K "many" "Net.many" Df f fd)(T:NT K mg C):a9 P w K mg base a_ 1 f fd ["self"] (xT C):=by
 refine F.ok JM (fun vs H Q E h=>?_) (fun bL A outer s H vs Q E hr h=>?_)
 .obtain⟨L,p,n,ts,rfl,_⟩:=h;rfl
 .obtain⟨L,p,n,ts,rfl,N,k⟩:=h;obtain⟨dx,tl,ol,ds,h1,_⟩:=N.ob;refine⟨_,ai (aE (gT (pv 0) rfl)),?_⟩;exact⟨_,rfl,p,C,dx,_,_,rfl,h1,T.cl,T.nH,zc _ _ _ _,k⟩
end
end nz
namespace L2
open PySem PySem.Spec PyProof.Rows
theorem Dp{X:Cx}:Pj X .Mult (fun x y H Q=>∃i j,x=.int i/\y=.int j/\BQ i j/\Q (.int (i*j)) H):=by
 intro ae s σ H x y v u Q I r1 r2 h;obtain⟨i,j,e1,e2,c,q⟩:=h;subst e1;subst e2;obtain⟨t,rfl⟩:=r1;obtain⟨t',rfl⟩:=r2;exact imul_int ⟨.int _,H,I.tok _,⟨_,rfl⟩,q⟩ c.ok
end L2
namespace nz
open PySem L2 ir
abbrev Dq:Stmt:=fH 42
abbrev tT:Stmt:=fH 43
abbrev tU:Stmt:=fH 45
abbrev tV:Stmt:=fH 46
abbrev Dr:Stmt:=fH 47
def qP(ns:List Nat):Nat:=ns.foldl (·*·) 1
theorem xU{ns:List Nat}{x:Nat}:qP (ns++[x])=qP ns*x:=by unfold qP;rw[List.foldl_append];rfl
theorem Ds{ns:List Nat}:qP ns=pr ns:=by
 have go:∀ (l:List Nat) (a:Nat),l.foldl (·*·) a=a*pr l:=fun l=>by
  induction l with
  |nil=>intro a;exact(lL a).symm
  |cons x l ih=>intro a;rw[rN,ih];show a*x*pr l=a*(x*pr l);rw[rR]
 unfold qP;rw[go,r6]
theorem gc.weak{H:Hp}{L L':Addr->Prop}{l:Addr}{n:Nat}{r:Nat->List Nat}(R:gc H L l n r)(h:∀a,L a->L' a):gc H L' l n r:=let ⟨bs,a,b,c⟩:=R;⟨bs,a,fun x hx=>h _ (b x hx),c⟩
theorem fk.weak{C:Addr}{H:Hp}{L L':Addr->Prop}{p:Addr}{n:Nat}{ts:Ts}(N:fk C H L p n ts)(h:∀a,L a->L' a):fk C H L' p n ts:=
 let ⟨dx,tl,ol,ds,a,l1,l2,b,c,d1,zs,d2,d3,d4,d5⟩:=N.ob
 ⟨N.o9,dx,tl,ol,ds,a,h _ l1,h _ l2,b.weak h,c.weak h,h _ d1,zs,d2,d3,fun z hz=>h _ (d4 z hz),d5⟩
def mX(H:Hp)(D:Addr)(ts:Ts)(H2:Hp):Prop:=av H H2/\∃zs:Zs,H2 D=some (.lst (zr zs))/\PO H2 zs/\zp zs=ts
theorem mX.add{H H2:Hp}{D t:Addr}{ts:Ts}{u:Int×Int}{zs:Zs}(hD:H D=none)(sm:av H H2)(h1:H2 D=some (.lst (zr zs)))(po:PO H2 zs)(ez:zp zs=ts)(ht:H2 t=none):mX H D (ts++[u]) (upd (upd H2 t (Lr u)) D (.lst (zr zs++[.ref t]))):=by
 have nD:D≠t:=aq h1 ht;refine⟨cE (sm.trans (am ht)) hD,zs++[(t,u)],by rw[ah,qK];rfl,?_,?_⟩
 .refine PO.putL (xs:=zr zs) ?_ (by rw[ao nD];exact h1);exact(po.putN ht).append (PO.one ah)
 .rw[qL,ez];rfl
section
variable {P:Program} {w:World} {K:PySem.W.Frag} {mg:Str->Option Value} {base:Heap}
abbrev Dt(C Pt:Addr)(H:Hp)(n:Nat)(ts:Ts)(Q:VK):Prop:=∀ (p:Addr) (H':Hp),H p=none->fk C H' (fun a=>H a=none) p n ts->lc Pt H'->qM Pt H H'->Q (.ref p) H'
theorem jc:aw ["many","pairs","ties","pair","one","other"] ["many","pairs"] (aj tT):=⟨rfl,rfl,rfl,by decide +kernel,rfl,by decide +kernel,by decide +kernel⟩
def pc(C Pt:Addr):Sp:=fun vs H Q _=>∃ (n:Nat) (l:Addr) (zs:Zs),vs=[.int n,.ref l]/\H l=some (.lst (zr zs))/\PO H zs/\i6 n (ku (zp zs))/\lc Pt H/\Dt C Pt H n (ku (zp zs)) Q
theorem Aw{f C Pt fI:Addr}{fd V1:FuncData}(F:dR K "pairs_net" "pairs_net" tT f fd)(B:Bl mg)(T:NT K mg C)(M:Mk K C fI)(bI:eL K V1 ["self","many","ties"] [])(GI:a9 P w K mg base a_ 7 fI V1 ["self","many","ties"] (xS C Pt))(R:bJ P w K mg base a_ 1 "is_row" ["thing","length"] (vp K)):
  a9 P w K mg base a_ 9 f fd ["many","pairs"] (pc C Pt):=by
 refine F.ok jc (fun vs H Q E h=>?_) (fun bL A outer s H vs Q E hr h=>?_)
 .obtain⟨n,l,zs,rfl,_⟩:=h;rfl
 .obtain⟨n,l,zs,rfl,hl,po,fi,tb,k⟩:=h;have h1:aZ 1 _:=hr.mono (by decide);refine⟨_,ag (bt (c_ (cU (au fF (by rfl) B.tI dO (aa (pv 1) (aa (gO (v:=.ty "list") rfl B.lst rh rfl) af))))) dh aO)
   (ag (aK (i:=2) jc.nd rfl (Or.inl rfl) (cu af))
   (ag (bW dQ rfl (di (pv 1)) (aA (i:=3) jc.nd rfl (Or.inl rfl))
    (ag (bt (c_ (cU (az R h1 aL (aa (pv 3) (aa aB af))))) dh aO)
    (ag (lS (pv 3) (gP (n:=2) rfl (bw (aA (i:=4) jc.nd rfl (Or.inl rfl)) (bw (aA (i:=5) jc.nd rfl (Or.inl rfl)) ft))))
    (ag (cj (io h_ iy ix b_ (pv 2) (aa (lY (aa (pv 4) (aa (pv 5) af))) af)))
    (ai (cj (io h_ iy ix b_ (pv 2) (aa (lY (aa (pv 5) (aa (pv 4) af))) af))))))))
   (ai (aE (yu M GI hr rfl T.RI bI .nil aL (aa (pv 0) (aa (pv 2) af))))))),?_⟩
  have eA:2*zs.length<=256:=by have:=fi.len;rw[tj,cN] at this;exact this
  refine⟨_,rfl,_,_,_,.type "list",true,rfl,⟨rfl,vq⟩,.of (.lst hl),_,rfl,d8 ?_⟩;refine⟨by show 0<=sizeLine;decide,fun D hD=>?_⟩;refine⟨_,rfl,l,rfl,⟨_,bn.of (am hD _ _ hl)⟩,oQ (K:=K) (xs:=zr zs) (fun i σ H2=>(∃x3 x4 x5,σ=[some (.int n),some (.ref l),some (.ref D),x3,x4,x5])/\mX H D (ku ((zp zs).take i)) H2) ⟨⟨_,_,_,rfl⟩,am hD,[],ah,PO.nil,rfl⟩ (fun i σ H2 _ z=>bn.of (z.2.1 _ _ hl)) ?_ ?_⟩
  .rintro i x σ H2 hx ⟨⟨x3,x4,x5,rfl⟩,vQ,ys,hy,R6,ey⟩;obtain⟨z,hz,rfl⟩:=tK hx;have hi:i<zs.length:=(cH.mp hz).1;have ha:=vQ _ _ (po z (dA hz));have Nw:ys.length<=256:=by rw[<-cN,ey,tj,kF,cN];lia
   refine⟨_,rfl,_,_,_,rfl,.tup ha,_,rfl,d8 ?_⟩;refine⟨_,rfl,_,_,rfl,bK.of ha,rfl,_,_,rfl,_,_,rfl,rfl,?_⟩;refine⟨_,rfl,.inl ⟨rfl,_,bn.of hy⟩,_,rfl,_,rfl,by show 2<=sizeLine;decide,fun t ht=>?_⟩;refine⟨D,_,_,rfl,rfl,am ht _ _ hy,by rw[i_];exact gf Nw (by decide),?_⟩;obtain⟨Dn,Yt,R7,Nq,V2⟩:=mX.add (u:=z.2) hD vQ hy R6 ey ht;have R8:Yt.length=ys.length+1:=by rw[<-cN,V2,<-ey,dP,cN];rfl
   generalize upd (upd H2 t _) D _=H3 at *;refine⟨_,rfl,.inl ⟨rfl,_,bn.of R7⟩,_,rfl,_,rfl,by show 2<=sizeLine;decide,fun t2 PV=>?_⟩;refine⟨D,_,_,rfl,rfl,am PV _ _ R7,by rw[i_,R8];exact gf (Nat.succ_le_succ Nw) (by decide),⟨_,_,_,rfl⟩,?_⟩;have P4:=mX.add (u:=y3 z.2) hD Dn R7 Nq V2 PV;have e2:(zp zs)[i]?=some z.2:=by unfold zp;rw[bA,hz];rfl
   rw[gg,e2,Option.toList_some,xL];rw[cK] at P4;exact P4
  .rintro σ H2 ⟨⟨x3,x4,x5,rfl⟩,vQ,ys,hy,R6,ey⟩;rw[i_,<-cN,iC] at ey;refine⟨_,rfl,_,rfl,fun px dx nx R9 R_=>?_⟩;have sN:av H2 (upd (upd H2 dx (.own px)) px (.ins C dx [])):=(am (o:=.own px) R9).trans (am (D:=px) (o:=.ins C dx []) (by rw[ao R_.symm];exact nx));have Yu:(upd (upd H2 dx (.own px)) px (.ins C dx [])) px=some (.ins C dx []):=ah;have sM:=vQ.trans sN;generalize upd (upd H2 dx (.own px)) px (.ins C dx [])=HM at *;have TM:eG HM D n ys:=⟨by rw[ey];exact fi,sN _ _ hy,R6.same sN⟩
   refine⟨px,dx,n,D,ys,rfl,Yu,TM,tb.same sM,fun H7 N7 t7 s7=>⟨rfl,?_⟩⟩;have V3:H px=none:=vQ.free nx;rw[ey] at N7;exact k px H7 V3 (N7.weak fun a ha=>sM.free ha) t7 fun b o e h=>s7 _ _ (sM _ _ e) (aq e V3) h
theorem qQ{o:Option Int}{a b:Nat}(h:aT o a b=true):∃n:Nat,a<=n/\n<=b/\o=some (n:Int):=by
 cases o with
 |none=>cases h
 |some i=>
  unfold aT at h;simp at h;exact⟨i.toNat,by lia,by lia,by congr 1;lia⟩
theorem Dt.same{C Pt:Addr}{H H1:Hp}{n:Nat}{ts:Ts}{Q:VK}(k:Dt C Pt H n ts Q)(s:av H H1):Dt C Pt H1 n ts Q:=fun p H' hp N t st=>k p H' (s.free hp) (N.weak fun a ha=>s.free ha) t fun b o e h=>st _ _ (s _ _ e) h
end
inductive Sd (K:PySem.W.Frag) (H:Hp):V->Option (List (Option Int))->Prop where
 |tup {p:Addr} {xs:List V} {os:List (Option Int)} (h:H p=some (.tup xs)) (hl:xs.length=os.length) (e:∀ (i:Nat) x o,xs[i]?=some x->os[i]?=some o->Wh K H x o):Sd K H (.ref p) (some os)
 |no {x:V} {t:Value} (ty:I_ K H x t) (h:PySem.W.kitOne K t (.type "tuple")=some false):Sd K H x none
def iu(os:List (Option Int)):List Nat:=os.map fun o=>(o.getD 0).toNat
def box:Option (List (Option Int))->Option (List Nat)
 |none=>none
 |some os=>if decide (1<=os.length)&&(decide (os.length<=5)&&(os.all (fun o=>aT o 2 8)&&decide (pr (iu os)<=32))) then some (iu os) else none
theorem Du{os:List (Option Int)}{ns:List Nat}(h:box (some os)=some ns):ns=iu os/\1<=ns.length/\ns.length<=5/\(∀x∈ns,2<=x/\x<=8)/\pr ns<=32/\os=ns.map fun (n:Nat)=>some (n:Int):=by
 unfold box at h;dsimp only at h;by_cases c:(decide (1<=os.length)&&(decide (os.length<=5)&&(os.all (fun o=>aT o 2 8)&&decide (pr (iu os)<=32))))=true
 .rw[ak c] at h;simp only[e_,jR,iD] at c;obtain⟨c1,c2,c3,c4⟩:=c;obtain rfl:=bi h;have ex:∀o∈os,∃n:Nat,2<=n/\n<=8/\o=some (n:Int):=fun o ho=>qQ (a:=2) (b:=8) (c3 o ho);refine⟨rfl,by unfold iu;rw[aW];exact c1,by unfold iu;rw[aW];exact c2,fun x hx=>?_,c4,?_⟩
  .obtain⟨o,ho,rfl⟩:=aX.mp hx;obtain⟨n,n1,n2,rfl⟩:=ex o ho;exact⟨by show 2<=(n:Int).toNat;lia,by show (n:Int).toNat<=8;lia⟩
  .unfold iu;rw[fc];conv=>lhs;rw[<-iJ os]
   refine mD fun o ho=>?_;obtain⟨n,n1,n2,rfl⟩:=ex o ho;show some (n:Int)=some (((n:Int).toNat:Nat):Int);exact congrArg some (by lia)
 .rw[al c] at h;cases h
section
variable {P:Program} {w:World} {K:PySem.W.Frag} {mg:Str->Option Value} {base:Heap}
theorem tW:aw ["numbers","result","number"] ["numbers"] (aj Dr):=⟨rfl,rfl,rfl,by decide +kernel,rfl,by decide +kernel,by decide +kernel⟩
def pf(K:PySem.W.Frag):Sp:=fun vs H Q _=>∃ (a:Addr) (ns:List Nat),vs=[.ref a]/\bK K H a (NV ns)/\(∀x∈ns,x<=1000)/\Q (.int (pr ns)) H
theorem Gb{f:Addr}{fd:FuncData}(F:dR K "product" "product" Dr f fd):a9 P w K mg base a_ 1 f fd ["numbers"] (pf K):=by
 refine F.ok tW (fun vs H Q E h=>?_) (fun bL A outer s H vs Q E hr h=>?_)
 .obtain⟨a,ns,rfl,_⟩:=h;rfl
 .obtain⟨a,ns,rfl,hS,hx,k⟩:=h;refine⟨_,ag (aK (i:=1) tW.nd rfl (Or.inl rfl) aB)
   (ag (bW dQ rfl (lT (pv 0)) (aA (i:=2) tW.nd rfl (Or.inl rfl)) (ai (sj (i:=1) tW.nd rfl (Or.inl rfl) (pv 2) Dp)))
   (ai (aE (pv 1)))),?_⟩
  refine⟨_,rfl,a,rfl,⟨_,hS⟩,jl (K:=K) (xs:=NV ns) (fun i σ H2=>H2=H/\∃x,σ=[some (.ref a),some (.int (qP (ns.take i))),x]) ⟨rfl,_,rfl⟩ (fun i σ H2 _ z=>by rw[z.1];exact hS) ?_ ?_⟩
  .rintro i x σ H2 si ⟨rfl,y,rfl⟩;obtain⟨v,hv,rfl⟩:=qN si;have h1:=hx v (dA hv);refine⟨_,rfl,_,rfl,_,_,rfl,rfl,.inr ⟨by lia,by lia⟩,rfl,some (.int v),?_⟩;have tk:ns.take (i+1)=ns.take i++[v]:=by rw[gg,hv];rfl
   rw[tk,xU];rfl
  .rintro σ H2 ⟨rfl,x,rfl⟩;rw[bu,iC,Ds];exact⟨_,rfl,k⟩
end
end nz
namespace ir
def HX(m:Nat)(ns:List Nat)(i:Nat):List (Nat×Nat):=(List.range i).flatMap fun j=>pX m (pr (ns.take j)) (ns.getD j 0)
theorem jJ{α:Type}{f:Nat->List α}{n:Nat}:(List.range (n+1)).flatMap f=(List.range n).flatMap f++f n:=by
 rw[gD,List.flatMap_append];simp
theorem jt:∀ {ns:List Nat} {x:Nat},pr (ns++[x])=pr ns*x
 |[],x=>by show x*1=1*x;lia
 |n::ns,x=>by show n*pr (ns++[x])=n*pr ns*x;rw[jt,rR]
theorem Dv{m:Nat}:∀ {ns:List Nat} {st:Nat},bx m st ns=(List.range ns.length).flatMap fun j=>pX m (st*pr (ns.take j)) (ns.getD j 0)
 |[],st=>rfl
 |n::ns,st=>by
  show pX m st n++bx m (st*n) ns=_;rw[dt,rk,List.flatMap_cons,Dv (ns:=ns)];congr 1
  .show pX m st n=pX m (st*1) n;rw[lL]
  .rw[List.flatMap_map];congr 1;funext j;show _=pX m (st*(n*pr (ns.take j))) (ns.getD j 0);rw[rR]
end ir
namespace nz
open PySem L2 ir
section
variable {P:Program} {w:World} {K:PySem.W.Frag} {mg:Str->Option Value} {base:Heap}
theorem ph{os:List (Option Int)}(h:(decide (1<=os.length)&&(decide (os.length<=5)&&(os.all (fun o=>aT o 2 8)&&decide (pr (iu os)<=32))))=false):box (some os)=none:=by
 unfold box;dsimp only;rw[h];rfl
theorem JN{os:List (Option Int)}(h:(decide (1<=os.length)&&(decide (os.length<=5)&&(os.all (fun o=>aT o 2 8)&&decide (pr (iu os)<=32))))=true):box (some os)=some (iu os):=by
 unfold box;dsimp only;rw[h];rfl
theorem Sd.nums{H:Hp}{p:Addr}{os:List (Option Int)}{xs:List V}(h:H p=some (.tup xs))(hl:xs.length=os.length)(e:∀ (i:Nat) x o,xs[i]?=some x->os[i]?=some o->Wh K H x o)(ha:os.all (fun o=>aT o 2 8)=true):xs=NV (iu os)/\∀x∈iu os,2<=x/\x<=8:=by
 have ex:∀o∈os,∃n:Nat,2<=n/\n<=8/\o=some (n:Int):=fun o ho=>qQ (a:=2) (b:=8) (iD.mp ha o ho);refine⟨wA fun i=>?_,fun x hx=>?_⟩
 .unfold NV iu;rw[bA,bA];cases c:xs[i]? with
  |none=>
   have:os[i]?=none:=by
    rw[Bi] at c |-;lia
   rw[this];rfl
  |some x=>
   have hi:i<os.length:=by have:=(cH.mp c).1;lia
   have c2:os[i]?=some os[i]:=cr hi;obtain⟨n,n1,n2,e3⟩:=ex os[i] (gh hi);have wh:=e i x _ c c2;rw[c2,e3] at *;obtain rfl:=mm wh;show some (V.int (n:Int))=some (V.int (((n:Int).toNat:Nat):Int));rw[wC]
 .obtain⟨o,ho,rfl⟩:=aX.mp hx;obtain⟨n,n1,n2,rfl⟩:=ex o ho;exact⟨by show 2<=(n:Int).toNat;lia,by show (n:Int).toNat<=8;lia⟩
theorem vx:aw ["sides","side"] ["sides"] (aj tU):=⟨rfl,rfl,rfl,by decide +kernel,rfl,by decide +kernel,by decide +kernel⟩
def pi(K:PySem.W.Frag)(CS:Addr):Sp:=fun vs H Q E=>∃ (x:V) (o:Option (List (Option Int))),vs=[x]/\Sd K H x o/\(box o=none->E (.ref CS) none H)/\(∀ns,box o=some ns->Q .bp H)
theorem Ax{f CS:Addr}{fd:FuncData}(F:dR K "check_sides" "check_sides" tU f fd)(B:Bl mg)(e:Er K mg "NoShape" CS)(gM:∃t,mg "MOST_SIDES"=some (.int 5 t))(gS:∃t,mg "SHORTEST_SIDE"=some (.int 2 t))(gL:∃t,mg "LONGEST_SIDE"=some (.int 8 t))(gH:∃t,mg "MOST_HOUSES"=some (.int 32 t))(W:bJ P w K mg base a_ 2 "is_whole_within" ["thing","least","most"] (i9 K))(PR:bJ P w K mg base a_ 1 "product" ["numbers"] (pf K)):a9 P w K mg base (eO P w) 3 f fd ["sides"] (pi K CS):=by
 obtain⟨tM,gM⟩:=gM;obtain⟨tS,gS⟩:=gS;obtain⟨tL,gL⟩:=gL;obtain⟨tH,gH⟩:=gH;refine F.Hm vx (fun vs H Q E h=>?_) (fun bL A outer s H vs Q E hr h=>?_)
 .obtain⟨x,o,rfl,_⟩:=h;rfl
 .obtain⟨x,o,rfl,sd,k1,k2⟩:=h;have h1:aZ 1 _:=hr.mono (by decide);refine⟨_,ag (bt (PW.pt (uA (c_ (cU (au fF (by rfl) B.tI dO (aa (pv 0) (aa (gO (v:=.ty "tuple") rfl B.tup kA rfl) af))))) (oO (c_ (cU (az W hr aL (aa (au aG (by rfl) B.len cY (aa (pv 0) af)) (aa aB (aa (bE (v:=.int 5) rfl gM ⟨_,rfl⟩) af))))))))) (ai (gy (q:=fun H1=>E (.ref CS) none H1) rfl e.ok rfl e.at_ (aa lP af) (fun _ _ _ _ _ _ _ I m q=>gw I m q))) aO)
   (ag (bW Fk rfl (lT (pv 0)) (aA (i:=1) vx.nd rfl (Or.inl rfl)) (ai (bt (c_ (cU (az W hr aL (aa (pv 1) (aa (bE (v:=.int 2) rfl gS ⟨_,rfl⟩) (aa (bE (v:=.int 8) rfl gL ⟨_,rfl⟩) af)))))) (ai (gy (q:=fun H1=>E (.ref CS) none H1) rfl e.ok rfl e.at_ (aa lP af) (fun _ _ _ _ _ _ _ I m q=>gw I m q))) aO)))
   (ai (bt (aI uD (az PR h1 aL (aa (pv 0) af)) (bE (v:=.int 32) rfl gH ⟨_,rfl⟩) (aQ _)) (ai (gy (q:=fun H1=>E (.ref CS) none H1) rfl e.ok rfl e.at_ (aa lP af) (fun _ _ _ _ _ _ _ I m q=>gw I m q))) aO))),?_⟩
  cases sd with
  |no ty h=>exact⟨_,rfl,_,_,_,_,false,rfl,⟨rfl,h⟩,ty,_,rfl,gW ⟨by show 1<=sizeLine;decide,k1 rfl⟩⟩
  |@tup p xs os hp hl ew=>
   refine⟨_,rfl,_,_,_,.type "tuple",true,rfl,⟨rfl,y9⟩,.of (.tup hp),_,rfl,d8 ?_⟩;refine⟨_,rfl,p,xs,rfl,.inr (bK.of hp),_,_,1,5,rfl,.int _,_,rfl,?_⟩;cases hw:aT (some ((xs.length:Nat):Int)) 1 5 with
   |false=>
    refine gW ⟨by show 1<=sizeLine;decide,k1 (ph ?_)⟩;unfold aT at hw;simp at hw;by_cases c:1<=os.length
    .rw[bD c,cV (show ¬ os.length<=5 by lia)];rfl
    .rw[cV c];rfl
   |true=>
    have An:1<=os.length/\os.length<=5:=by unfold aT at hw;simp at hw;lia
    refine d8 ⟨_,rfl,p,rfl,⟨_,bK.of hp⟩,jl (K:=K) (xs:=xs) (fun i σ H2=>H2=H/\(∃v,σ=[some (.ref p),v])/\∀j o,j<i->os[j]?=some o->aT o 2 8=true) ⟨rfl,⟨_,rfl⟩,fun j o hj=>absurd hj (by lia)⟩ (fun i σ H2 _ z=>by rw[z.1];exact bK.of hp) ?_ ?_⟩
    .rintro i v σ H2 hv ⟨rfl,⟨v',rfl⟩,nj⟩;have hi:i<os.length:=by have:=(cH.mp hv).1;lia
     have ho:os[i]?=some os[i]:=cr hi;refine⟨_,rfl,_,_,2,8,rfl,ew i v _ hv ho,_,rfl,?_⟩;cases hc:aT os[i] 2 8 with
     |false=>
      refine gW ⟨by show 1<=sizeLine;decide,k1 (ph ?_)⟩;have:os.all (fun o=>aT o 2 8)=false:=by
       rw[List.all_eq_false];exact⟨os[i],gh hi,by rw[hc];decide⟩
      rw[bD An.1,bD An.2,this];rfl
     |true=>
      refine d8 ⟨rfl,⟨_,rfl⟩,fun j o hj Sa=>?_⟩;by_cases c:j=i
      .subst c;rw[ho] at Sa;obtain rfl:=bi Sa;exact hc
      .exact nj j o (by lia) Sa
    .rintro σ H2 ⟨rfl,⟨v',rfl⟩,nj⟩;have ha:os.all (fun o=>aT o 2 8)=true:=iD.mpr fun o ho=>by
      obtain⟨j,hj,rfl⟩:=rA.mp ho;exact nj j _ (by lia) (cr hj)
     obtain⟨ex,hx⟩:=Sd.nums hp hl ew ha;subst ex;refine⟨_,rfl,p,iu os,rfl,bK.of hp,fun x si=>by have:=hx x si;lia,_,_,rfl,rfl,_,rfl,?_⟩;refine iT (fun c=>?_) (fun c=>?_)
     .have c':(32:Int)<((pr (iu os):Nat):Int):=by simpa using c
      refine⟨by show 1<=sizeLine;decide,k1 (ph ?_)⟩;rw[bD An.1,bD An.2,ha,cV (by lia)];rfl
     .have c':¬ (32:Int)<((pr (iu os):Nat):Int):=by simpa using c
      exact k2 _ (JN (by rw[bD An.1,bD An.2,ha,bD (by lia)];rfl))
end
theorem fm{A B:Prop}{b:Bool}(hb:b=true)(h:A):if b=true then A else B:=by rw[ak hb];exact h
theorem dF{A B:Prop}{b:Bool}(hb:b=false)(h:B):if b=true then A else B:=by rw[al (by rw[hb];decide)];exact h
theorem Dw{m st n:Nat}:pX (m+1) st n=pX m st n++(if m / st % n+1<n then [(m,m+st)] else []):=by
 unfold pX;rw[gD,iA,dJ,fA];by_cases c:m / st % n+1<n
 .rw[ak (bD c),ak c];rfl
 .rw[al (by simpa using c),al c];rfl
theorem kq:∀ {ns:List Nat} {i:Nat},(∀x∈ns,1<=x)->pr (ns.take i)<=pr ns
 |[],i,_=>by rw[List.take_nil];exact aN _
 |n::ns,0,h=>by
  show 1<=n*pr ns;have:∀ {l:List Nat},(∀x∈l,1<=x)->1<=pr l:=fun {l}=>by
   induction l with
   |nil=>intro _;exact aN _
   |cons x l ih=>intro hl;exact lK (hl x bC) (ih fun y hy=>hl y (bz _ hy))
  exact this (l:=n::ns) h
 |n::ns,i+1,h=>by
  show n*pr (ns.take i)<=n*pr ns;exact lC n (kq fun x hx=>h x (bz _ hx))
section
variable {P:Program} {w:World} {K:PySem.W.Frag} {mg:Str->Option Value} {base:Heap}
theorem gC:aw ["sides","pairs","step","side","house"] ["sides"] (aj tV):=⟨rfl,rfl,rfl,by decide +kernel,rfl,by decide +kernel,by decide +kernel⟩
def pk:Sp:=fun vs H Q _=>∃ (a:Addr) (ns:List Nat),vs=[.ref a]/\H a=some (.tup (NV ns))/\ns.length<=5/\(∀x∈ns,2<=x/\x<=8)/\pr ns<=32/\∀ (r:Addr) (zs:Zs) (H':Hp),av H H'->H r=none->H' r=some (.lst (zr zs))->PO H' zs->zp zs=(g9 ns).map nZ->Q (.ref r) H'
theorem Ay{f:Addr}{fd:FuncData}(F:dR K "box_pairs" "box_pairs" tV f fd)(B:Bl mg)(PR:bJ P w K mg base a_ 1 "product" ["numbers"] (pf K)):a9 P w K mg base a_ 2 f fd ["sides"] pk:=by
 refine F.ok gC (fun vs H Q E h=>?_) (fun bL A outer s H vs Q E hr h=>?_)
 .obtain⟨a,ns,rfl,_⟩:=h;rfl
 .obtain⟨a,ns,rfl,ha,hl,hn,hm,k⟩:=h;refine⟨_,ag (aK (i:=1) gC.nd rfl (Or.inl rfl) (cu af))
   (ag (aK (i:=2) gC.nd rfl (Or.inl rfl) aB)
   (ag (bW dQ rfl (lT (pv 0)) (aA (i:=3) gC.nd rfl (Or.inl rfl))
    (ag (bW dQ rfl (a7 rfl B.range (aa (az PR hr aL (aa (pv 0) af)) af)) (aA (i:=4) gC.nd rfl (Or.inl rfl))
     (ai (bt (aI yr (ba dz (ba gR (ba nP (pv 4) (pv 2)) (pv 3)) aB) (pv 3) (aQ _))
      (ai (cj (io h_ iy ix b_ (pv 1) (aa (lY (aa (pv 4) (aa (ba dz (pv 4) (pv 2)) af))) af)))) aO)))
    (ai (sj (i:=2) gC.nd rfl (Or.inl rfl) (pv 3) Dp))))
   (ai (aE (pv 1))))),?_⟩
  refine⟨by show 0<=sizeLine;decide,fun D hD=>?_⟩;have s0:=am (o:=.lst []) hD;have V4:∀x∈ns,1<=x:=fun x hx=>by have:=hn x hx;lia
  refine⟨_,rfl,a,rfl,⟨_,bK.of (s0 _ _ ha)⟩,jl (K:=K) (xs:=NV ns) (fun i σ H2=>(∃x3 x4,σ=[some (.ref a),some (.ref D),some (.int ((pr (ns.take i):Nat):Int)),x3,x4])/\mX H D ((HX (pr ns) ns i).map nZ) H2) ⟨⟨_,_,rfl⟩,s0,[],ah,PO.nil,rfl⟩ (fun i σ H2 _ z=>bK.of (z.2.1 _ _ ha)) ?_ ?_⟩
  .rintro i x σ H2 hx ⟨⟨x3,x4,rfl⟩,P2⟩;obtain⟨n,hv,rfl⟩:=qN hx;have hi:i<ns.length:=(cH.mp hv).1;have V5:=hn n (dA hv);have fh:=kq (ns:=ns) (i:=i) V4;have Yv:1<=pr (ns.take i):=by
    have:=kq (ns:=ns.take i) (i:=0) fun x hx=>V4 x (jM hx);exact this
   have gd:ns.getD i 0=n:=by rw[bU,hv];rfl
   have tk:ns.take (i+1)=ns.take i++[n]:=by rw[gg,hv];rfl
   rw[tk,jt];have eB:HX (pr ns) ns (i+1)=HX (pr ns) ns i++pX (pr ns) (pr (ns.take i)) n:=by unfold HX;rw[jJ,gd]
   rw[eB];generalize pr (ns.take i)=st at *;refine⟨_,rfl,a,ns,rfl,bK.of (P2.1 _ _ ha),fun x hx=>by have:=hn x hx;lia,?_⟩;refine⟨((pr ns:Nat):Int),rfl,by lia,by lia,cC (n:=pr ns) (lo:=0) (fun j σ H4=>(∃x4,σ=[some (.ref a),some (.ref D),some (.int (st:Int)),some (.int (n:Int)),x4])/\mX H D ((HX (pr ns) ns i++pX j st n).map nZ) H4) ⟨⟨_,rfl⟩,by rw[show pX 0 st n=[] from rfl,rO];exact P2⟩ ?_ ?_⟩
   .rintro j σ H4 hj ⟨⟨Yw,rfl⟩,zS,V6,PX,V7,Sb⟩;have Yx:((0:Int)+(j:Int)) / (st:Int) % (n:Int)+1=(((j / st % n+1:Nat)):Int):=by rw[dD];rfl
    refine⟨_,rfl,_,rfl,_,_,rfl,rfl,⟨by lia,by lia⟩,_,rfl,_,_,rfl,rfl,(by show (0:Int)<(n:Int);lia),_,_,rfl,rfl,_,rfl,_,_,rfl,rfl,_,rfl,?_⟩;rw[Yx,Dw];by_cases c:j / st % n+1<n
    .rw[ak c];refine fm (bD (by lia)) ?_;rw[dD];refine⟨_,rfl,.inl ⟨rfl,_,bn.of PX⟩,_,rfl,_,rfl,_,rfl,_,_,rfl,rfl,by show 2<=sizeLine;decide,fun t ht=>?_⟩;have Sc:V6.length<=1000:=by
      have e:=congrArg List.length Sb;rw[cN,aW,dP] at e;have z1:∀m' s' n',(pX m' s' n').length<=m':=fun m' s' n'=>by unfold pX;rw[aW];exact bf (mB _ _) (by simp)
      have z2:∀i',(HX (pr ns) ns i').length<=i'*32:=fun i'=>by
       induction i' with
       |zero=>exact aN _
       |succ i' ih=>unfold HX at ih |-;rw[jJ,dP,Nat.succ_mul];have:=z1 (pr ns) (pr (ns.take i')) (ns.getD i' 0);lia
      have:=z2 i;have:=z1 j st n;lia
     refine⟨D,_,_,rfl,rfl,am ht _ _ PX,by rw[i_];exact gf Sc (by decide),⟨_,rfl⟩,?_⟩;have P5:=mX.add (u:=nZ (j,j+st)) hD zS PX V7 Sb ht;rw[<-cK,dJ (l₂:=[(j,j+st)])];exact P5
    .rw[al c,rO];refine dF (cV (by lia)) ⟨⟨_,rfl⟩,zS,V6,PX,V7,Sb⟩
   .rintro σ H4 ⟨⟨Yw,rfl⟩,P4⟩;exact⟨_,rfl,_,rfl,_,_,rfl,rfl,.inr ⟨by lia,by lia⟩,⟨_,_,rfl⟩,P4⟩
  .rintro σ H2 ⟨⟨x3,x4,rfl⟩,vQ,zs,hz,po,ez⟩;refine⟨_,rfl,k D zs H2 vQ hD hz po ?_⟩;rw[ez,bu];unfold g9 HX;rw[Dv];simp only[r6]
theorem JO:aw ["sides"] ["sides"] (aj Dq):=⟨rfl,rfl,rfl,by decide +kernel,rfl,by decide +kernel,by decide +kernel⟩
def xV(K:PySem.W.Frag)(C Pt CS:Addr):Sp:=fun vs H Q E=>∃ (x:V) (o:Option (List (Option Int))),vs=[x]/\Sd K H x o/\lc Pt H/\(box o=none->E (.ref CS) none H)/\(∀ns,box o=some ns->Dt C Pt H (pr ns) (ku ((g9 ns).map nZ)) Q)
theorem Gc{f C Pt CS:Addr}{fd:FuncData}(F:dR K "box_net" "box_net" Dq f fd)(Yy:bJ P w K mg base (eO P w) 3 "check_sides" ["sides"] (pi K CS))(PN:bJ P w K mg base a_ 9 "pairs_net" ["many","pairs"] (pc C Pt))(PR:bJ P w K mg base a_ 1 "product" ["numbers"] (pf K))(BP:bJ P w K mg base a_ 2 "box_pairs" ["sides"] pk):
  a9 P w K mg base (eO P w) 10 f fd ["sides"] (xV K C Pt CS):=by
 refine F.Hm JO (fun vs H Q E h=>?_) (fun bL A outer s H vs Q E hr h=>?_)
 .obtain⟨x,o,rfl,_⟩:=h;rfl
 .obtain⟨x,o,rfl,sd,tb,k1,k2⟩:=h;have h1:aZ 1 _:=hr.mono (by decide);have h2:aZ 2 _:=hr.mono (by decide);have h3:aZ 3 _:=hr.mono (by decide);refine⟨_,ag (cj (az Yy h3 (uO (E':=E) fun _ _ _ z=>z) (aa (pv 0) af)))
   (ai (aE (az PN hr aL (aa (az PR h1 aL (aa (pv 0) af)) (aa (az BP h2 aL (aa (pv 0) af)) af))))),?_⟩
  refine⟨_,rfl,x,o,rfl,sd,k1,fun ns hb=>?_⟩;cases sd with
  |no ty h=>cases hb
  |@tup p xs os hp hl ew=>
   obtain⟨e1,l1,l2,hn,hm,eo⟩:=Du hb;have ha:os.all (fun o=>aT o 2 8)=true:=iD.mpr fun o ho=>by
    rw[eo] at ho;obtain⟨n,Ld,rfl⟩:=aX.mp ho;have:=hn n Ld;unfold aT;simp;lia
   obtain⟨ex,_⟩:=Sd.nums hp hl ew ha;rw[<-e1] at ex;subst ex;refine⟨_,rfl,p,ns,rfl,bK.of hp,fun x hx=>by have:=hn x hx;lia,?_⟩;refine⟨_,rfl,p,ns,rfl,hp,l2,hn,hm,fun r zs H2 s2 zi Az po ez=>?_⟩;refine⟨pr ns,r,zs,rfl,Az,po,?_,tb.same s2,?_⟩
   .rw[ez];exact C7 (fun x hx=>(hn x hx).1) (by rintro rfl;simp at l1) hm
   .rw[ez];exact(k2 ns hb).same s2
end
end nz
namespace L2
open PySem PySem.Spec PyProof.Rows
section
variable {X:Cx}
theorem lg{prog:Program}{w:World}{A:Around}{E:Value->Shared->Prop}{s:Shared}{t sl:Addr}{items:Array Value}{vl vu:Value}{lo hi:Option Int}{Q:Value->Shared->Prop}(ht:IsTup s.heap t items)(hs:s.heap.IsSliceOf sl vl vu .none)(pl:IsPart vl lo)(pu:IsPart vu hi)(hw:HT.eH items.size 0 lo=0/\HT.eH items.size items.size hi=items.size)(h:Q (.ref t) s):wpAny (model prog w) A (getItem (.ref t) (.ref sl)) Q E s:=by
 obtain⟨os,EL,Pk,Me⟩:=id hs;have QH:s.TypeIs (.ref sl) "slice":=⟨os,EL,Pk⟩
 unfold getItem;try with_reducible refine fS ?_
 first|refine ap (wpAny_pure ?_)|skip
 refine ap (wpAny_sequenceKey ht.typeIs (by decide) ?_);refine ap (lz (name:=Str.ofString "__getitem__") ht.typeIs qa
  (iH qa ht.typeIs entry_tuple_getitem ?_ (args_tuple_getitem _ _)))
 show wpAny _ _ (Builtin.Tuple.tupleItemsOf (.ref t) >>= _) _ _ s;refine ap (tupleItemsOf_ ht ?_);refine ap (wpAny_typeOf QH ?_);rw[ak (by decide)];refine ap (HT.gu hs pl pu ?_);have Se:(((HT.eH items.size 0 lo:Nat):Int)==0&&(1:Int)==1&&(HT.eH items.size items.size hi-HT.eH items.size 0 lo)==items.size)=true:=by
  rw[hw.1,hw.2];simp
 show wpAny _ _ (if (((HT.eH items.size 0 lo:Nat):Int)==0&&(1:Int)==1&&(HT.eH items.size items.size hi-HT.eH items.size 0 lo)==items.size)=true then _ else _) _ _ s;rw[ak Se];refine ap (Q:=_) (m:=Builtin.Tuple.tupleIsExact (.ref t)) ?_;unfold Builtin.Tuple.tupleIsExact;refine ap (wpAny_typeOf ht.typeIs ?_);refine wpAny_pure ?_;rw[ak (by decide)];exact ap (et (wpAny_pure ⟨_,rfl,wpAny_pure h⟩))
def Nx:V->Option Int->Option Int->Hp->VK->Prop:=fun x lo hi H Q=>∃a xs,x=.ref a/\H a=some (.tup xs)/\∀r H',av H H'->H' r=some (.tup (sv xs lo hi))->Q (.ref r) H'
theorem Dx{xs:List V}{lo hi:Option Int}(hw:HT.eH xs.length 0 lo=0/\HT.eH xs.length xs.length hi=xs.length):sv xs lo hi=xs:=by
 unfold sv;rw[hw.1,hw.2,Nat.sub_zero,wP,iC]
theorem zj:QI X Nx:=by
 intro ae s σ H x v vl vu lo hi sl Q I rx hs pl pu h;obtain⟨a,xs,rfl,hx,q⟩:=h;by_cases hw:HT.eH xs.length 0 lo=0/\HT.eH xs.length xs.length hi=xs.length
 .cases rx;obtain⟨its,r,ht,hz⟩:=I.tuple (bK.of hx);have eA:its.toArray.size=xs.length:=by rw[cA];exact r.length.symm
  refine⟨"tuple",_,qa.lookup,ht.typeIs,?_⟩;exact lg ht hs pl pu (by rw[eA];exact hw) ⟨.ref a,H,I,rfl,q a H (av.refl _) (by rw[Dx hw];exact hx)⟩
 .exact IQ ae s σ H _ v vl vu lo hi sl Q I rx hs pl pu ⟨a,xs,rfl,bK.of hx,hw,fun p hp=>q p _ (am hp) ah⟩
end
end L2
namespace ir
def cX:List Nat->Nat->List Nat
 |[],_=>[]
 |n::ns,h=>(h % n)::cX ns (h / n)
theorem fZ:∀ {ns:List Nat} {h:Nat},(cX ns h).length=ns.length
 |[],_=>rfl
 |n::ns,h=>by show (cX ns (h / n)).length+1=ns.length+1;rw[fZ]
theorem pq:∀ {ns:List Nat} {n h:Nat},cX (ns++[n]) h=cX ns h++[h / pr ns % n]
 |[],n,h=>by show [h % n]=[h / 1 % n];rw[lM]
 |m::ns,n,h=>by
  show (h % m)::cX (ns++[n]) (h / m)=(h % m)::(cX ns (h / m)++[h / (m*pr ns) % n]);rw[pq,n_]
theorem Dy:∀ {ns:List Nat} {h i:Nat},(∀x∈ns,0<x)->i<ns.length->(cX ns h).getD i 0<ns.getD i 0
 |[],_,_,_,hi=>absurd hi (gm _)
 |n::ns,h,0,hn,_=>iL h (hn n bC)
 |n::ns,h,i+1,hn,hi=>Dy (ns:=ns) (h:=h / n) (i:=i) (fun x hx=>hn x (bz _ hx)) (rj hi)
def Sf:List Nat->List Nat->Nat
 |n::ns,d::ds=>d+n*Sf ns ds
 |_,_=>0
theorem tX:∀ {ns:List Nat} {h:Nat},h<pr ns->Sf ns (cX ns h)=h
 |[],h,hh=>by have hh:h<1:=hh;show 0=h;lia
 |n::ns,h,hh=>by
  show h % n+n*Sf ns (cX ns (h / n))=h;rw[tX (wb hh),Nat.mod_add_div]
def lj(ns:List Nat)(a b:Nat):Option Nat:=(List.range ns.length).find? fun i=>decide ((cX ns a).getD i 0≠(cX ns b).getD i 0)
theorem AA{n:Nat}{f:Nat->Bool}:(List.range (n+1)).find? f=if f 0=true then some 0 else ((List.range n).find? fun i=>f (i+1)).map (·+1):=by
 rw[rk,List.find?_cons];split
 .next h=>rw[ak h]
 .next h=>
  rw[al (by rw[h];decide),List.find?_map];rfl
theorem zk{n:Nat}{ns:List Nat}{a b:Nat}:lj (n::ns) a b=if a % n=b % n then (lj ns (a / n) (b / n)).map (·+1) else some 0:=by
 unfold lj;rw[dt,AA];show (if decide (a % n≠b % n)=true then _ else _)=_;by_cases c:a % n=b % n
 .rw[al (by simp[c]),ak c];rfl
 .rw[ak (by simpa using c),al c]
def ER:List Nat->Nat->Nat->Nat->Prop
 |[],_,_,_=>False
 |n::_,0,a,b=>a % n+1<n/\b=a+1
 |n::ns,k+1,a,b=>a % n=b % n/\ER ns k (a / n) (b / n)
theorem AB:∀ {ns:List Nat} {a b:Nat},(∀x∈ns,0<x)->(U ns a b↔∃k,ER ns k a b)
 |[],a,b,_=>⟨fun h=>h.elim,fun ⟨k,h⟩=>h.elim⟩
 |n::ns,a,b,hn=>by
  rw[tw hn,AB fun x hx=>hn x (bz _ hx)];constructor
  .rintro(h|⟨e,k,h⟩)
   .exact⟨0,h⟩
   .exact⟨k+1,e,h⟩
  .rintro⟨k,h⟩;cases k with
   |zero=>exact .inl h
   |succ k=>exact .inr ⟨h.1,k,h.2⟩
theorem HY:∀ {ns:List Nat} {k a b:Nat},ER ns k a b->k<ns.length
 |n::ns,0,a,b,_=>rW _
 |n::ns,k+1,a,b,h=>Nat.succ_lt_succ (HY h.2)
theorem Dz{n a b s:Nat}(hn:0<n):(a % n=b % n/\b / n=a / n+s)↔b=a+n*s:=by
 constructor
 .rintro⟨h1,h2⟩;rw[<-iE b n,h2,<-h1,oI];have:=iE a n;lia
 .rintro rfl;exact⟨by rw[Bh],by rw[Nat.add_mul_div_left _ _ hn]⟩
theorem DA:∀ {ns:List Nat} {k a b:Nat},(∀x∈ns,0<x)->k<ns.length->(ER ns k a b↔(cX ns a).getD k 0+1<ns.getD k 0/\b=a+pr (ns.take k))
 |[],k,_,_,_,h=>absurd h (gm _)
 |n::ns,0,a,b,hn,_=>Iff.rfl
 |n::ns,k+1,a,b,hn,hk=>by
  have ih:=DA (ns:=ns) (k:=k) (a:=a / n) (b:=b / n) (fun x hx=>hn x (bz _ hx)) (rj hk);show (a % n=b % n/\ER ns k (a / n) (b / n))↔(cX ns (a / n)).getD k 0+1<ns.getD k 0/\b=a+n*pr (ns.take k);rw[ih,<-Dz (hn n bC)];exact⟨fun ⟨x,y,z⟩=>⟨y,x,z⟩,fun ⟨y,x,z⟩=>⟨x,y,z⟩⟩
theorem pz{b n:Nat}(hn:0<n):(b % n+1<n)↔1<=(b+1) % n:=by
 have e:=iE b n;have l:=iL b hn;constructor
 .intro h;rw[(km h).2];lia
 .intro h;rcases rY (b % n+1) n with c|c
  .exact c
  .have:b+1=n*(b / n+1):=by rw[oI,lL];lia
   rw[this,Nat.mul_mod_right] at h;exact absurd h (by decide)
theorem xW:∀ {ns:List Nat} {k a b:Nat},(∀x∈ns,0<x)->k<ns.length->(ER ns k b a↔1<=(cX ns a).getD k 0/\a=b+pr (ns.take k))
 |[],k,_,_,_,h=>absurd h (gm _)
 |n::ns,0,a,b,hn,_=>by
  show (b % n+1<n/\a=b+1)↔1<=a % n/\a=b+1;constructor
  .rintro⟨h,rfl⟩;exact⟨(pz (hn n bC)).mp h,rfl⟩
  .rintro⟨h,rfl⟩;exact⟨(pz (hn n bC)).mpr h,rfl⟩
 |n::ns,k+1,a,b,hn,hk=>by
  have ih:=xW (ns:=ns) (k:=k) (a:=a / n) (b:=b / n) (fun x hx=>hn x (bz _ hx)) (rj hk);show (b % n=a % n/\ER ns k (b / n) (a / n))↔1<=(cX ns (a / n)).getD k 0/\a=b+n*pr (ns.take k);rw[ih,<-Dz (hn n bC)];exact⟨fun ⟨x,y,z⟩=>⟨y,x,z⟩,fun ⟨y,x,z⟩=>⟨x,y,z⟩⟩
theorem DB:∀ {ns:List Nat} {k a b:Nat},ER ns k a b->lj ns a b=some k
 |n::ns,0,a,b,⟨h,e⟩=>by
  subst e;rw[zk,al (by rw[(km h).2];lia)]
 |n::ns,k+1,a,b,⟨e,h⟩=>by rw[zk,ak e,DB h];rfl
theorem Ge{ns:List Nat}{a b:Nat}:lj ns a b=lj ns b a:=by
 unfold lj;congr 1;funext i;exact decide_eq_decide.mpr ⟨cW,cW⟩
theorem ll{ns:List Nat}{a b k:Nat}(h:lj ns a b=some k):k<ns.length/\(cX ns a).getD k 0≠(cX ns b).getD k 0:=
 ⟨cR.mp (List.mem_of_find?_eq_some h),eY (List.find?_some (p:=fun i=>decide ((cX ns a).getD i 0≠(cX ns b).getD i 0)) h)⟩
def xX(ns:List Nat)(a b k:Nat):Prop:=ER ns k a b\/ER ns k b a
theorem iq{ns:List Nat}{a b k:Nat}(h:xX ns a b k):lj ns a b=some k:=by
 rcases h with h|h
 .exact DB h
 .rw[Ge];exact DB h
theorem ju{ns:List Nat}{a b:Nat}(hn:∀x∈ns,0<x)(ha:a<pr ns)(hb:b<pr ns):T (ku ((g9 ns).map nZ)) a b↔∃k,xX ns a b k:=by
 have PY:∀ {a b:Nat},(a,b)∈g9 ns↔a<pr ns/\U ns a b:=ml;show ((a:Int),(b:Int))∈_↔_;rw[eJ];constructor
 .rintro(h|h)
  .obtain⟨q,hq,e⟩:=aX.mp h;have e1:q.1=a:=cZ (congrArg Prod.fst e);have e2:q.2=b:=cZ (congrArg Prod.snd e);obtain⟨k,u⟩:=(AB hn).mp (PY.mp hq).2;exact⟨k,.inl (by rw[<-e1,<-e2];exact u)⟩
  .obtain⟨q,hq,e⟩:=aX.mp h;have e1:q.1=b:=cZ (congrArg Prod.fst e);have e2:q.2=a:=cZ (congrArg Prod.snd e);obtain⟨k,u⟩:=(AB hn).mp (PY.mp hq).2;exact⟨k,.inr (by rw[<-e1,<-e2];exact u)⟩
 .rintro⟨k,u|u⟩
  .exact .inl (aX.mpr ⟨(a,b),PY.mpr ⟨ha,(AB hn).mpr ⟨k,u⟩⟩,rfl⟩)
  .exact .inr (aX.mpr ⟨(b,a),PY.mpr ⟨hb,(AB hn).mpr ⟨k,u⟩⟩,rfl⟩)
end ir
namespace L2
open PySem PySem.Spec PyProof.Rows
theorem Gf{X:Cx}:Pj X .FloorDiv (fun x y H Q=>∃i j,x=.int i/\y=.int j/\IJ i j/\Q (.int (i / j)) H):=by
 intro ae s σ H x y v u Q I r1 r2 h;exact BV ae s σ H x y v u Q I r1 r2 h
end L2
namespace nz
open PySem L2 ir
abbrev Gg:Stmt:=fv (fH 49) 0
abbrev JP:Stmt:=fv (fH 49) 3
abbrev JQ:Stmt:=fv (fH 49) 6
abbrev JR:Stmt:=fv (fH 49) 7
abbrev Sg:Stmt:=fH 44
structure Bx(ns:List Nat):Prop where
 l1:1<=ns.length
 l5:ns.length<=5
 sd:∀x∈ns,2<=x/\x<=8
 JS:pr ns<=32
theorem Bx.pos{ns:List Nat}(B:Bx ns):∀x∈ns,0<x:=fun x hx=>by have:=B.sd x hx;lia
theorem Bx.gd{ns:List Nat}(B:Bx ns){i:Nat}(h:i<ns.length):2<=ns.getD i 0/\ns.getD i 0<=8:=by
 rw[bU,cr h];exact B.sd _ (gh _)
abbrev lm(ns:List Nat):Ts:=ku ((g9 ns).map nZ)
structure Gh(K:PySem.W.Frag)(mg:Str->Option Value)(CB:Addr):Prop where
 cl:A0 K CB
 nN:eT K CB "tied_net"
 nS:eT K CB "side_row"
 RI:mg "Box"=some (.ref CB)
def DC(pn sr:Addr):List (Str×V):=ck "side_row" (.ref sr) (ck "tied_net" (.ref pn) [])
theorem Yz:¬ (("tied_net":Str)="side_row"):=by decide +kernel
theorem DD{pn sr:Addr}:(DC pn sr).lookup ("tied_net":Str)=some (.ref pn):=by unfold DC;rw[aR,al Yz,aR,ak rfl]
theorem Ny{pn sr:Addr}:(DC pn sr).lookup ("side_row":Str)=some (.ref sr):=by unfold DC;rw[aR,ak rfl]
theorem tY{pn sr:Addr}{m:Str}(h1:¬ m="tied_net")(h2:¬ m="side_row"):(DC pn sr).lookup m=none:=by unfold DC;rw[aR,al h2,aR,al h1];rfl
structure dZ(C CB:Addr)(H:Hp)(L:Addr->Prop)(b:Addr)(ns:List Nat):Prop where
 bx:Bx ns
 ob:∃dx pn sr,H b=some (.ins CB dx (DC pn sr))/\fk C H L pn (pr ns) (lm ns)/\H sr=some (.tup (NV ns))
theorem dZ.same{C CB b:Addr}{H H':Hp}{L:Addr->Prop}{ns:List Nat}(h:dZ C CB H L b ns)(s:av H H'):dZ C CB H' L b ns:=
 let ⟨dx,pn,sr,a,c,d⟩:=h.ob
 ⟨h.bx,dx,pn,sr,s _ _ a,c.same s,s _ _ d⟩
abbrev A5(K:PySem.W.Frag)(H:Hp)(x:V)(o:Option Int):Prop:=∀H',av H H'->Wh K H' x o
theorem ln{ns:List Nat}{h i:Nat}(hi:i<ns.length):(NV (cX ns h))[i]?=some (.int (((cX ns h).getD i 0:Nat):Int)):=by
 have:i<(cX ns h).length:=by rw[fZ];exact hi
 rw[bA,cr this,bU,cr this];rfl
section
variable {P:Program} {w:World} {K:PySem.W.Frag} {mg:Str->Option Value} {base:Heap}
theorem Nz:aw ["self","sides"] ["self","sides"] (aj Gg):=⟨rfl,rfl,rfl,by decide +kernel,rfl,by decide +kernel,by decide +kernel⟩
def DE(C CB Pt:Addr):Sp:=fun vs H Q _=>∃ (b dx sr:Addr) (ns:List Nat),vs=[.ref b,.ref sr]/\H b=some (.ins CB dx [])/\H sr=some (.tup (NV ns))/\Bx ns/\lc Pt H/\
 ∀H',dZ C CB H' (fun a=>H a=none) b ns->lc Pt H'->jH b Pt H H'->Q .bp H'
theorem DG{ns:List Nat}(B:Bx ns):box (some (ns.map fun (n:Nat)=>some (n:Int)))=some ns:=by
 have e:iu (ns.map fun (n:Nat)=>some (n:Int))=ns:=by
  unfold iu;rw[fc];conv=>rhs;rw[<-iJ ns]
  exact mD fun n _=>rfl
 unfold box;dsimp only;rw[e,ak];rw[aW,bD B.l1,bD B.l5,bD B.JS,Bool.and_true,Bool.true_and,Bool.true_and,iD];intro o ho;obtain⟨n,hn,rfl⟩:=aX.mp ho;have:=B.sd n hn;unfold aT;simp;lia
theorem NA{H:Hp}{a:Addr}{ns:List Nat}(h:H a=some (.tup (NV ns))):Sd K H (.ref a) (some (ns.map fun (n:Nat)=>some (n:Int))):=by
 refine .tup h (by rw[aW,aW]) fun i x o hx ho=>?_;obtain⟨n,hn,rfl⟩:=qN hx;rw[bA,hn] at ho;cases ho;exact .int _
theorem JT{f C CB CS Pt:Addr}{fd:FuncData}(F:dR K "__init__" "Box.__init__" Gg f fd)(B:Bl mg)(TB:Gh K mg CB)(BN:bJ P w K mg base (eO P w) 10 "box_net" ["sides"] (xV K C Pt CS)):a9 P w K mg base a_ 11 f fd ["self","sides"] (DE C CB Pt):=by
 refine F.ok Nz (fun vs H Q E h=>?_) (fun bL A outer s H vs Q E hr h=>?_)
 .obtain⟨b,dx,sr,ns,rfl,_⟩:=h;rfl
 .obtain⟨b,dx,sr,ns,rfl,hb,pA,BX,tb,q⟩:=h;refine⟨_,ag (lW (pv 0) (az BN hr iU (aa (pv 1) af)) rfl)
   (ai (lW (pv 0) (cD cx (by rfl) B.tup kA (aa (pv 1) af)) rfl)),?_⟩
  refine⟨_,rfl,_,_,rfl,NA pA,tb,(fun z=>by rw[DG BX] at z;cases z),fun ns' e pn H1 V8 N1 t1 s1=>?_⟩;rw[DG BX] at e;cases e;have nb:b≠Pt:=tb.not hb (by intro ps z;cases z);have NC:sr≠b:=by rintro rfl;rw[hb] at pA;cases pA
  have PM:=s1 _ _ hb nb;refine⟨_,rfl,b,CB,dx,_,rfl,PM,TB.cl,TB.nN,by show 0<1000;decide,?_⟩;have ND:=s1 _ _ pA (tb.not pA (by intro ps z;cases z));refine⟨_,rfl,sr,_,rfl,.inr ⟨bK.of (by rw[ao NC];exact ND),?_⟩⟩;refine⟨_,rfl,b,CB,dx,_,rfl,ah,TB.cl,TB.nS,by show 1<1000;decide,?_⟩;have kp:∀c o,c≠b->H1 c=some o->(upd (upd H1 b (.ins CB dx (ck "tied_net" (.ref pn) []))) b (.ins CB dx (ck "side_row" (.ref sr) (ck "tied_net" (.ref pn) [])))) c=some o:=fun c o n e=>by rw[ao n,ao n];exact e
  refine q _ ⟨BX,dx,pn,sr,ah,N1.keep (fun c o l e=>kp c o (by rintro rfl;rw[hb] at l;cases l) e) (fun o e=>kp pn o (by rintro rfl;rw[hb] at V8;cases V8) e),kp _ _ NC ND⟩ ?_ (fun c o e n1 n2=>kp c o n1 (s1 _ _ e n2));rcases t1 with z|⟨c,z,y⟩
  .exact .inl (kp _ _ nb.symm z)
  .exact .inr ⟨c,kp _ _ nb.symm z,kp _ _ (by rintro rfl;rw[PM] at y;cases y) y⟩
end
theorem vy{pn sr:Addr}:(DC pn sr).lookup ("place":Str)=none:=tY (by decide +kernel) (by decide +kernel)
theorem pB{pn sr:Addr}:(DC pn sr).lookup ("phase":Str)=none:=tY (by decide +kernel) (by decide +kernel)
theorem DH{ns:List Nat}(h:∀x∈ns,0<x):0<pr ns:=by
 induction ns with
 |nil=>exact Nat.one_pos
 |cons n ns ih=>exact lK (h n bC) (ih fun x hx=>h x (bz _ hx))
section
variable {P:Program} {w:World} {K:PySem.W.Frag} {mg:Str->Option Value} {base:Heap}
theorem zl:aw ["self","house","numbers","side"] ["self","house"] (aj JP):=⟨rfl,rfl,rfl,by decide +kernel,rfl,by decide +kernel,by decide +kernel⟩
def DI(K:PySem.W.Frag)(C CB CE:Addr):Sp:=fun vs H Q E=>∃ (L:Addr->Prop) (b:Addr) (ns:List Nat) (x:V) (o:Option Int),vs=[.ref b,x]/\dZ C CB H L b ns/\Wh K H x o/\(aT o 0 ((pr ns:Int)-1)=false->E (.ref CE) none H)/\∀h:Nat,h<pr ns->o=some (h:Int)->∀ (t:Addr) (H':Hp),av H H'->H' t=some (.tup (NV (cX ns h)))->Q (.ref t) H'
theorem JU{f C CB CE:Addr}{fd:FuncData}(F:dR K "place" "Box.place" JP f fd)(B:Bl mg)(T:NT K mg C)(TB:Gh K mg CB)(M:ge P w K mg base (eO P w) 4 C "check_house" ["self","thing"] (n5 K C CE)):a9 P w K mg base (eO P w) 5 f fd ["self","house"] (DI K C CB CE):=by
 obtain⟨fM,PF,mM,bM,GM⟩:=M.ex;refine F.Hm zl (fun vs H Q E h=>?_) (fun bL A outer s H vs Q E hr h=>?_)
 .obtain⟨L,b,ns,x,o,rfl,_⟩:=h;rfl
 .obtain⟨L,b,ns,x,o,rfl,⟨BX,dx,pn,sr,hb,N,pA⟩,wh,k1,k2⟩:=h;obtain⟨Sh,tl,ol,ds,h1,_⟩:=N.ob;have l5:=BX.l5;refine⟨_,ag (cj (cM (gT (pv 0) rfl) T.cl mM GM hr bM .nil (uO (E':=E) fun _ _ _ z=>z) (aa (pv 1) af)))
   (ag (aK (i:=2) zl.nd rfl (Or.inl rfl) (cu af))
   (ag (bW Fk rfl (lT (gT (pv 0) rfl)) (aA (i:=3) zl.nd rfl (Or.inl rfl))
    (ag (cj (io h_ iy ix b_ (pv 2) (aa (ba gR (pv 1) (pv 3)) af)))
    (ai (sj (i:=1) zl.nd rfl (Or.inl rfl) (pv 3) Gf))))
   (ai (aE (cD cx (by rfl) B.tup kA (aa (pv 2) af)))))),?_⟩
  refine⟨_,rfl,b,CB,dx,_,_,rfl,hb,TB.cl,TB.nN,DD,pn,Sh,_,rfl,h1,Nf _ _ _ _,_,rfl,L,pn,pr ns,_,x,o,rfl,N,wh,k1,fun hw=>?_⟩;obtain⟨h,hh,rfl⟩:=eF hw;obtain rfl:=mm wh;refine⟨by show 0<=sizeLine;decide,fun D hD=>?_⟩;have s0:=am (o:=.lst []) hD;refine⟨_,rfl,b,CB,dx,_,_,rfl,s0 _ _ hb,TB.cl,TB.nS,Ny,sr,rfl,⟨_,bK.of (s0 _ _ pA)⟩,jl (K:=K) (xs:=NV ns) (fun i σ H2=>(∃x,σ=[some (.ref b),some (.int ((h / pr (ns.take i):Nat):Int)),some (.ref D),x])/\av H H2/\H2 D=some (.lst (NV (cX (ns.take i) h)))) ⟨⟨_,by rw[wN];show _=[_,some (V.int ((h / 1:Nat):Int)),_,_];rw[lM];rfl⟩,s0,ah⟩ (fun i σ H2 _ z=>bK.of (z.2.1 _ _ pA)) ?_ ?_⟩
  .rintro i x σ H2 hx ⟨⟨x',rfl⟩,sm,lf⟩;obtain⟨n,hv,rfl⟩:=qN hx;have hi:i<ns.length:=(cH.mp hv).1;have V5:=BX.sd n (dA hv);have tk:ns.take (i+1)=ns.take i++[n]:=by rw[gg,hv];rfl
   rw[tk,pq,jt];have dl:(cX (ns.take i) h).length<=5:=by rw[fZ,kF];lia
   refine⟨_,rfl,.inl ⟨rfl,_,bn.of lf⟩,_,rfl,_,rfl,_,_,rfl,rfl,(by show (0:Int)<(n:Int);lia),D,_,_,rfl,rfl,lf,by rw[bu];exact gf dl (by decide),?_⟩;refine⟨_,rfl,_,rfl,_,_,rfl,rfl,⟨by lia,by lia⟩,⟨some (.int n),?_⟩,cE sm hD,?_⟩
   .rw[<-n_];rfl
   .rw[ah,<-g_];rfl
  .rintro σ H2 ⟨⟨x',rfl⟩,sm,lf⟩;rw[bu,iC] at lf;exact⟨_,rfl,D,_,rfl,.inl ⟨bn.of lf,fun t ht=>k2 h hh rfl t _ (sm.trans (am ht)) ah⟩⟩
end
def oV:Option Nat->V
 |none=>.bp
 |some y=>.int (y:Int)
theorem JV(n:Int)(tl ol ds:Addr):(pZ n tl ol ds).lookup ("out":Str)=none:=tO n tl ol ds (by decide +kernel) (by decide +kernel) (by decide +kernel) (by decide +kernel)
theorem HZ(n:Int)(tl ol ds:Addr):(pZ n tl ol ds).lookup ("many":Str)=none:=tO n tl ol ds (by decide +kernel) (by decide +kernel) (by decide +kernel) (by decide +kernel)
def A6(ns:List Nat)(o o':Option Int):Bool:=aT o 0 ((pr ns:Int)-1)&&(aT o' 0 ((pr ns:Int)-1)&&decide ((o.getD 0,o'.getD 0)∈lm ns))
theorem DJ{n a b:Nat}{ts:Ts}(F:i6 n ts)(ha:a<n):yC (.int (b:Int)) (NV (dg n ts a))=decide (((a:Int),(b:Int))∈ts):=by
 rw[jT,mE];refine Iff.trans ?_ (dE F ha);unfold yC;rw[wI];constructor
 .rintro⟨v,hv,e⟩;obtain⟨y,hy,rfl⟩:=aX.mp hv;have:(((y:Nat):Int)==(b:Int))=true\/((b:Int)==((y:Nat):Int))=true:=by first|exact .inl e|exact .inr e
  have:y=b:=by rcases this with t|t <;> simp at t <;> lia
  rw[<-this];exact hy
 .intro hy;exact⟨.int (b:Int),aX.mpr ⟨b,hy,rfl⟩,by show ((b:Int)==(b:Int))=true;simp⟩
theorem lq{xs:List Nat}:(NV xs).all ee=true:=iD.mpr fun x hx=>by obtain⟨y,_,rfl⟩:=aX.mp hx;rfl
theorem JW{ns:List Nat}{a b:Int}:(a,b)∈lm ns↔(b,a)∈lm ns:=⟨fun h=>by
 rcases eJ.mp h with z|z
 .exact eJ.mpr (.inr z)
 .exact eJ.mpr (.inl z),fun h=>by
 rcases eJ.mp h with z|z
 .exact eJ.mpr (.inr z)
 .exact eJ.mpr (.inl z)⟩
theorem NE{ns:List Nat}{a b k:Nat}(hk:k<ns.length)(hj:∀j,j<k->(cX ns a).getD j 0=(cX ns b).getD j 0)(ne:(cX ns a).getD k 0≠(cX ns b).getD k 0):lj ns a b=some k:=
 List.find?_range_eq_some.mpr ⟨bD ne,cR.mpr hk,fun j h=>by rw[cV (fun z=>z (hj j h))];rfl⟩
theorem NF{ns:List Nat}{a b:Nat}(hj:∀j,j<ns.length->(cX ns a).getD j 0=(cX ns b).getD j 0):lj ns a b=none:=
 wu.mpr fun j h=>by simpa using hj j (cR.mp h)
section
variable {P:Program} {w:World} {K:PySem.W.Frag} {mg:Str->Option Value} {base:Heap}
theorem Si:aw ["net","one","other"] ["net","one","other"] (aj Sg):=⟨rfl,rfl,rfl,by decide +kernel,rfl,by decide +kernel,by decide +kernel⟩
def JX(K:PySem.W.Frag)(C:Addr):Sp:=fun vs H Q _=>∃ (L:Addr->Prop) (p:Addr) (ns:List Nat) (x y:V) (o o':Option Int),vs=[.ref p,x,y]/\fk C H L p (pr ns) (lm ns)/\A5 K H x o/\A5 K H y o'/\∀H',av H H'->Q (.bl (A6 ns o o')) H'
theorem NG{f C CE:Addr}{fd:FuncData}(F:dR K "are_tied" "are_tied" Sg f fd)(T:NT K mg C)(HO:bJ P w K mg base a_ 3 "is_house" ["many","thing"] (k_ K))(MM:ge P w K mg base a_ 1 C "many" ["self"] (xT C))(MO:ge P w K mg base (eO P w) 5 C "out" ["self","house"] (zd K C CE FY)):a9 P w K mg base a_ 6 f fd ["net","one","other"] (JX K C):=by
 obtain⟨fM,PF,mM,bM,GM⟩:=MM.ex;obtain⟨fO,YA,mO,bO,GO⟩:=MO.ex;refine F.ok Si (fun vs H Q E h=>?_) (fun bL A outer s H vs Q E hr h=>?_)
 .obtain⟨L,p,ns,x,y,o,o',rfl,_⟩:=h;rfl
 .obtain⟨L,p,ns,x,y,o,o',rfl,N,wx,wy,q⟩:=h;have h1:aZ 1 _:=hr.mono (by decide);have h3:aZ 3 _:=hr.mono (by decide);refine⟨_,(ag (bt (PW.pt (uA (c_ (cU (az HO h3 aL (aa (uE (pv 0) T.cl mM GM h1 bM .nil aL) (aa (pv 1) af))))) (oO (c_ (cU (az HO h3 aL (aa (uE (pv 0) T.cl mM GM h1 bM .nil aL) (aa (pv 2) af)))))))) (ai (aE fV)) aO)
   (ai (aE (j8 (fW l8 (pv 2) (cM (pv 0) T.cl mO GO hr bO .nil iU (aa (pv 1) af)) rfl) (lR (fW l8 (pv 1) (cM (pv 0) T.cl mO GO hr bO .nil iU (aa (pv 2) af)) rfl)))))),?_⟩
  obtain⟨dx,tl,ol,ds,hN,_⟩:=N.ob;have Fi:=N.o9;refine⟨_,rfl,p,dx,_,rfl,hN,HZ _ _ _ _,L,p,pr ns,_,rfl,N,_,rfl,x,o,_,rfl,wx _ (av.refl _),_,rfl,?_⟩;cases hw:aT o 0 ((pr ns:Int)-1) with
  |false=>exact gW (gW (by have:=q H (av.refl _);unfold A6 at this;rw[hw] at this;exact this))
  |true=>
  refine d8 ⟨_,rfl,p,dx,_,rfl,hN,HZ _ _ _ _,L,p,pr ns,_,rfl,N,_,rfl,y,o',_,rfl,wy _ (av.refl _),_,rfl,?_⟩;cases An:aT o' 0 ((pr ns:Int)-1) with
  |false=>exact gW (by have:=q H (av.refl _);unfold A6 at this;rw[hw,An] at this;exact this)
  |true=>
  refine d8 ?_;obtain⟨a,ha,rfl⟩:=eF hw;obtain⟨b,hb,rfl⟩:=eF An;obtain rfl:=mm (wx _ (av.refl _));obtain rfl:=mm (wy _ (av.refl _));refine⟨_,rfl,_,rfl,p,dx,_,rfl,hN,JV _ _ _ _,_,rfl,L,p,pr ns,_,_,_,rfl,N,.int _,(fun z=>by rw[hw] at z;cases z),fun i hi e r H1 s1 Av Sj=>?_⟩;cases e;refine⟨r,_,rfl,.inl (bn.of Sj),rfl,lq,_,rfl,?_⟩;have e1:(if false=true then !yC (V.int (b:Int)) (NV (dg (pr ns) (lm ns) a)) else yC (V.int (b:Int)) (NV (dg (pr ns) (lm ns) a)))=decide (((a:Int),(b:Int))∈lm ns):=DJ Fi ha;rw[e1];have q':∀H',av H H'->Q (.bl (decide (((a:Int),(b:Int))∈lm ns))) H':=fun H' s'=>by have:=q H' s';unfold A6 at this;rw[hw,An] at this;exact this
  cases ht:decide (((a:Int),(b:Int))∈lm ns) with
  |false=>
   rw[ht] at q';exact d8 (q' H1 s1)
  |true=>
   rw[ht] at q';refine gW ⟨_,rfl,_,rfl,p,dx,_,rfl,s1 _ _ hN,JV _ _ _ _,_,rfl,L,p,pr ns,_,_,_,rfl,N.same s1,.int _,(fun z=>by rw[An] at z;cases z),fun i hi e r2 H2 s2 zi Az=>?_⟩;cases e;refine⟨r2,_,rfl,.inl (bn.of Az),rfl,lq,?_⟩;have e2:(if false=true then !yC (V.int (a:Int)) (NV (dg (pr ns) (lm ns) b)) else yC (V.int (a:Int)) (NV (dg (pr ns) (lm ns) b)))=true:=(DJ Fi hb).trans (bD (JW.mp (eY ht)));rw[e2];exact q' H2 (s1.trans s2)
theorem zm:aw ["self","house","home","here","there","k"] ["self","house","home"] (aj JR):=⟨rfl,rfl,rfl,by decide +kernel,rfl,by decide +kernel,by decide +kernel⟩
def vz(K:PySem.W.Frag)(C CB CE:Addr):Sp:=fun vs H Q E=>∃ (L:Addr->Prop) (b:Addr) (ns:List Nat) (x y:V) (o o':Option Int),vs=[.ref b,x,y]/\dZ C CB H L b ns/\A5 K H x o/\A5 K H y o'/\(aT o 0 ((pr ns:Int)-1)=false\/aT o' 0 ((pr ns:Int)-1)=false->∀H',av H H'->E (.ref CE) none H')/\∀h g:Nat,h<pr ns->g<pr ns->o=some (h:Int)->o'=some (g:Int)->∀H',av H H'->Q (oV (lj ns h g)) H'
theorem JY{f C CB CE:Addr}{fd:FuncData}(F:dR K "phase" "Box.phase" JR f fd)(B:Bl mg)(TB:Gh K mg CB)(M:ge P w K mg base (eO P w) 5 CB "place" ["self","house"] (DI K C CB CE)):a9 P w K mg base (eO P w) 6 f fd ["self","house","home"] (vz K C CB CE):=by
 obtain⟨fM,PF,mM,bM,GM⟩:=M.ex;refine F.Hm zm (fun vs H Q E h=>?_) (fun bL A outer s H vs Q E hr h=>?_)
 .obtain⟨L,b,ns,x,y,o,o',rfl,_⟩:=h;rfl
 .obtain⟨L,b,ns,x,y,o,o',rfl,BA,wx,wy,k1,k2⟩:=h;obtain⟨dx,pn,sr,hb,N,pA⟩:=BA.ob;have l5:=BA.bx.l5;refine⟨_,ag (aK (i:=3) zm.nd rfl (Or.inl rfl) (cM (pv 0) TB.cl mM GM hr bM .nil (uO (E':=E) fun _ _ _ z=>z) (aa (pv 1) af)))
   (ag (aK (i:=4) zm.nd rfl (Or.inl rfl) (cM (pv 0) TB.cl mM GM hr bM .nil (uO (E':=E) fun _ _ _ z=>z) (aa (pv 2) af)))
   (ag (bW Fk rfl (a7 rfl B.range (aa (au aG (by rfl) B.len cY (aa (pv 3) af)) af)) (aA (i:=5) zm.nd rfl (Or.inl rfl))
    (ai (bt (aI qj (bh cw (pv 3) (pv 5) (fun _ _=>rfl)) (bh cw (pv 4) (pv 5) (fun _ _=>rfl)) (aQ _)) (ai (aE (pv 5))) aO)))
   (ai (aE bV)))),?_⟩
  refine⟨_,rfl,b,dx,_,rfl,hb,vy,_,rfl,L,b,ns,x,o,rfl,BA,wx _ (av.refl _),(fun z=>k1 (.inl z) _ (av.refl _)),fun h hh e t1 H1 s1 YB=>?_⟩;subst e;refine⟨_,rfl,b,dx,_,rfl,s1 _ _ hb,vy,_,rfl,L,b,ns,y,o',rfl,BA.same s1,wy _ s1,(fun z=>k1 (.inr z) _ s1),fun g hg e t2 H2 s2 PV=>?_⟩;subst e;have NH:=s2 _ _ YB;have n6:=s1.trans s2;have dl:(NV (cX ns h)).length=ns.length:=by rw[bu,fZ]
  refine⟨_,rfl,t1,_,rfl,.inr (bK.of NH),_,rfl,by lia,by rw[dl];lia,?_⟩;rw[dl];refine cC (n:=ns.length) (lo:=0) (fun k σ H3=>H3=H2/\(∃z,σ=[some (.ref b),some x,some y,some (.ref t1),some (.ref t2),z])/\∀j,j<k->(cX ns h).getD j 0=(cX ns g).getD j 0) ⟨rfl,⟨_,rfl⟩,fun j hj=>absurd hj (gm _)⟩ ?_ ?_
  .rintro k σ _ hk ⟨rfl,⟨z,rfl⟩,hj⟩;rw[dD];refine⟨_,rfl,_,rfl,t1,_,_,_,rfl,rfl,bK.of NH,aM (ln hk),_,rfl,_,rfl,t2,_,_,_,rfl,rfl,bK.of PV,aM (ln hk),rfl,_,rfl,?_⟩;by_cases c:(cX ns h).getD k 0=(cX ns g).getD k 0
   .rw[c,bD rfl];exact d8 ⟨rfl,⟨_,rfl⟩,fun j Hv=>by
     rcases hZ.mp Hv with z|z
     .exact hj j z
     .rw[z];exact c⟩
   .rw[cV (fun z=>c (by injection z with z;exact cZ z))];refine gW ⟨_,rfl,?_⟩;have:=k2 h g hh hg rfl rfl _ n6;rw[NE hk hj c] at this;exact this
  .rintro σ _ ⟨rfl,⟨z,rfl⟩,hj⟩;have:=k2 h g hh hg rfl rfl _ n6;rw[NF hj] at this;exact this
end
end nz
namespace L2
open PySem PySem.Spec PyProof.Rows
end L2
namespace nz
open PySem L2 ir
theorem Gi{ns:List Nat}{o o':Option Int}(h:A6 ns o o'=true):∃a b:Nat,a<pr ns/\b<pr ns/\o=some (a:Int)/\o'=some (b:Int)/\((a:Int),(b:Int))∈lm ns:=by
 unfold A6 at h;obtain⟨h1,h2⟩:=Bool.and_eq_true_iff.mp h;obtain⟨h4,h3⟩:=Bool.and_eq_true_iff.mp h2;obtain⟨a,ha,rfl⟩:=eF h1;obtain⟨b,hb,rfl⟩:=eF h4;exact⟨a,b,ha,hb,rfl,rfl,eY h3⟩
section
variable {P:Program} {w:World} {K:PySem.W.Frag} {mg:Str->Option Value} {base:Heap}
theorem NI:aw ["self","one","other"] ["self","one","other"] (aj JQ):=⟨rfl,rfl,rfl,by decide +kernel,rfl,by decide +kernel,by decide +kernel⟩
def qR(K:PySem.W.Frag)(C CB CT:Addr):Sp:=fun vs H Q E=>∃ (L:Addr->Prop) (b:Addr) (ns:List Nat) (x y:V) (o o':Option Int),vs=[.ref b,x,y]/\dZ C CB H L b ns/\A5 K H x o/\A5 K H y o'/\(A6 ns o o'=false->∀H',av H H'->E (.ref CT) none H')/\∀h g:Nat,h<pr ns->g<pr ns->o=some (h:Int)->o'=some (g:Int)->A6 ns o o'=true->∀H',av H H'->Q (oV (lj ns h g)) H'
theorem JZ{f C CB CE CT:Addr}{fd:FuncData}(F:dR K "way" "Box.way" JQ f fd)(TB:Gh K mg CB)(e:Er K mg "NoTie" CT)(AT:bJ P w K mg base a_ 6 "are_tied" ["net","one","other"] (JX K C))(M:ge P w K mg base (eO P w) 6 CB "phase" ["self","house","home"] (vz K C CB CE)):a9 P w K mg base (eO P w) 7 f fd ["self","one","other"] (qR K C CB CT):=by
 obtain⟨fM,PF,mM,bM,GM⟩:=M.ex;refine F.Hm NI (fun vs H Q E h=>?_) (fun bL A outer s H vs Q E hr h=>?_)
 .obtain⟨L,b,ns,x,y,o,o',rfl,_⟩:=h;rfl
 .obtain⟨L,b,ns,x,y,o,o',rfl,BA,wx,wy,k1,k2⟩:=h;obtain⟨dx,pn,sr,hb,N,pA⟩:=BA.ob;refine⟨_,ag (bt (c_ (cU (az AT hr aL (aa (gT (pv 0) rfl) (aa (pv 1) (aa (pv 2) af)))))) (ai (gy (q:=fun H1=>E (.ref CT) none H1) rfl e.ok rfl e.at_ (aa lP af) (fun _ _ _ _ _ _ _ I m q=>gw I m q))) aO)
   (ai (aE (cM (pv 0) TB.cl mM GM hr bM .nil iU (aa (pv 1) (aa (pv 2) af))))),?_⟩
  refine⟨_,rfl,b,CB,dx,_,_,rfl,hb,TB.cl,TB.nN,DD,_,rfl,_,rfl,L,pn,ns,x,y,o,o',rfl,N,wx,wy,fun H1 s1=>⟨_,rfl,?_⟩⟩;cases ha:A6 ns o o' with
  |false=>exact gW ⟨by show 1<=sizeLine;decide,k1 ha H1 s1⟩
  |true=>
   refine d8 ?_;obtain⟨h,g,hh,hg,rfl,rfl,_⟩:=Gi ha;exact⟨_,rfl,b,dx,_,rfl,s1 _ _ hb,pB,_,rfl,_,rfl,L,b,ns,x,y,_,_,rfl,BA.same s1,fun H' s'=>wx H' (s1.trans s'),fun H' s'=>wy H' (s1.trans s'),(fun z=>by rcases z with z|z <;> (rw[dL (by assumption)] at z;cases z)),fun h' g' Sk YC e1 e2 H' s'=>k2 h' g' Sk YC e1 e2 ha H' (s1.trans s')⟩
end
abbrev J0:Stmt:=fH 51
abbrev Sl:Stmt:=fH 52
structure V9(mg:Str->Option Value):Prop where
 abs:mg "abs"=none
 divmod:mg "divmod"=none
 dict:mg "dict"=none
 zip:mg "zip"=none
 repr:mg "repr"=none
def cq(H:Hp)(p:Addr):Prop:=∃a b:Int,H p=some (.lst [.int a,.int b])/\0<=a/\0<=b/\b<4294967296
theorem cq.same{H H':Hp}{p:Addr}(h:cq H p)(s:av H H'):cq H' p:=let ⟨a,b,e,r⟩:=h;⟨a,b,s _ _ e,r⟩
theorem cq.full{H:Hp}{p:Addr}(h:cq H p):H p≠none:=by obtain⟨a,b,e,_⟩:=h;rw[e];intro z;cases z
theorem cq.ne{H:Hp}{p q:Addr}(h:cq H p)(e:H q=none):q≠p:=by rintro rfl;exact h.full e
theorem cq.put{H:Hp}{p q:Addr}{o:HO}(h:cq H p)(n:p≠q):cq (upd H q o) p:=let ⟨a,b,e,r⟩:=h;⟨a,b,by rw[ao n];exact e,r⟩
theorem cq.neT{H:Hp}{p q:Addr}{xs:List V}(h:cq H p)(e:H q=some (.tup xs)):q≠p:=by rintro rfl;obtain⟨a,b,z,_⟩:=h;rw[e] at z;cases z
theorem Sm{j:Int}(h1:0<j)(h2:j<2 ^ 200):Nat.log2 j.natAbs<200:=(Nat.log2_lt (by lia)).mpr (by lia)
theorem tZ{X:Cx}:eK X (.builtin "divmod") (fun xs H Q=>∃i j,xs=[.int i,.int j]/\(0<j/\j<2 ^ 200)/\∀p,H p=none->Q (.ref p) (upd H p (.tup [.int (i / j),.int (i % j)]))):=by
 intro ae s σ H xs us Q I r h;obtain⟨i,j,rfl,⟨h1,h2⟩,q⟩:=h;obtain⟨u,w',rfl,⟨t,rfl⟩,⟨t',rfl⟩⟩:=B3 r;refine PyProof.Rows.divmod_int (by lia) ?_ (.inl (PyProof.noPylong_of_log2 (Nat.lt_trans (Sm h1 h2) (by decide))));rw[rb i (by lia),vW i (by lia)];have hn:H s.heap.objs.size=none:=I.br.fresh (aN _);refine⟨.ref s.heap.objs.size,_,?_,rfl,q _ hn⟩;refine I.laid (fun b o e=>cf _ e) (aN _) ⟨by simp only[dt,List.length_nil];rw[iK];decide,[.int (i / j) s.toks,.int (i % j) (s.toks+1)],.cons ⟨_,rfl⟩ (.cons ⟨_,rfl⟩ .nil),?_⟩;exact⟨_,cI s.heap rfl,rfl,0,rfl,rfl⟩
theorem J6{X:Cx}:jC X (binaryOp .RShift) (rI (fun i j=>0<=j/\((2 ^ j.toNat:Nat):Int)<=i) fun i j=>.int (i / ((2 ^ j.toNat:Nat):Int))):=Le fun i j _ _ _ _ _ hc q=>by
 have h1:0<=j:=hc.1;have h2:((2 ^ j.toNat:Nat):Int)<=i:=hc.2;have h3:0<2 ^ j.toNat:=Nat.two_pow_pos _;refine PySem.AutoIntOps.rshift_2 (by lia) (fun z=>?_) ?_
 .have n0:i.natAbs≠0:=by lia
  have:¬ i.natAbs.log2<j.toNat:=fun y=>by
   have:=(Nat.log2_lt n0).mp y;lia
  unfold Builtin.Int.intBits at z;rw[al (by simp;lia)] at z;lia
 .rw[rb i (Int.pow_nonneg (by decide)),show (2:Int) ^ j.toNat=((2 ^ j.toNat:Nat):Int) by rw[Int.natCast_pow];rfl];exact q
section
variable {P:Program} {w:World} {K:PySem.W.Frag} {mg:Str->Option Value} {base:Heap}
theorem DK:aw ["_law_script","_law_k","_law_cell"] ["_law_script","_law_k"] (aj J0):=⟨rfl,rfl,rfl,by decide +kernel,rfl,by decide +kernel,by decide +kernel⟩
def DL(K:PySem.W.Frag):Sp:=fun vs H Q _=>∃ (a:Addr) (ns:List Int) (k:Nat),vs=[.ref a,.int k]/\bn K H a (ns.map V.int)/\k<64/\∀ (r:Addr) (H':Hp),av H H'->H r=none->cq H' r->Q (.ref r) H'
theorem J7{f:Addr}{fd:FuncData}(F:dR K "_law_pot" "_law_pot" J0 f fd)(B:Bl mg):a9 P w K mg base a_ 1 f fd ["_law_script","_law_k"] (DL K):=by
 refine F.ok DK (fun vs H Q E h=>?_) (fun bL A outer s H vs Q E hr h=>?_)
 .obtain⟨a,ns,k,rfl,_⟩:=h;rfl
 .obtain⟨a,ns,k,rfl,hS,hk,q⟩:=h;refine⟨_,(ag (aK (i:=2) DK.nd rfl (Or.inl rfl) aB)
   (ag (bt (aI yr (pv 1) (au aG (by rfl) B.len cY (aa (pv 0) af)) (aQ _)) (ai (aK (i:=2) DK.nd rfl (Or.inl rfl) (bh bv (pv 0) (pv 1) (fun _ _=>rfl)))) aO)
   (ai (aE (cu (aa (au (qk rfl) (by rfl) B.max wa (aa aB (aa (ba lU (pv 2) (ba BU aB aB)) af))) (aa (ba dz (ba gR (ba BU (ba dz (ba gR (pv 2) aB) (ba oR aB (ba dz (pv 1) aB))) aB) aB) aB) af))))))),?_⟩
  refine mW (fun σ Hc=>H=Hc/\σ=[some (.ref a),some (.int k),some (.int 0)]) ?_ (fun N hN=>hN _ _ ⟨rfl,rfl⟩);rintro σ _ ⟨rfl,rfl⟩;refine mW (fun σ Hc=>H=Hc/\∃c:Int,σ=[some (.ref a),some (.int k),some (.int c)]) ?_ ?_
  rotate_left
  .intro N hN;refine⟨_,rfl,_,rfl,a,_,rfl,.inl hS,_,_,rfl,rfl,_,rfl,iT (fun e=>?_) (fun e=>hN _ _ ⟨rfl,0,rfl⟩)⟩;have e:k<ns.length:=by have:=eY e;rw[aW] at this;lia
   exact⟨_,rfl,_,rfl,a,_,_,_,rfl,rfl,hS,aM (by rw[bA,cr e];rfl),hN _ _ ⟨rfl,_,rfl⟩⟩
  rintro σ _ ⟨rfl,c,rfl⟩;have m0:0<=c % 2147483629:=lI _ (by decide);have m1:c % 2147483629<2147483629:=lD _ (by decide);refine⟨_,rfl,_,_,rfl,rfl,⟨by decide,by decide,by decide⟩,_,_,rfl,rfl,0,_,rfl,_,rfl,_,_,rfl,rfl,(by show (0:Int)<2147483629;decide),_,rfl,_,_,rfl,rfl,_,_,rfl,rfl,.inl ⟨by decide,by decide⟩,_,_,rfl,rfl,_,_,rfl,rfl,⟨by decide,by decide,by show (c % 2147483629+40503*((k:Int)+1)).natAbs<2 ^ 64;lia⟩,_,_,rfl,rfl,(by show (0:Int)<2147483563;decide),_,_,rfl,rfl,by show 2<=sizeLine;decide,fun r uv=>?_⟩;have v0:0<=(c % 2147483629+40503*((k:Int)+1)) ^ Int.toNat 3 % 2147483563:=lI _ (by decide);have v1:(c % 2147483629+40503*((k:Int)+1)) ^ Int.toNat 3 % 2147483563<2147483563:=lD _ (by decide);refine q r _ (am uv) uv ⟨_,_,ah,by split <;> lia,?_,?_⟩
  .show 0<=(c % 2147483629+40503*((k:Int)+1)) ^ Int.toNat 3 % 2147483563+1;generalize (c % 2147483629+40503*((k:Int)+1)) ^ Int.toNat 3 % 2147483563=z at *;lia
  .show (c % 2147483629+40503*((k:Int)+1)) ^ Int.toNat 3 % 2147483563+1<_;generalize (c % 2147483629+40503*((k:Int)+1)) ^ Int.toNat 3 % 2147483563=z at *;lia
theorem NJ:aw ["_law_pot_here","_law_many_here","_law_digit"] ["_law_pot_here","_law_many_here"] (aj Sl):=⟨rfl,rfl,rfl,by decide +kernel,rfl,by decide +kernel,by decide +kernel⟩
def AC:Sp:=fun vs H Q _=>∃ (p:Addr) (m:Nat),vs=[.ref p,.int m]/\0<m/\m<2 ^ 200/\cq H p/\∀ (d:Nat) (H':Hp),d<m->bG p H H'->cq H' p->Q (.int d) H'
theorem NK{f:Addr}{fd:FuncData}(F:dR K "_law_draw" "_law_draw" Sl f fd)(B2:V9 mg):a9 P w K mg base a_ 1 f fd ["_law_pot_here","_law_many_here"] AC:=by
 refine F.ok NJ (fun vs H Q E h=>?_) (fun bL A outer s H vs Q E hr h=>?_)
 .obtain⟨p,m,rfl,_⟩:=h;rfl
 .obtain⟨p,m',rfl,m0',m1',⟨a,b,hp,a0,b0,b1⟩,q'⟩:=h;generalize hm:((m':Nat):Int)=m;have m0:0<m:=by lia
  have m1:m<2 ^ 200:=by lia
  have q:∀ (d a b:Int) (H':Hp),0<=d->d<m->0<=a->0<=b->b<4294967296->bG p H H'->H' p=some (.lst [.int a,.int b])->Q (.int d) H':=fun d a b H' h1 h2 h3 h4 h5 h6 h7=>by
   have:=q' d.toNat H' (by lia) h6 ⟨a,b,h7,h3,h4,h5⟩;rw[Int.toNat_of_nonneg h1] at this;exact this
  refine⟨_,(ag (bt (aI uD (bh bv (pv 0) aB (fun _ _=>rfl)) aB (aQ _)) (ag (lS (au tZ (by rfl) B2.divmod PyProof.Rows.boot_divmod (aa (bh bv (pv 0) aB (fun _ _=>rfl)) (aa (pv 1) af))) (gP (n:=2) rfl (bw (sg (pv 0) aB kP) (bw (aA (i:=2) NJ.nd rfl (Or.inl rfl)) ft))))
    (ai (aE (pv 2)))) aO)
   (ag (lS (ba gR (ba dz (ba oR (bh bv (pv 0) aB (fun _ _=>rfl)) aB) aB) aB) (sg (pv 0) aB kP))
   (ai (aE (ba gR (ba nP (ba gR (ba oR (bh bv (pv 0) aB (fun _ _=>rfl)) (bh bv (pv 0) aB (fun _ _=>rfl))) aB) aB) (pv 1)))))),?_⟩
  have g0:Cf [V.int a,V.int b] 0=some (.int a):=aM (j:=0) rfl;have g1:Cf [V.int a,V.int b] 1=some (.int b):=aM (j:=1) rfl;refine⟨_,rfl,p,_,_,_,rfl,rfl,bn.of hp,g0,_,_,rfl,rfl,_,rfl,?_⟩;refine iT (fun e=>?_) (fun e=>?_)
  .refine⟨_,rfl,p,_,_,_,rfl,rfl,bn.of hp,g0,_,rfl,_,_,rfl,⟨m0,by lia⟩,fun t ht=>?_⟩;have YD:p≠t:=aq hp ht;refine⟨t,_,rfl,bK.of ah,rfl,_,_,rfl,?_⟩;refine⟨_,rfl,p,_,0,0,rfl,rfl,by rw[ao YD];exact hp,nX (j:=0) (by show 0<2;decide),_,_,rfl,rfl,_,rfl,?_⟩;exact q _ _ _ _ (lI _ (by lia)) (lD _ m0) (Int.ediv_nonneg a0 (by lia)) b0 b1 (fun c o e n=>by rw[ao n,ao (aq e ht)];exact e) ah
  .refine⟨_,rfl,p,_,_,_,rfl,rfl,bn.of hp,g1,_,_,rfl,rfl,.inl ⟨by lia,by lia⟩,_,_,rfl,rfl,_,_,rfl,rfl,(by show (0:Int)<2147483629;decide),?_⟩;refine⟨_,rfl,p,_,1,1,rfl,rfl,hp,nX (j:=1) (by show 1<2;decide),?_⟩;have c0:0<=(b*39373+7919) % 2147483629:=lI _ (by decide);have c1:(b*39373+7919) % 2147483629<2147483629:=lD _ (by decide);refine⟨_,rfl,p,_,_,_,rfl,rfl,bn.of ah,aM (j:=1) rfl,_,rfl,p,_,_,_,rfl,rfl,bn.of ah,aM (j:=1) rfl,_,_,rfl,rfl,.inl ⟨by lia,by lia⟩,_,_,rfl,rfl,(by show (0:Int)<2147483587;decide),_,_,rfl,rfl,⟨by decide,by decide⟩,_,rfl,_,_,rfl,rfl,m0,?_⟩;exact q _ _ _ _ (lI _ (by lia)) (lD _ m0) a0 c0 (by lia) bG.upd ah
end
abbrev So:Stmt:=fH 53
abbrev Sq:Stmt:=fH 54
abbrev Sr:Stmt:=fH 55
abbrev Ss:Stmt:=fH 56
theorem DM{xs:List V}{k:Nat}:sv xs none (some (k:Int))=xs.take k:=by
 have h1:HT.eH xs.length 0 none=0:=rfl;have h2:HT.eH xs.length xs.length (some (k:Int))=min k xs.length:=by
  unfold HT.eH;simp;try lia
 unfold sv;rw[h1,h2,wP,Nat.sub_zero,List.take_eq_take_iff];simp;try lia
theorem DN:∀ {ns:List Nat} {h k:Nat},k<ns.length->(cX ns h).getD k 0=h / pr (ns.take k) % ns.getD k 0
 |[],_,_,hk=>absurd hk (gm _)
 |n::ns,h,0,_=>by show h % n=h / 1 % n;rw[lM]
 |n::ns,h,k+1,hk=>by
  have:=DN (ns:=ns) (h:=h / n) (k:=k) (rj hk);show (cX ns (h / n)).getD k 0=h / (n*pr (ns.take k)) % ns.getD k 0;rw[this,n_]
theorem H_{ns:List Nat}{h k:Nat}(hk:k<ns.length)(h1:1<=(cX ns h).getD k 0):pr (ns.take k)<=h:=by
 rw[DN hk] at h1;rcases rY h (pr (ns.take k)) with c|c
 .rw[wG c,Nat.zero_mod] at h1;exact absurd h1 (by decide)
 .exact c
def vA(ns:List Nat)(h k:Nat)(up:Bool):Option Nat:=if up then (if (cX ns h).getD k 0+1<ns.getD k 0 then some (h+pr (ns.take k)) else none) else if 1<=(cX ns h).getD k 0 then some (h-pr (ns.take k)) else none
section
variable {P:Program} {w:World} {K:PySem.W.Frag} {mg:Str->Option Value} {base:Heap}
theorem xY:aw ["_law_pot_here","_law_found_here","_law_left","_law_ways","_law_k","_law_most"] ["_law_pot_here"] (aj So):=⟨rfl,rfl,rfl,by decide +kernel,rfl,by decide +kernel,by decide +kernel⟩
def J8:Sp:=fun vs H Q _=>∃ (p:Addr),vs=[.ref p]/\cq H p/\∀ (r:Addr) (ns:List Nat) (H':Hp),bG p H H'->cq H' p->H' r=some (.tup (NV ns))->Bx ns->Q (.ref r) H'
theorem NL{f:Addr}{fd:FuncData}(F:dR K "_law_sides" "_law_sides" So f fd)(B:Bl mg)(DR:bJ P w K mg base a_ 1 "_law_draw" ["_law_pot_here","_law_many_here"] AC):a9 P w K mg base a_ 2 f fd ["_law_pot_here"] J8:=by
 refine F.ok xY (fun vs H Q E h=>?_) (fun bL A outer s H vs Q E hr h=>?_)
 .obtain⟨p,rfl,_⟩:=h;rfl
 .obtain⟨p,rfl,hp,q⟩:=h;refine⟨_,(ag (aK (i:=1) xY.nd rfl (Or.inl rfl) (cu af))
   (ag (aK (i:=2) xY.nd rfl (Or.inl rfl) aB)
   (ag (aK (i:=3) xY.nd rfl (Or.inl rfl) (ba dz aB (az DR hr aL (aa (pv 0) (aa aB af)))))
   (ag (bW dQ rfl (a7 rfl B.range (aa (pv 3) af)) (aA (i:=4) xY.nd rfl (Or.inl rfl))
    (ag (aK (i:=5) xY.nd rfl (Or.inl rfl) (au (ql rfl) (by rfl) B.min v_ (aa aB (aa (ba J6 (pv 2) (ba lU (ba lU (pv 3) aB) (pv 4))) af))))
    (ag (cj (io h_ iy ix b_ (pv 1) (aa (ba dz aB (az DR hr aL (aa (pv 0) (aa (ba lU (pv 5) aB) af)))) af)))
    (ai (aK (i:=2) xY.nd rfl (Or.inl rfl) (ba nP (pv 2) (bh bv (pv 1) (BO wZ aB) (fun _ _=>rfl))))))))
   (ai (aE (cD cx (by rfl) B.tup kA (aa (pv 1) af)))))))),?_⟩
  refine⟨by show 0<=sizeLine;decide,fun Fd hF=>?_⟩;have Su:Fd≠p:=hp.ne hF;have s0:=am (o:=.lst []) hF;refine⟨_,rfl,p,5,rfl,by decide,by decide,hp.same s0,fun d H1 hd s1 Q6=>⟨_,_,rfl,rfl,?_⟩⟩;obtain⟨W,hW,w1,w5⟩:∃W:Nat,(1+(d:Int))=(W:Int)/\1<=W/\W<=5:=⟨1+d,by lia,by lia,by lia⟩
  change bR 3 (V.int (1+(d:Int))) _ H1 _;rw[hW];refine⟨_,rfl,_,rfl,by lia,by lia,cC (n:=W) (lo:=0) (fun k σ H2=>∃ (rm:Nat) (fs:List Nat) (x4 x5:Option V),σ=[some (.ref p),some (.ref Fd),some (.int rm),some (.int W),x4,x5]/\bG p H H2/\cq H2 p/\H2 Fd=some (.lst (NV fs))/\fs.length=k/\(∀x∈fs,2<=x/\x<=8)/\pr fs*rm<=32/\2 ^ (W-k)<=rm/\rm<=32) ?_ ?_ ?_⟩
  .refine⟨32,[],_,_,rfl,(bG.of s0).trans s1,Q6,s1 _ _ ah Su,rfl,(fun x hx=>nomatch hx),by decide,?_,by decide⟩;exact Nat.pow_le_pow_right (by decide) (show W-0<=5 by lia)
  .rintro k σ H2 hk ⟨rm,fs,x4,x5,rfl,s2,p2,Ib,fl,fb,fp,rl,V_⟩;rw[dD];have e2:2 ^ (W-k)=2 ^ (W-1-k)*2:=by rw[<-Nat.pow_succ];congr 1;lia
   have g1:1<=2 ^ (W-1-k):=Nat.one_le_two_pow;have ej:((W:Int)-1-(k:Int)).toNat=W-1-k:=by lia
   refine⟨_,rfl,_,rfl,_,_,rfl,rfl,_,rfl,_,_,rfl,rfl,_,_,rfl,rfl,⟨by show (0:Int)<=(W:Int)-1-(k:Int);lia,by show ((2 ^ ((W:Int)-1-(k:Int)).toNat:Nat):Int)<=(rm:Int);rw[ej];lia⟩,8,_,rfl,?_⟩;change bR 5 (V.int (if (rm:Int) / ((2 ^ ((W:Int)-1-(k:Int)).toNat:Nat):Int)<8 then (rm:Int) / ((2 ^ ((W:Int)-1-(k:Int)).toNat:Nat):Int) else 8)) _ H2 _;rw[ej];generalize hg:2 ^ (W-1-k)=g at *;obtain⟨tp,QT,t2,t8,tg⟩:∃tp:Nat,(if (rm:Int) / (g:Int)<8 then (rm:Int) / (g:Int) else 8)=(tp:Int)/\2<=tp/\tp<=8/\tp*g<=rm:=by
    have d1:2<=rm / g:=(Nat.le_div_iff_mul_le (by lia)).mpr (by lia);have d2:rm / g*g<=rm:=Nat.div_mul_le_self _ _;have e:(rm:Int) / (g:Int)=((rm / g:Nat):Int):=rfl;rw[e];by_cases c:rm / g<8
    .exact⟨rm / g,by rw[ak (by lia)],d1,by lia,d2⟩
    .refine⟨8,by rw[al (by lia)];rfl,by lia,by lia,bf (Nat.mul_le_mul_right g (by lia:8<=rm / g)) d2⟩
   rw[QT];refine⟨_,rfl,.inl ⟨rfl,_,bn.of Ib⟩,_,rfl,_,rfl,_,_,rfl,rfl,p,tp-1,by show [V.ref p,V.int ((tp:Int)-1)]=_;rw[show ((tp:Int)-1)=((tp-1:Nat):Int) by lia],by lia,cG (show tp-1<8 by lia) (by decide),p2,fun e H4 he s4 YE=>?_⟩;have YF:=s4 _ _ Ib Su;refine⟨_,_,rfl,rfl,Fd,_,.int ((2+e:Nat):Int),rfl,by show [V.int (2+(e:Int))]=_;rw[show (2+(e:Int))=((2+e:Nat):Int) by lia],YF,by rw[bu,fl];exact cG (show k<6 by lia) (by decide),?_⟩;have Wa:(upd H4 Fd (.lst (NV fs++[.int ((2+e:Nat):Int)]))) Fd=some (.lst (NV (fs++[2+e]))):=by rw[ah,g_]
   have s5:bG p H (upd H4 Fd (.lst (NV fs++[.int ((2+e:Nat):Int)]))):=fun b o eq n=>by rw[ao (aq eq hF)];exact s4 _ _ (s2 _ _ eq n) n
   have YG:cq (upd H4 Fd (.lst (NV fs++[.int ((2+e:Nat):Int)]))) p:=YE.put Su.symm;generalize upd H4 Fd _=H5 at *;have fe:2+e<=tp:=by lia
   have YH:Cf (NV (fs++[2+e])) (-1)=some (.int ((2+e:Nat):Int)):=by rw[<-g_];exact Cg _ _
   refine⟨_,rfl,_,rfl,_,rfl,Fd,_,_,_,rfl,rfl,bn.of Wa,YH,_,_,rfl,rfl,⟨by lia,by lia⟩,rm / (2+e),fs++[2+e],_,_,rfl,s5,YG,Wa,by rw[dP,fl];rfl,?_,?_,?_,?_⟩
   .intro x hx;rcases cQ.mp hx with z|z
    .exact fb x z
    .rw[cJ.mp z];lia
   .rw[jt,rR];exact bf (lC _ (by rw[Nat.mul_comm];exact Nat.div_mul_le_self _ _)) fp
   .rw[show W-(k+1)=W-1-k by lia,hg];refine(Nat.le_div_iff_mul_le (by lia)).mpr ?_;rw[Nat.mul_comm];exact bf (Nat.mul_le_mul_right g fe) tg
   .exact bf (Nat.div_le_self _ _) V_
  .rintro σ H2 ⟨rm,fs,x4,x5,rfl,s2,p2,Ib,fl,fb,fp,rl,V_⟩;have r1:1<=rm:=bf Nat.one_le_two_pow rl;exact⟨_,rfl,Fd,_,rfl,.inl ⟨bn.of Ib,fun t ht=>q t fs _ (s2.trans (bG.of (am ht))) (p2.same (am ht)) ah ⟨by lia,by lia,fb,bf (v4 _ r1) fp⟩⟩⟩
theorem Gj:aw ["_law_sides_here","_law_found_here","_law_side"] ["_law_sides_here"] (aj Sq):=⟨rfl,rfl,rfl,by decide +kernel,rfl,by decide +kernel,by decide +kernel⟩
def AE:Sp:=fun vs H Q _=>∃ (a:Addr) (ns:List Nat),vs=[.ref a]/\H a=some (.tup (NV ns))/\(∀x∈ns,x<=8)/\Q (.int (pr ns:Nat)) H
theorem NM{f:Addr}{fd:FuncData}(F:dR K "_law_many" "_law_many" Sq f fd):a9 P w K mg base a_ 1 f fd ["_law_sides_here"] AE:=by
 refine F.ok Gj (fun vs H Q E h=>?_) (fun bL A outer s H vs Q E hr h=>?_)
 .obtain⟨a,ns,rfl,_⟩:=h;rfl
 .obtain⟨a,ns,rfl,ha,hx,q⟩:=h;refine⟨_,(ag (aK (i:=1) Gj.nd rfl (Or.inl rfl) aB)
   (ag (bW dQ rfl (lT (pv 0)) (aA (i:=2) Gj.nd rfl (Or.inl rfl))
    (ai (aK (i:=1) Gj.nd rfl (Or.inl rfl) (ba oR (pv 1) (pv 2)))))
   (ai (aE (pv 1))))),?_⟩
  refine⟨_,rfl,a,rfl,⟨_,bK.of ha⟩,jl (K:=K) (xs:=NV ns) (fun i σ H2=>H=H2/\∃x,σ=[some (.ref a),some (.int ((pr (ns.take i):Nat):Int)),x]) ⟨rfl,_,rfl⟩ (fun i σ H2 _ z=>by rw[<-z.1];exact bK.of ha) ?_ ?_⟩
  .rintro i x σ _ si ⟨rfl,y,rfl⟩;obtain⟨v,hv,rfl⟩:=qN si;have h1:=hx v (dA hv);refine⟨_,rfl,_,rfl,_,_,rfl,rfl,.inr ⟨by lia,by lia⟩,rfl,some (.int v),?_⟩;rw[show ns.take (i+1)=ns.take i++[v] by rw[gg,hv];rfl,jt];rfl
  .rintro σ _ ⟨rfl,x,rfl⟩;rw[bu,iC];exact⟨_,rfl,q⟩
theorem Gk:aw ["_law_sides_here","_law_house","_law_found_here","_law_side"] ["_law_sides_here","_law_house"] (aj Sr):=⟨rfl,rfl,rfl,by decide +kernel,rfl,by decide +kernel,by decide +kernel⟩
def AF:Sp:=fun vs H Q _=>∃ (a:Addr) (ns:List Nat) (h:Nat),vs=[.ref a,.int h]/\H a=some (.tup (NV ns))/\Bx ns/\∀ (r:Addr) (H':Hp),av H H'->H r=none->H' r=some (.lst (NV (cX ns h)))->Q (.ref r) H'
theorem NN{f:Addr}{fd:FuncData}(F:dR K "_law_place" "_law_place" Sr f fd):a9 P w K mg base a_ 1 f fd ["_law_sides_here","_law_house"] AF:=by
 refine F.ok Gk (fun vs H Q E h=>?_) (fun bL A outer s H vs Q E hr h=>?_)
 .obtain⟨a,ns,h,rfl,_⟩:=h;rfl
 .obtain⟨a,ns,h,rfl,ha,BX,k⟩:=h;have hl:=BX.l5;have hn:=BX.sd;refine⟨_,(ag (aK (i:=2) Gk.nd rfl (Or.inl rfl) (cu af))
   (ag (bW dQ rfl (lT (pv 0)) (aA (i:=3) Gk.nd rfl (Or.inl rfl))
    (ag (cj (io h_ iy ix b_ (pv 2) (aa (ba gR (pv 1) (pv 3)) af)))
    (ai (aK (i:=1) Gk.nd rfl (Or.inl rfl) (ba nP (pv 1) (pv 3))))))
   (ai (aE (pv 2))))),?_⟩
  refine⟨by show 0<=sizeLine;decide,fun D hD=>?_⟩;have s0:=am (o:=.lst []) hD;refine⟨_,rfl,a,rfl,⟨_,bK.of (s0 _ _ ha)⟩,jl (K:=K) (xs:=NV ns) (fun i σ H2=>(∃x,σ=[some (.ref a),some (.int ((h / pr (ns.take i):Nat):Int)),some (.ref D),x])/\av H H2/\H2 D=some (.lst (NV (cX (ns.take i) h)))) ⟨⟨_,by rw[wN];show _=[_,some (V.int ((h / 1:Nat):Int)),_,_];rw[lM];rfl⟩,s0,ah⟩ (fun i σ H2 _ z=>bK.of (z.2.1 _ _ ha)) ?_ ?_⟩
  .rintro i x σ H2 hx ⟨⟨x',rfl⟩,sm,lf⟩;obtain⟨n,hv,rfl⟩:=qN hx;have hi:i<ns.length:=(cH.mp hv).1;have V5:=hn n (dA hv);have tk:ns.take (i+1)=ns.take i++[n]:=by rw[gg,hv];rfl
   rw[tk,pq,jt];have dl:(cX (ns.take i) h).length<=5:=by rw[fZ,kF];lia
   refine⟨_,rfl,.inl ⟨rfl,_,bn.of lf⟩,_,rfl,_,rfl,_,_,rfl,rfl,(by show (0:Int)<(n:Int);lia),D,_,_,rfl,rfl,lf,by rw[bu];exact gf dl (by decide),?_⟩;refine⟨_,rfl,_,rfl,_,_,rfl,rfl,⟨by lia,by lia⟩,⟨some (.int n),?_⟩,cE sm hD,?_⟩
   .rw[<-n_];rfl
   .rw[ah,<-g_];rfl
  .rintro σ H2 ⟨⟨x',rfl⟩,sm,lf⟩;rw[bu,iC] at lf;exact⟨_,rfl,k D H2 sm hD lf⟩
theorem NO:aw ["_law_sides_here","_law_house","_law_k","_law_by","_law_place_here"] ["_law_sides_here","_law_house","_law_k","_law_by"] (aj Ss):=⟨rfl,rfl,rfl,by decide +kernel,rfl,by decide +kernel,by decide +kernel⟩
def J9:Sp:=fun vs H Q _=>∃ (a:Addr) (ns:List Nat) (h k:Nat) (up:Bool),vs=[.ref a,.int h,.int k,.int (if up then 1 else -1)]/\H a=some (.tup (NV ns))/\Bx ns/\k<ns.length/\∀H',av H H'->Q (oV (vA ns h k up)) H'
theorem NP{f:Addr}{fd:FuncData}(F:dR K "_law_step" "_law_step" Ss f fd)(PL:bJ P w K mg base a_ 1 "_law_place" ["_law_sides_here","_law_house"] AF)(MA:bJ P w K mg base a_ 1 "_law_many" ["_law_sides_here"] AE):a9 P w K mg base a_ 2 f fd ["_law_sides_here","_law_house","_law_k","_law_by"] J9:=by
 refine F.ok NO (fun vs H Q E h=>?_) (fun bL A outer s H vs Q E hr h=>?_)
 .obtain⟨a,ns,h,k,up,rfl,_⟩:=h;rfl
 .obtain⟨a,ns,h,k,up,rfl,ha,BX,hk,q⟩:=h;have h1:aZ 1 _:=hr;refine⟨_,(ag (aK (i:=4) NO.nd rfl (Or.inl rfl) (az PL h1 aL (aa (pv 0) (aa (pv 1) af))))
   (ag (bt (c_ (B0 uC yr aB (ba dz (bh bv (pv 4) (pv 2) (fun _ _=>rfl)) (pv 3)) (bh cw (pv 0) (pv 2) (fun _ _=>rfl)))) (ai (aE bV)) aO)
   (ai (aE (ba dz (pv 1) (ba oR (pv 3) (az MA h1 aL (aa (uH zj (pv 0) yy (yz (pv 2))) af)))))))),?_⟩
  generalize J_:(if up=true then (1:Int) else -1)=u;have gk:=BX.gd hk;have gd:(NV ns)[k]?=some (.int ((ns.getD k 0:Nat):Int)):=by
   rw[bA,cr hk,bU,cr hk];rfl
  refine⟨_,rfl,_,rfl,a,ns,h,rfl,ha,BX,fun r H1 s1 YI Av=>?_⟩;have dl:=Dy (h:=h) BX.pos hk;have key:(0<=(((cX ns h).getD k 0:Nat):Int)+u/\(((cX ns h).getD k 0:Nat):Int)+u<((ns.getD k 0:Nat):Int))/\(∃y:Nat,vA ns h k up=some y/\(h:Int)+u*((pr (ns.take k):Nat):Int)=(y:Int))\/¬ (0<=(((cX ns h).getD k 0:Nat):Int)+u/\(((cX ns h).getD k 0:Nat):Int)+u<((ns.getD k 0:Nat):Int))/\vA ns h k up=none:=by
   unfold vA;cases up with
   |true=>
    have J_:(1:Int)=u:=J_;rw[<-J_,ak rfl];by_cases c:(cX ns h).getD k 0+1<ns.getD k 0
    .exact .inl ⟨⟨by lia,by lia⟩,h+pr (ns.take k),ak c,by lia⟩
    .exact .inr ⟨fun z=>c (by lia),al c⟩
   |false=>
    have J_:(-1:Int)=u:=J_;rw[<-J_,al (by decide)];by_cases c:1<=(cX ns h).getD k 0
    .have:=H_ hk c;exact .inl ⟨⟨by lia,by lia⟩,h-pr (ns.take k),ak c,by lia⟩
    .exact .inr ⟨fun z=>c (by lia),al c⟩
  have YJ:-(2 ^ 64)<u/\u<2 ^ 64:=by rw[<-J_];split <;> decide
  have q1:=q H1 s1;have dN:∀y:Nat,vA ns h k up=some y->(h:Int)+u*((pr (ns.take k):Nat):Int)=(y:Int)->LU (kJ (EJ fun i j=>.int (i+j)) (a8 1) (kJ (rI BQ fun i j=>.int (i*j)) (a8 3) (kL AE [] E0 (bF (U_ Nx (a8 0) yx (Hj (a8 2))) gU)))) { nx:=fun _ H'=>Q .bp H',rt:=Q } [some (.ref a),some (.int (h:Int)),some (.int (k:Int)),some (.int u),some (.ref r)] H1:=fun y hy e=>by
   refine⟨_,rfl,_,rfl,_,rfl,_,rfl,_,rfl,a,_,rfl,s1 _ _ ha,fun t H2 s2 ht=>?_⟩;rw[DM,show (NV ns).take k=NV (ns.take k) from (List.map_take).symm] at ht;refine⟨t,ns.take k,rfl,ht,fun x hx=>(BX.sd x (jM hx)).2,_,_,rfl,rfl,.inl YJ,_,_,rfl,rfl,?_⟩;have:=q H2 (s1.trans s2);rw[hy] at this;have e':(fun (i j:Int)=>i+j) (h:Int) ((fun (i j:Int)=>i*j) u ((pr (ns.take k):Nat):Int))=(y:Int):=e;show Q (.int _) _;rw[e];exact this
  refine⟨_,rfl,_,rfl,r,_,_,_,rfl,rfl,bn.of Av,aM (ln hk),_,rfl,_,_,rfl,rfl,_,_,rfl,rfl,_,rfl,?_⟩;rcases key with ⟨⟨c1,c2⟩,y,hy,e⟩|⟨c,hy⟩
  .refine fm (bD c1) ⟨_,rfl,_,rfl,a,_,_,_,rfl,rfl,bK.of (s1 _ _ ha),aM gd,_,_,rfl,rfl,_,rfl,dF (by rw[bD c2];rfl) (dN y hy e)⟩
  .rw[hy] at q1;refine iT (fun c1=>⟨_,rfl,_,rfl,a,_,_,_,rfl,rfl,bK.of (s1 _ _ ha),aM gd,_,_,rfl,rfl,_,rfl,fm (by rw[cV fun c2=>c ⟨eY c1,c2⟩];rfl) q1⟩) (fun c1=>⟨_,rfl,gW q1⟩)
end
abbrev Sv:Stmt:=fH 57
abbrev Sw:Stmt:=fH 58
theorem DO:(["_law_other"]:List Str).Nodup:=by decide +kernel
theorem fJ:(["_law_k","_law_sides_here","_law_house","_law_home"]:List Str).Nodup:=by decide +kernel
theorem n8{β:Type}{K:PySem.W.Frag}{a D:Addr}{g:TG}{tt:TT}{te:TE}{dN:Hp->Prop}{σB:St}{H0:Hp}(ms:List β)(e:β->V)(c:β->Bool)(G:β->V)(dw:St->Prop)(ha:H0 a=some (.lst (ms.map e)))(hD:H0 D=none)(hn:ms.length<=1000)(h0:dw σB)(hs:∀m σ H (Kt:V->St->Hp->Prop) (Kf:St->Hp->Prop),m∈ms->dw σ->av H0 H->(∀σ2 H2,dw σ2->av H H2->c m=true->Kt (G m) σ2 H2)->(∀σ2 H2,dw σ2->av H H2->c m=false->Kf σ2 H2)->
   g (e m) σ H fun σ2 H2=>tt σ2 H2 fun b H3=>if b=true then te σ2 H3 fun v H4=>Kt v σ2 H4 else Kf σ2 H3)(hd:∀H,av H0 H->H D=some (.lst ((ms.filter c).map G))->dN H):jD (E2 K a) g tt te D dN σB (upd H0 D (.lst [])):=by
 refine gz (xs:=ms.map e) (fun i ys σ H=>dw σ/\av H0 H/\H D=some (.lst ys)/\ys=((ms.take i).filter c).map G) ⟨h0,am hD,ah,rfl⟩ (fun i ys σ H _ z=>bn.of (z.2.1 _ _ ha)) ?_ ?_
 .rintro i x ys σ H Kt Kf hx ⟨sh,sm,pY,rfl⟩ kt kf;rw[bA] at hx;obtain⟨y,hy,rfl⟩:=Option.map_eq_some_iff.mp hx;have tk:ms.take (i+1)=ms.take i++[y]:=by rw[gg,hy];rfl
  refine hs y σ H Kt Kf (dA hy) sh sm (fun σ2 H2 At s2 e=>?_) (fun σ2 H2 At s2 e=>?_)
  .refine kt _ _ _ (s2 _ _ pY) ?_ ⟨At,cE (sm.trans s2) hD,ah,?_⟩
   .rw[aW];exact gf (bf (mB _ _) (List.length_take_le' _ _)) (gf hn (by decide))
   .rw[tk,iA,dJ,fA,e];rfl
  .refine kf _ _ ⟨At,sm.trans s2,s2 _ _ pY,?_⟩;rw[tk,iA,fA,e];simp
 .rintro ys σ H ⟨_,sm,pY,rfl⟩;rw[aW,iC] at pY;exact hd H sm pY
theorem Gm{lo:Int}{n:Nat}{D:Addr}{g:TG}{tt:TT}{te:TE}{dN:Hp->Prop}{σB:St}{H0:Hp}(c:Nat->Bool)(dw:St->Prop)(hD:H0 D=none)(hn:n<=1000)(h0:dw σB)(hs:∀x σ H (Kt:V->St->Hp->Prop) (Kf:St->Hp->Prop),x<n->dw σ->av H0 H->(∀σ2 H2,dw σ2->av H H2->c x=true->Kt (.int (lo+(x:Nat))) σ2 H2)->(∀σ2 H2,dw σ2->av H H2->c x=false->Kf σ2 H2)->
   g (.int (lo+(x:Nat))) σ H fun σ2 H2=>tt σ2 H2 fun b H3=>if b=true then te σ2 H3 fun v H4=>Kt v σ2 H4 else Kf σ2 H3)(hd:∀H,av H0 H->H D=some (.lst (((List.range n).filter c).map fun (x:Nat)=>V.int (lo+(x:Int))))->dN H):jD (BJ lo n) g tt te D dN σB (upd H0 D (.lst [])):=by
 refine eD (fun i ys σ H=>dw σ/\av H0 H/\H D=some (.lst ys)/\ys=((List.range i).filter c).map fun (x:Nat)=>V.int (lo+(x:Int))) ⟨h0,am hD,ah,rfl⟩ ?_ ?_
 .rintro i ys σ H Kt Kf hi ⟨sh,sm,pY,rfl⟩ kt kf;refine hs i σ H Kt Kf hi sh sm (fun σ2 H2 At s2 e=>?_) (fun σ2 H2 At s2 e=>?_)
  .refine kt _ _ _ (s2 _ _ pY) ?_ ⟨At,cE (sm.trans s2) hD,ah,?_⟩
   .rw[aW];refine gf (mB _ _) ?_;rw[iB];exact cG (show i<1000 by lia) (by decide)
   .rw[gD,iA,dJ];simp[fA,e]
  .refine kf _ _ ⟨At,sm.trans s2,s2 _ _ pY,?_⟩;rw[gD,iA];simp[fA,e]
 .rintro ys σ H ⟨_,sm,pY,rfl⟩;exact hd H sm pY
theorem qS{e:V->V->Bool}:∀ {xs:List V},kW e xs []=decide (xs=[])
 |[]=>rfl
 |x::xs=>by simp[kW]
def vR(ns:List Nat)(h k:Nat):List Nat:=(vA ns h k false).toList++(vA ns h k true).toList
theorem xZ{ns:List Nat}{h g k:Nat}(hp:∀x∈ns,0<x)(hk:k<ns.length):g∈vR ns h k↔xX ns h g k:=by
 unfold vR xX;rw[cQ,Option.mem_toList,Option.mem_toList,DA hp hk,xW hp hk,or_comm];refine or_congr ?_ ?_
 .unfold vA;rw[ak rfl];by_cases c:(cX ns h).getD k 0+1<ns.getD k 0
  .rw[ak c];exact⟨fun z=>⟨c,(bi z).symm⟩,fun z=>by rw[z.2]⟩
  .rw[al c];exact⟨fun z=>(nomatch z),fun z=>absurd z.1 c⟩
 .unfold vA;rw[al (by decide)];by_cases c:1<=(cX ns h).getD k 0
  .have:=H_ hk c;rw[ak c];exact⟨fun z=>⟨c,by have:=bi z;lia⟩,fun z=>congrArg some (by lia)⟩
  .rw[al c];exact⟨fun z=>(nomatch z),fun z=>absurd z.1 c⟩
theorem AG{a b:Option Nat}:([a,b].filter Option.isSome).map oV=NV (a.toList++b.toList):=by cases a <;> cases b <;> rfl
theorem Gn{n:Nat}{c:Nat->Bool}:(NV ((List.range n).filter c))[0]?=((List.range n).find? c).map fun (k:Nat)=>V.int (k:Int):=by
 rw[bA,<-List.head?_eq_getElem?,List.head?_filter]
section
variable {P:Program} {w:World} {K:PySem.W.Frag} {mg:Str->Option Value} {base:Heap}
theorem Sx:aw ["_law_sides_here","_law_house","_law_k"] ["_law_sides_here","_law_house","_law_k"] (aj Sv):=⟨rfl,rfl,rfl,by decide +kernel,rfl,by decide +kernel,by decide +kernel⟩
def DP:Sp:=fun vs H Q _=>∃ (a:Addr) (ns:List Nat) (h k:Nat),vs=[.ref a,.int h,.int k]/\H a=some (.tup (NV ns))/\Bx ns/\k<ns.length/\∀ (r:Addr) (H':Hp),av H H'->H r=none->H' r=some (.lst (NV (vR ns h k)))->Q (.ref r) H'
theorem NQ{f:Addr}{fd:FuncData}(F:dR K "_law_ties" "_law_ties" Sv f fd)(ST:bJ P w K mg base a_ 2 "_law_step" ["_law_sides_here","_law_house","_law_k","_law_by"] J9):a9 P w K mg base a_ 3 f fd ["_law_sides_here","_law_house","_law_k"] DP:=by
 refine F.ok Sx (fun vs H Q E h=>?_) (fun bL A outer s H vs Q E hr h=>?_)
 .obtain⟨a,ns,h,k,rfl,_⟩:=h;rfl
 .obtain⟨a,ns,h,k,rfl,ha,BX,hk,q⟩:=h;refine'⟨_,(ai (aE ?c1)),?_⟩;case c1=>
   refine' dG (g:=(bR 0)) (tt:=(ik (kJ (fun x y H Q=>y=.bp/\Q (.bl (!decide (x=.bp))) H) (a8 0) (tC .bp)))) (te:=(a8 0)) (NB:=["_law_other"]) (src:=[none]) (bX (by kernel_rfl)) rfl (di (cu (aa (az ST hr aL (aa (pv 0) (aa (pv 1) (aa (pv 2) (aa (BO wZ aB) af))))) (aa (az ST hr aL (aa (pv 0) (aa (pv 1) (aa (pv 2) (aa aB af))))) af)))) ?g ?t ?e;case g=>exact fun cl C s₃ H₃ fp=>(aA (i:=0) DO rfl (Or.inl rfl) (Or.inr rfl))
   case t=>exact fun cl C s₃ H₃ fp=>dj (aI nQ (pv 0) bV (aQ _))
   case e=>exact fun cl C s₃ H₃ fp=>(pv 0)
  refine⟨_,rfl,_,rfl,_,rfl,_,rfl,a,ns,h,k,false,rfl,ha,BX,hk,fun H1 s1=>⟨_,rfl,_,rfl,_,rfl,a,ns,h,k,true,rfl,s1 _ _ ha,BX,hk,fun H2 s2=>⟨by show 2<=sizeLine;decide,fun L hL=>⟨_,rfl,⟨_,bn.of ah⟩,fun D hD=>?_⟩⟩⟩⟩;have s3:=(s1.trans s2).trans (am (o:=.lst [oV (vA ns h k false),oV (vA ns h k true)]) hL);refine n8 [vA ns h k false,vA ns h k true] oV Option.isSome oV (fun σ=>∃b,σ=[b]) ah hD (by show 2<=1000;decide) ⟨_,rfl⟩ ?_ ?_
  .rintro m σ H5 Kt Kf hm ⟨b',rfl⟩ s5 kt kf;refine⟨_,rfl,rfl,_,rfl,?_⟩;cases m with
   |none=>exact d8 (kf _ _ ⟨_,rfl⟩ (av.refl _) rfl)
   |some y=>exact fm rfl ⟨_,rfl,kt _ _ ⟨_,rfl⟩ (av.refl _) rfl⟩
  .intro H5 s5 vS;rw[AG] at vS;exact q D H5 (s3.trans s5) (s3.free hD) vS
theorem NR:aw ["_law_sides_here","_law_house","_law_home","_law_unlike"] ["_law_sides_here","_law_house","_law_home"] (aj Sw):=⟨rfl,rfl,rfl,by decide +kernel,rfl,by decide +kernel,by decide +kernel⟩
def DQ:Sp:=fun vs H Q _=>∃ (a:Addr) (ns:List Nat) (h g:Nat),vs=[.ref a,.int h,.int g]/\H a=some (.tup (NV ns))/\Bx ns/\∀H',av H H'->Q (oV (lj ns h g)) H'
theorem NS{f:Addr}{fd:FuncData}(F:dR K "_law_phase" "_law_phase" Sw f fd)(B:Bl mg)(PL:bJ P w K mg base a_ 1 "_law_place" ["_law_sides_here","_law_house"] AF):a9 P w K mg base a_ 2 f fd ["_law_sides_here","_law_house","_law_home"] DQ:=by
 refine F.ok NR (fun vs H Q E h=>?_) (fun bL A outer s H vs Q E hr h=>?_)
 .obtain⟨a,ns,h,g,rfl,_⟩:=h;rfl
 .obtain⟨a,ns,h,g,rfl,ha,BX,q⟩:=h;have l5:=BX.l5;refine'⟨_,(ag (eC (i:=3) (g:=(bR 0)) (tt:=(ik (kJ (U9) (kJ (zL K) (kL AF [] E0 (bF (a8 1) (bF (a8 2) gU))) (a8 0)) (kJ (zL K) (kL AF [] E0 (bF (a8 1) (bF (a8 3) gU))) (a8 0))))) (te:=(a8 0)) (NB:=["_law_k","_law_sides_here","_law_house","_law_home"]) (src:=[none,some 0,some 1,some 2]) (bX (by kernel_rfl)) rfl (a7 rfl B.range (aa (au aG (by rfl) B.len cY (aa (pv 0) af)) af)) ?g1 ?t1 ?e1 NR.nd rfl rfl rfl)
   (ai (aE (uB (aI (CJ (e:=ut) hr.u) (pv 3) (cu af) (aQ _)) (bh bv (pv 3) aB (fun _ _=>rfl)) bV)))),?_⟩
  case g1=>exact fun cl C s₃ H₃ fp=>(aA (i:=0) fJ rfl (Or.inl rfl) (Or.inr rfl))
  case t1=>exact fun cl C s₃ H₃ fp=>dj (aI qj (bh bv (az PL hr aL (aa (pv 1) (aa (pv 2) af))) (pv 0) (fun _ _=>rfl)) (bh bv (az PL hr aL (aa (pv 1) (aa (pv 3) af))) (pv 0) (fun _ _=>rfl)) (aQ _))
  case e1=>exact fun cl C s₃ H₃ fp=>(pv 0)
  refine⟨_,rfl,a,_,rfl,.inr (bK.of ha),_,rfl,by lia,by rw[bu];lia,fun D hD=>?_⟩;rw[bu];refine Gm (lo:=0) (n:=ns.length) (fun i=>decide ((cX ns h).getD i 0≠(cX ns g).getD i 0)) (fun σ=>∃b,σ=[b,some (.ref a),some (.int (h:Int)),some (.int (g:Int))]) hD (by lia) ⟨_,rfl⟩ ?_ ?_
  .rintro j σ H5 Kt Kf hj ⟨b',rfl⟩ s5 kt kf;rw[dD] at kt |-;refine⟨_,rfl,_,rfl,a,ns,h,rfl,s5 _ _ ha,BX,fun r1 H6 s6 _ Av=>⟨_,rfl,r1,_,_,_,rfl,rfl,bn.of Av,aM (ln hj),?_⟩⟩;refine⟨_,rfl,_,rfl,a,ns,g,rfl,s6 _ _ (s5 _ _ ha),BX,fun r2 H7 s7 _ zi=>⟨_,rfl,r2,_,_,_,rfl,rfl,bn.of zi,aM (ln hj),rfl,_,rfl,?_⟩⟩;have PZ:=s6.trans s7;by_cases c:(cX ns h).getD j 0=(cX ns g).getD j 0
   .rw[c,bD rfl];exact d8 (kf _ _ ⟨_,rfl⟩ PZ (cV fun z=>z c))
   .rw[cV (fun z=>c (by injection z with z;exact cZ z))];exact gW ⟨_,rfl,kt _ _ ⟨_,rfl⟩ PZ (bD c)⟩
  intro H5 s5 vS;rw[show (((List.range ns.length).filter fun i=>decide ((cX ns h).getD i 0≠(cX ns g).getD i 0)).map fun (x:Nat)=>V.int (0+(x:Int)))=NV ((List.range ns.length).filter fun i=>decide ((cX ns h).getD i 0≠(cX ns g).getD i 0)) from mD fun x _=>by rw[dD]] at vS;have hf:=Gn (n:=ns.length) (c:=fun i=>decide ((cX ns h).getD i 0≠(cX ns g).getD i 0));refine⟨_,rfl,by show 0<=sizeLine;decide,fun E1 Sy=>?_⟩;have sE:=am (o:=.lst []) Sy;refine⟨D,E1,_,[],rfl,rfl,bn.of (sE _ _ vS),bn.of ah,fun i h1 h2=>absurd h2 (by simp),_,rfl,?_⟩;rw[ak rfl,qS];have q1:=q _ (s5.trans sE);unfold lj at q1;cases hp:(List.range ns.length).find? fun i=>decide ((cX ns h).getD i 0≠(cX ns g).getD i 0) with
  |none=>
   rw[hp] at q1 hf;have e:NV ((List.range ns.length).filter fun i=>decide ((cX ns h).getD i 0≠(cX ns g).getD i 0))=[]:=Bb (by have:=Bi.mp hf;lia);rw[bD e];exact d8 q1
  |some k=>
   rw[hp] at q1 hf;rw[cV (fun z=>by rw[z] at hf;cases hf)];exact gW ⟨_,rfl,D,_,_,_,rfl,rfl,bn.of (sE _ _ vS),aM (j:=0) hf,q1⟩
end
end nz
namespace L2
open PySem PySem.Spec PyProof.Rows
def NU(K:PySem.W.Frag)(Dc:Addr)(i:Nat)(tb:(St->XK)->TS)(th:Addr->TS):TS:=fun D σ H=>∃E,MH K Dc i E (tb E) th D σ H
theorem Go{X:Cx}{body uS:List Stmt}{b₀:Stmt}{x n:Str}{np uT pos:Pos}{Dc:Addr}{i:Nat}{tb:(St->XK)->TS}{th:Addr->TS}(TD:iV X.K Dc)(hg:Gl X x)(hm:X.mg x=some (.ref Dc))(fh:X.stack=X.env::X.outer)(Bm:X.env.frame=some X.env.locals)(hN:X.N.Nodup)(hi:X.N[i]?=some n)(hn:X.env.scope.names.lookup n=some .local)(hb:∀E pn xe,kR (eO X.prog X.w) (X.eV pn xe) E->pK (X.eV pn xe) body (tb E))(hh:∀pn p,pK (X.dU pn p) (b₀::uS) (th p))(m8:(x==("__debug__":Str))=false:=by decide):
  PS X (.Try body [.ExceptHandler (some (.Name x np)) (some n) (b₀::uS) uT] [] [] pos) (NU X.K Dc i tb th):=by
 intro ae s σ H D I h;obtain⟨E,h⟩:=h;exact Jb (E:=E) TD hg hm fh Bm hN hi hn (hb E) hh m8 ae s σ H D I h
theorem vB{G:Hp->Prop}{lo:Int}{n:Nat}{D:Addr}{g:TG}{tt:TT}{te:TE}{dN:Hp->Prop}{σB:St}{H0:Hp}(Pv:Nat->List V->St->Hp->Prop)(h0:Pv 0 [] σB H0)(hG:∀i ys σ H,Pv i ys σ H->G H)(hs:∀i ys σ H (Kt:V->St->Hp->Prop) (Kf:St->Hp->Prop),i<n->Pv i ys σ H->
   (∀v σ2 H4,H4 D=some (.lst ys)->ys.length<sizeLine->Pv (i+1) (ys++[v]) σ2 (upd H4 D (.lst (ys++[v])))->Kt v σ2 H4)->(∀σ2 H3,Pv (i+1) ys σ2 H3->Kf σ2 H3)->
   g (.int (lo+i)) σ H fun σ2 H2=>tt σ2 H2 fun b H3=>if b=true then te σ2 H3 fun v H4=>Kt v σ2 H4 else Kf σ2 H3)(hd:∀ys σ H,Pv n ys σ H->dN H):oX G (BJ lo n) g tt te D dN σB H0:=by
 obtain⟨W,w0,st⟩:=eD (lo:=lo) (n:=n) (fun i ys σ H=>Pv i ys σ H) h0 hs hd;refine⟨fun i m σ H=>m=n-i/\i<=n/\∃ys,Pv i ys σ H,⟨n,by simp,cS _,[],h0⟩,?_⟩;rintro i m σ H ⟨rfl,hi,ys,p⟩;refine⟨hG _ _ _ _ p,?_⟩;by_cases eS:i<n
 .refine .inr ⟨eS,?_⟩;rintro x H' ⟨rfl,rfl⟩;exact hs i ys σ _ (fun v σ2 H4=>∃ys,H4 D=some (.lst ys)/\ys.length<sizeLine/\∃m',m'<n-i/\m'=n-(i+1)/\i+1<=n/\∃u8,Pv (i+1) u8 σ2 (upd H4 D (.lst (ys++[v]))))
   (fun σ2 H3=>∃m',m'<n-i/\m'=n-(i+1)/\i+1<=n/\∃u8,Pv (i+1) u8 σ2 H3) eS p
   (fun v σ2 H4 z1 z2 z3=>⟨ys,z1,z2,_,by lia,rfl,eS,_,z3⟩) (fun σ2 H3 z=>⟨_,by lia,rfl,eS,_,z⟩)
 .obtain rfl:i=n:=by lia
  exact .inl ⟨aN _,hd ys σ H p⟩
end L2
namespace nz
open PySem L2 ir
abbrev Sz:Stmt:=fH 60
theorem AH:(["_law_k","_law_some"]:List Str).Nodup:=by decide +kernel
theorem SA:∀j,j<12->(List.range 12).filter (fun k=>decide (k=j))=[j]:=by decide +kernel
theorem NW:bootBuiltins "ValueError"=some (.type "ValueError"):=by decide +kernel
structure Wb(mg:Str->Option Value)(c:Nat->Addr):Prop where
 e0:mg "NoNet"=some (.ref (c 0))
 e1:mg "NoShape"=some (.ref (c 1))
 e2:mg "NoTie"=some (.ref (c 2))
 e3:mg "NoText"=some (.ref (c 3))
 e4:mg "NoHouse"=some (.ref (c 4))
 e5:mg "NoRanks"=some (.ref (c 5))
 e6:mg "NoStand"=some (.ref (c 6))
 e7:mg "NoBerth"=some (.ref (c 7))
 e8:mg "NoHanding"=some (.ref (c 8))
 e9:mg "NoPlan"=some (.ref (c 9))
 YK:mg "TooMany"=some (.ref (c 10))
 YL:mg "NoRow"=some (.ref (c 11))
structure Wc(K:PySem.W.Frag)(c:Nat->Addr)(CE:Addr)(j:Nat):Prop where
 ok:iV K CE
 YM:j<12
 kv:PySem.W.kitOne K (.ref CE) (.type "ValueError")=some true
 k0:PySem.W.kitOne K (.ref CE) (.ref (c 0))=some (decide (0=j))
 k1:PySem.W.kitOne K (.ref CE) (.ref (c 1))=some (decide (1=j))
 k2:PySem.W.kitOne K (.ref CE) (.ref (c 2))=some (decide (2=j))
 k3:PySem.W.kitOne K (.ref CE) (.ref (c 3))=some (decide (3=j))
 k4:PySem.W.kitOne K (.ref CE) (.ref (c 4))=some (decide (4=j))
 k5:PySem.W.kitOne K (.ref CE) (.ref (c 5))=some (decide (5=j))
 k6:PySem.W.kitOne K (.ref CE) (.ref (c 6))=some (decide (6=j))
 k7:PySem.W.kitOne K (.ref CE) (.ref (c 7))=some (decide (7=j))
 k8:PySem.W.kitOne K (.ref CE) (.ref (c 8))=some (decide (8=j))
 k9:PySem.W.kitOne K (.ref CE) (.ref (c 9))=some (decide (9=j))
 YN:PySem.W.kitOne K (.ref CE) (.ref (c 10))=some (decide (10=j))
 YO:PySem.W.kitOne K (.ref CE) (.ref (c 11))=some (decide (11=j))
section
variable {P:Program} {w:World} {K:PySem.W.Frag} {mg:Str->Option Value} {base:Heap}
theorem Gp:aw ["_law_e","_law_some"] ["_law_e"] (aj Sz):=⟨rfl,rfl,rfl,by decide +kernel,rfl,by decide +kernel,by decide +kernel⟩
def Gq(K:PySem.W.Frag)(c:Nat->Addr):Sp:=fun vs H Q _=>∃ (x CE:Addr) (j:Nat),vs=[.ref x]/\Wc K c CE j/\H x=some (sQ x (.ref CE))/\∀ (r:Addr) (H':Hp),av H H'->H' r=some (.lst [.int (j:Int)])->Q (.ref r) H'
theorem NX{f:Addr}{c:Nat->Addr}{fd:FuncData}(F:dR K "_law_kinds" "_law_kinds" Sz f fd)(B:Bl mg)(R:Wb mg c):qw P w K mg base (eO P w) 1 f fd ["_law_e"] (Gq K c):=by
 refine F.Xd Gp (fun vs H Q E h=>?_) (fun bL A outer s H vs Q E hr hd h=>?_)
 .obtain⟨x,CE,j,rfl,_⟩:=h;rfl
 .obtain⟨x,CE,j,rfl,kd,hx,q⟩:=h;refine'⟨_,(ag (aK (i:=1) Gp.nd rfl (Or.inr rfl) (cu (aa (au ce (by rfl) B.tI dO (aa (pv 0) (aa (bE (v:=.ref (c 0)) rfl R.e0 rfl) af))) (aa (au ce (by rfl) B.tI dO (aa (pv 0) (aa (bE (v:=.ref (c 1)) rfl R.e1 rfl) af))) (aa (au ce (by rfl) B.tI dO (aa (pv 0) (aa (bE (v:=.ref (c 2)) rfl R.e2 rfl) af))) (aa (au ce (by rfl) B.tI dO (aa (pv 0) (aa (bE (v:=.ref (c 3)) rfl R.e3 rfl) af))) af))))))
   (ag (aK (i:=1) Gp.nd rfl (Or.inr rfl) (ba sI (pv 1) (cu (aa (au ce (by rfl) B.tI dO (aa (pv 0) (aa (bE (v:=.ref (c 4)) rfl R.e4 rfl) af))) (aa (au ce (by rfl) B.tI dO (aa (pv 0) (aa (bE (v:=.ref (c 5)) rfl R.e5 rfl) af))) (aa (au ce (by rfl) B.tI dO (aa (pv 0) (aa (bE (v:=.ref (c 6)) rfl R.e6 rfl) af))) (aa (au ce (by rfl) B.tI dO (aa (pv 0) (aa (bE (v:=.ref (c 7)) rfl R.e7 rfl) af))) af)))))))
   (ag (aK (i:=1) Gp.nd rfl (Or.inr rfl) (ba sI (pv 1) (cu (aa (au ce (by rfl) B.tI dO (aa (pv 0) (aa (bE (v:=.ref (c 8)) rfl R.e8 rfl) af))) (aa (au ce (by rfl) B.tI dO (aa (pv 0) (aa (bE (v:=.ref (c 9)) rfl R.e9 rfl) af))) (aa (au ce (by rfl) B.tI dO (aa (pv 0) (aa (bE (v:=.ref (c 10)) rfl R.YK rfl) af))) (aa (au ce (by rfl) B.tI dO (aa (pv 0) (aa (bE (v:=.ref (c 11)) rfl R.YL rfl) af))) af)))))))
   (ai (aE ?c1))))),?_⟩
  case c1=>
   refine' Cn (g:=(bR 0)) (tt:=(tB (kJ (zL K) (a8 1) (a8 0)))) (te:=(a8 0)) (NB:=["_law_k","_law_some"]) (src:=[none,some 1]) (bX (by kernel_rfl)) (a7 rfl B.range (aa aB af)) ?g ?t ?e;case g=>exact fun cl C s₃ H₃ fp=>(aA (i:=0) AH rfl (Or.inl rfl) (Or.inr rfl))
   case t=>exact fun cl C s₃ H₃ fp=>dj (cU (bh bv (pv 1) (pv 0) (fun _ _=>rfl)))
   case e=>exact fun cl C s₃ H₃ fp=>(pv 0)
  refine⟨_,rfl,_,_,_,_,rfl,kd.k0,.exc kd.ok hx,_,rfl,_,_,_,_,rfl,kd.k1,.exc kd.ok hx,_,rfl,_,_,_,_,rfl,kd.k2,.exc kd.ok hx,_,rfl,_,_,_,_,rfl,kd.k3,.exc kd.ok hx,by show 4<=sizeLine;decide,fun l1 Ll=>?_⟩;have s1:=am (o:=.lst [V.bl (decide (0=j)),.bl (decide (1=j)),.bl (decide (2=j)),.bl (decide (3=j))]) Ll;have g1:(upd H l1 (.lst [V.bl (decide (0=j)),.bl (decide (1=j)),.bl (decide (2=j)),.bl (decide (3=j))])) l1=some (.lst ((List.range 4).map fun i=>V.bl (decide (i=j)))):=ah;have x1:=s1 _ _ hx;generalize upd H l1 _=H1 at *;refine⟨_,rfl,_,rfl,_,_,_,_,rfl,kd.k4,.exc kd.ok x1,_,rfl,_,_,_,_,rfl,kd.k5,.exc kd.ok x1,_,rfl,_,_,_,_,rfl,kd.k6,.exc kd.ok x1,_,rfl,_,_,_,_,rfl,kd.k7,.exc kd.ok x1,by show 4<=sizeLine;decide,fun l2 Mn=>?_⟩;have s2:=am (o:=.lst [V.bl (decide (4=j)),.bl (decide (5=j)),.bl (decide (6=j)),.bl (decide (7=j))]) Mn;refine⟨l1,l2,_,_,rfl,rfl,s2 _ _ g1,ah,by show 8<=sizeLine;decide,fun l3 YQ=>?_⟩;have s3:=s2.trans (am (o:=.lst (((List.range 4).map fun i=>V.bl (decide (i=j)))++[V.bl (decide (4=j)),.bl (decide (5=j)),.bl (decide (6=j)),.bl (decide (7=j))])) YQ);have g3:(upd (upd H1 l2 (.lst [V.bl (decide (4=j)),.bl (decide (5=j)),.bl (decide (6=j)),.bl (decide (7=j))])) l3 (.lst (((List.range 4).map fun i=>V.bl (decide (i=j)))++[V.bl (decide (4=j)),.bl (decide (5=j)),.bl (decide (6=j)),.bl (decide (7=j))]))) l3=some (.lst ((List.range 8).map fun i=>V.bl (decide (i=j)))):=ah;have x3:=s3 _ _ x1;have DS:=s1.trans s3;generalize upd (upd H1 l2 _) l3 _=H3 at *;refine⟨_,rfl,_,rfl,_,_,_,_,rfl,kd.k8,.exc kd.ok x3,_,rfl,_,_,_,_,rfl,kd.k9,.exc kd.ok x3,_,rfl,_,_,_,_,rfl,kd.YN,.exc kd.ok x3,_,rfl,_,_,_,_,rfl,kd.YO,.exc kd.ok x3,by show 4<=sizeLine;decide,fun l4 YR=>?_⟩;have s4:=am (o:=.lst [V.bl (decide (8=j)),.bl (decide (9=j)),.bl (decide (10=j)),.bl (decide (11=j))]) YR;refine⟨l3,l4,_,_,rfl,rfl,s4 _ _ g3,ah,by show 12<=sizeLine;decide,fun l5 YS=>?_⟩;have s5:=s4.trans (am (o:=.lst (((List.range 8).map fun i=>V.bl (decide (i=j)))++[V.bl (decide (8=j)),.bl (decide (9=j)),.bl (decide (10=j)),.bl (decide (11=j))])) YS);have g5:(upd (upd H3 l4 (.lst [V.bl (decide (8=j)),.bl (decide (9=j)),.bl (decide (10=j)),.bl (decide (11=j))])) l5 (.lst (((List.range 8).map fun i=>V.bl (decide (i=j)))++[V.bl (decide (8=j)),.bl (decide (9=j)),.bl (decide (10=j)),.bl (decide (11=j))]))) l5=some (.lst ((List.range 12).map fun i=>V.bl (decide (i=j)))):=ah;have Gs:=DS.trans s5;generalize upd (upd H3 l4 _) l5 _=H5 at *;have YT:=hd.same Gs;refine⟨(12:Int),rfl,by decide,by decide,fun D hD=>?_⟩;refine vB (lo:=0) (n:=12) (fun i ys σ H6=>(∃u,σ=[u,some (.ref l5)])/\av H5 H6/\H6 D=some (.lst ys)/\ys=NV ((List.range i).filter fun k=>decide (k=j))) ⟨⟨_,rfl⟩,am hD,ah,rfl⟩ (fun i ys σ H6 z=>(YT.same z.2.1).EZ) ?_ ?_
  .rintro i ys σ H6 Kt Kf hi ⟨⟨u,rfl⟩,sm,A4,rfl⟩ kt kf;rw[dD];refine⟨_,rfl,_,rfl,l5,_,_,_,rfl,rfl,bn.of (sm _ _ g5),aM (j:=i) (by rw[bA,List.getElem?_range hi];rfl),_,rfl,?_⟩;refine iT (fun e=>?_) (fun e=>?_)
   .refine⟨_,rfl,kt _ _ _ A4 ?_ ⟨⟨_,rfl⟩,cE sm ?_,ah,?_⟩⟩
    .rw[bu];exact gf (mB _ _) (by rw[iB];exact cG (show i<12 from hi) (by decide))
    .exact hD
    .rw[gD,iA,fA,ak e,List.filter_nil];exact g_
   .refine kf _ _ ⟨⟨_,rfl⟩,sm,A4,?_⟩;rw[gD,iA,fA,al e,List.filter_nil,rO]
  .rintro ys σ H6 ⟨_,sm,A4,rfl⟩;refine q D H6 (Gs.trans sm) ?_;rw[A4];congr 2;rw[SA j kd.YM];rfl
end
abbrev SB:Stmt:=fv (fH 49) 5
abbrev SC:Stmt:=fH 22
abbrev SD:Stmt:=fH 23
abbrev P0:Stmt:=fH 24
theorem zn:(["letter","came","stand","house"]:List Str).Nodup:=by decide +kernel
theorem x0{pn sr:Addr}:(DC pn sr).lookup ("way":Str)=none:=tY (by decide +kernel) (by decide +kernel)
theorem zo{pn sr:Addr}:(DC pn sr).lookup ("tied":Str)=none:=tY (by decide +kernel) (by decide +kernel)
theorem d0{K:PySem.W.Frag}{H:Hp}{i:Int}:A5 K H (.int i) (some i):=fun _ _=>.int i
theorem DT{ns:List Nat}{h g:Nat}(BX:Bx ns)(hh:h<pr ns)(hg:g<pr ns):A6 ns (some (h:Int)) (some (g:Int))=true↔∃k,xX ns h g k:=by
 rw[<-ju BX.pos hh hg];unfold A6;rw[dL hh,dL hg];show decide _=true↔_;rw[mE];exact Iff.rfl
theorem DU{ns:List Nat}{h y k:Nat}(BX:Bx ns)(F:i6 (pr ns) (lm ns))(hh:h<pr ns)(hk:k<ns.length)(t:xX ns h y k):y<pr ns:=by
 rcases t with t|t
 .have m:((h:Int),(y:Int))∈lm ns:=eJ.mpr (.inl (aX.mpr ⟨(h,y),ml.mpr ⟨hh,(AB BX.pos).mpr ⟨k,t⟩⟩,rfl⟩));have:=(F.rg _ m).2.2;exact r0.mp this
 .have:=((xW BX.pos hk).mp t).2;lia
theorem lr{lo:Int}{n:Nat}{D:Addr}{g:TG}{tt:TT}{te:TE}{dN:Hp->Prop}{σB:St}{H0:Hp}(c:Nat->Bool)(G:Nat->V)(dw:St->Prop)(hD:H0 D=none)(hn:n<=1000)(h0:dw σB)(hs:∀x σ H (Kt:V->St->Hp->Prop) (Kf:St->Hp->Prop),x<n->dw σ->av H0 H->(∀σ2 H2,dw σ2->av H H2->c x=true->Kt (G x) σ2 H2)->(∀σ2 H2,dw σ2->av H H2->c x=false->Kf σ2 H2)->
   g (.int (lo+(x:Nat))) σ H fun σ2 H2=>tt σ2 H2 fun b H3=>if b=true then te σ2 H3 fun v H4=>Kt v σ2 H4 else Kf σ2 H3)(hd:∀H,av H0 H->H D=some (.lst (((List.range n).filter c).map G))->dN H):jD (BJ lo n) g tt te D dN σB (upd H0 D (.lst [])):=by
 refine eD (fun i ys σ H=>dw σ/\av H0 H/\H D=some (.lst ys)/\ys=((List.range i).filter c).map G) ⟨h0,am hD,ah,rfl⟩ ?_ ?_
 .rintro i ys σ H Kt Kf hi ⟨sh,sm,pY,rfl⟩ kt kf;refine hs i σ H Kt Kf hi sh sm (fun σ2 H2 At s2 e=>?_) (fun σ2 H2 At s2 e=>?_)
  .refine kt _ _ _ (s2 _ _ pY) ?_ ⟨At,cE (sm.trans s2) hD,ah,?_⟩
   .rw[aW];refine gf (mB _ _) ?_;rw[iB];exact cG (show i<1000 by lia) (by decide)
   .rw[gD,iA,dJ];simp[fA,e]
  .refine kf _ _ ⟨At,sm.trans s2,s2 _ _ pY,?_⟩;rw[gD,iA];simp[fA,e]
 .rintro ys σ H ⟨_,sm,pY,rfl⟩;exact hd H sm pY
theorem jd{st:List (Option Nat)}{i:Nat}(h:i<st.length):(st.map oV)[i]?=some (oV (st.getD i none)):=by
 rw[bA,bU,cr h];rfl
theorem qT{xs:List V}{i:Nat}(h:i<xs.length):xs[i]?=some (xs.getD i .bp):=by
 rw[bU,cr h];rfl
theorem qU{ns:List Nat}{k:Nat}(hk:k<ns.length):(NV ns)[k]?=some (.int ((ns.getD k 0:Nat):Int)):=by
 rw[bA,cr hk,bU,cr hk];rfl
theorem t_{o:Option Nat}{h:Nat}:IK (oV o) (.int (h:Int))=true:=by cases o <;> rfl
theorem zq{o:Option Nat}{h:Nat}:decide (oV o=V.int (h:Int))=decide (o=some h):=by
 cases o with
 |none=>rfl
 |some y=>
  refine decide_eq_decide.mpr ⟨fun e=>?_,fun e=>by rw[bi e];rfl⟩;injection e with e;rw[cZ e]
theorem uc{i:Int}{xs:List V}(f:∀v∈xs,∃j:Int,v=.int j):yC (.int i) xs=true↔V.int i∈xs:=by
 unfold yC;rw[wI];constructor
 .rintro⟨v,hv,e⟩;obtain⟨j,rfl⟩:=f v hv;have:(j==i)=true\/(i==j)=true:=by first|exact .inl e|exact .inr e
  have:j=i:=by rcases this with t|t <;> simp at t <;> lia
  rw[<-this];exact hv
 .intro hv;exact⟨_,hv,by show (i==i)=true;simp⟩
theorem NY{xs:List V}(f:∀v∈xs,∃j:Int,v=.int j):xs.all ee=true:=iD.mpr fun x hx=>by obtain⟨y,rfl⟩:=f x hx;rfl
theorem ud{xs:List Nat}:∀v∈NV xs,∃j:Int,v=.int j:=fun v hv=>by obtain⟨y,_,rfl⟩:=aX.mp hv;exact⟨_,rfl⟩
theorem Gu{K:PySem.W.Frag}{H:Hp}{i:Int}(h:Wh K H (.int i) none):False:=by
 cases h with
 |no h=>
  obtain⟨t,ty,z⟩:=h;cases ty with
  |of ty=>
   cases ty;rcases z with z|⟨_,z⟩
   .rw[mV] at z;cases z
   .rw[kZ] at z;cases z
theorem qV{ns:List Nat}{h g:Nat}(hh:h<pr ns)(hg:g<pr ns)(ne:h≠g):∃p,lj ns h g=some p:=by
 cases e:lj ns h g with
 |some p=>exact⟨p,rfl⟩
 |none=>
  refine absurd ?_ ne;have ed:cX ns h=cX ns g:=List.ext_getElem (fZ.trans fZ.symm) fun i h1 h2=>by
   have hi:i<ns.length:=by rw[<-fZ (ns:=ns) (h:=h)];exact h1
   have:=wu.mp e i (cR.mpr hi);simp only[jR,wD] at this;rw[bU,bU,cr h1,cr h2] at this;exact this
  rw[<-tX hh,<-tX hg,ed]
structure Sn(ns homes:List Nat)(st:List (Option Nat)):Prop where
 l:homes.length=st.length
 ok:∀i h,st.getD i none=some h->h<pr ns/\homes.getD i 0<pr ns/\h≠homes.getD i 0
 x_:st.length<=16
def Ln(ns:List Nat)(h g y:Nat):Prop:=∃k p,lj ns h g=some p/\xX ns h y k/\k<=p
def Bt(ns homes:List Nat)(st:List (Option Nat))(xs:List V)(i:Nat):Prop:=(st.getD i none=none->xs.getD i .bp=.bp)/\∀h,st.getD i none=some h->∃y:Nat,xs.getD i .bp=.int (y:Int)/\Ln ns h (homes.getD i 0) y/\∀j,j<i->st.getD j none=some h->xs.getD j .bp≠.int (y:Int)
def Wd(ns homes:List Nat)(st:List (Option Nat))(xs:List V):Prop:=xs.length=st.length/\∀i,i<st.length->Bt ns homes st xs i
theorem Ka{ns homes:List Nat}{st:List (Option Nat)}{xs:List V}{i:Nat}(e:st.getD i none=none):Bt ns homes st xs i↔xs.getD i .bp=.bp:=
 ⟨fun h=>h.1 e,fun h=>⟨fun _=>h,fun h' z=>by rw[e] at z;cases z⟩⟩
theorem Gv{ns homes:List Nat}{st:List (Option Nat)}{xs:List V}{i h:Nat}(e:st.getD i none=some h):Bt ns homes st xs i↔∃y:Nat,xs.getD i .bp=.int (y:Int)/\Ln ns h (homes.getD i 0) y/\∀j,j<i->st.getD j none=some h->xs.getD j .bp≠.int (y:Int):=
 ⟨fun b=>b.2 h e,fun b=>⟨fun z=>(by rw[e] at z;cases z),fun h' z=>(by rw[e] at z;cases z;exact b)⟩⟩
section
variable {P:Program} {w:World} {K:PySem.W.Frag} {mg:Str->Option Value} {base:Heap}
theorem SE:aw ["self","house"] ["self","house"] (aj SB):=⟨rfl,rfl,rfl,by decide +kernel,rfl,by decide +kernel,by decide +kernel⟩
def Gw(C CB:Addr):Sp:=fun vs H Q _=>∃ (L:Addr->Prop) (b:Addr) (ns:List Nat) (h:Nat),vs=[.ref b,.int h]/\dZ C CB H L b ns/\h<pr ns/\∀ (r:Addr) (H':Hp),av H H'->H' r=some (.lst (NV (dg (pr ns) (lm ns) h)))->Q (.ref r) H'
theorem NZ{f C CB CE:Addr}{fd:FuncData}(F:dR K "tied" "Box.tied" SB f fd)(T:NT K mg C)(TB:Gh K mg CB)(MO:ge P w K mg base (eO P w) 5 C "out" ["self","house"] (zd K C CE FY)):a9 P w K mg base a_ 6 f fd ["self","house"] (Gw C CB):=by
 obtain⟨fO,YA,mO,bO,GO⟩:=MO.ex;refine F.ok SE (fun vs H Q E h=>?_) (fun bL A outer s H vs Q E hr h=>?_)
 .obtain⟨L,b,ns,h,rfl,_⟩:=h;rfl
 .obtain⟨L,b,ns,h,rfl,⟨BX,dx,pn,sr,hb,N,pA⟩,hh,q⟩:=h;obtain⟨Sh,tl,ol,ds,hN,_⟩:=N.ob;refine⟨_,ai (aE (cM (gT (pv 0) rfl) T.cl mO GO hr bO .nil iU (aa (pv 1) af))),?_⟩;refine⟨_,rfl,b,CB,dx,_,_,rfl,hb,TB.cl,TB.nN,DD,pn,Sh,_,rfl,hN,JV _ _ _ _,_,rfl,L,pn,pr ns,_,_,_,rfl,N,.int _,(fun z=>by rw[dL hh] at z;cases z),fun i hi e r H1 s1 YI Av=>?_⟩;cases e;exact q r H1 s1 Av
theorem N0:aw ["stand","came","house"] ["stand","came","house"] (aj P0):=⟨rfl,rfl,rfl,by decide +kernel,rfl,by decide +kernel,by decide +kernel⟩
def Kb:Sp:=fun vs H Q _=>∃ (sa ca:Addr) (st:List (Option Nat)) (ys:List V) (h:Nat),vs=[.ref sa,.ref ca,.int h]/\H sa=some (.tup (st.map oV))/\H ca=some (.tup ys)/\ys.length<=st.length/\st.length<=16/\
 ∀ (r:Addr) (H':Hp),av H H'->H' r=some (.lst (((List.range ys.length).filter fun j=>decide (st.getD j none=some h)).map fun j=>ys.getD j .bp))->Q (.ref r) H'
theorem N2{f:Addr}{fd:FuncData}(F:dR K "came_by_at" "came_by_at" P0 f fd)(B:Bl mg):a9 P w K mg base a_ 1 f fd ["stand","came","house"] Kb:=by
 refine F.ok N0 (fun vs H Q E h=>?_) (fun bL A outer s H vs Q E hr h=>?_)
 .obtain⟨sa,ca,st,ys,h,rfl,_⟩:=h;rfl
 .obtain⟨sa,ca,st,ys,h,rfl,hU,DV,ly,x_,q⟩:=h;refine'⟨_,(ai (aE ?c1)),?_⟩;case c1=>
   refine' dG (g:=(bR 0)) (tt:=(ik (kJ L7 (kJ (xh K) (a8 2) (a8 0)) (a8 3)))) (te:=(kJ (xh K) (a8 1) (a8 0))) (NB:=["letter","came","stand","house"]) (src:=[none,some 1,some 0,some 2]) (bX (by kernel_rfl)) rfl (a7 rfl B.range (aa (au aG (by rfl) B.len cY (aa (pv 1) af)) af)) ?g ?t ?e;case g=>exact fun cl C s₃ H₃ fp=>(aA (i:=0) zn rfl (Or.inl rfl) (Or.inr rfl))
   case t=>exact fun cl C s₃ H₃ fp=>dj (aI ij (bh cw (pv 2) (pv 0) (fun _ _=>rfl)) (pv 3) (aQ _))
   case e=>exact fun cl C s₃ H₃ fp=>(bh cw (pv 1) (pv 0) (fun _ _=>rfl))
  refine⟨_,rfl,ca,_,rfl,.inr (bK.of DV),_,rfl,by lia,by lia,fun D hD=>?_⟩;refine lr (lo:=0) (n:=ys.length) (fun j=>decide (st.getD j none=some h)) (fun j=>ys.getD j .bp) (fun σ=>∃u,σ=[u,some (.ref ca),some (.ref sa),some (.int (h:Int))]) hD (by lia) ⟨_,rfl⟩ ?_ ?_
  .rintro j σ H5 Kt Kf hj ⟨u,rfl⟩ s5 kt kf;rw[dD];refine⟨_,rfl,_,rfl,sa,_,_,_,rfl,rfl,bK.of (s5 _ _ hU),aM (jd (by lia)),_,rfl,t_,_,rfl,?_⟩;rw[zq];refine iT (fun c=>⟨_,rfl,_,rfl,ca,_,_,_,rfl,rfl,bK.of (s5 _ _ DV),aM (qT hj),kt _ _ ⟨_,rfl⟩ (av.refl _) c⟩) (fun c=>kf _ _ ⟨_,rfl⟩ (av.refl _) (kC.mpr c))
  .intro H5 s5 vS;exact q D H5 s5 vS
theorem N3:aw ["box","homes","stand","came","letter","house"] ["box","homes","stand","came","letter"] (aj SD):=⟨rfl,rfl,rfl,by decide +kernel,rfl,by decide +kernel,by decide +kernel⟩
def Kc(K:PySem.W.Frag)(C CB:Addr):Sp:=fun vs H Q _=>∃ (L:Addr->Prop) (b ha sa xa:Addr) (ns homes:List Nat) (st:List (Option Nat)) (xs:List V) (i:Nat),vs=[.ref b,.ref ha,.ref sa,.ref xa,.int i]/\dZ C CB H L b ns/\H ha=some (.tup (NV homes))/\H sa=some (.tup (st.map oV))/\H xa=some (.tup xs)/\Sn ns homes st/\xs.length=st.length/\i<st.length/\(∀x∈xs,∃o,A5 K H x o)/\(∀j,j<i->Bt ns homes st xs j)/\
 ∀ (H':Hp) (bb:Bool),av H H'->(bb=true↔Bt ns homes st xs i)->Q (.bl bb) H'
theorem N4{f C CB CE CT:Addr}{fd:FuncData}(F:dR K "is_berth" "is_berth" SD f fd)(TB:Gh K mg CB)(W:bJ P w K mg base a_ 1 "is_whole" ["thing"] (n4 K))(MT:ge P w K mg base a_ 6 CB "tied" ["self","house"] (Gw C CB))(MY:ge P w K mg base (eO P w) 7 CB "way" ["self","one","other"] (qR K C CB CT))(MP:ge P w K mg base (eO P w) 6 CB "phase" ["self","house","home"] (vz K C CB CE))(CY:bJ P w K mg base a_ 1 "came_by_at" ["stand","came","house"] Kb):
  a9 P w K mg base a_ 8 f fd ["box","homes","stand","came","letter"] (Kc K C CB):=by
 obtain⟨fT,YU,mT,bT,GT⟩:=MT.ex;obtain⟨fY,YV,mY,bY,GY⟩:=MY.ex;obtain⟨fP,YW,mP,bP,GP⟩:=MP.ex;refine F.ok N3 (fun vs H Q E h=>?_) (fun bL A outer s H vs Q E hr h=>?_)
 .obtain⟨L,b,ha,sa,xa,ns,homes,st,xs,i,rfl,_⟩:=h;rfl
 .obtain⟨L,b,ha,sa,xa,ns,homes,st,xs,i,rfl,BA,mZ,hU,N5,SN,xl,hi,hW,hB,q⟩:=h;have h1:aZ 1 _:=hr.mono (by decide);have h6:aZ 6 _:=hr.mono (by decide);have h7:aZ 7 _:=hr.mono (by decide);have BX:=BA.bx;obtain⟨dx,pn,sr,hb,N,pA⟩:=id BA.ob;have FI:=N.o9;refine⟨_,(ag (aK (i:=5) N3.nd rfl (Or.inl rfl) (bh cw (pv 2) (pv 4) (fun _ _=>rfl)))
   (ag (bt (aI iR (pv 5) bV (aQ _)) (ai (aE (fW iR (bh cw (pv 3) (pv 4) (fun _ _=>rfl)) bV (aQ _)))) aO)
   (ag (bt (PW.pt (uA (c_ (cU (az W h1 aL (aa (bh cw (pv 3) (pv 4) (fun _ _=>rfl)) af)))) (oO (aI fu (bh cw (pv 3) (pv 4) (fun _ _=>rfl)) (cM (pv 0) TB.cl mT GT h6 bT .nil aL (aa (pv 5) af)) rfl)))) (ai (aE fV)) aO)
   (ag (bt (aI uD (cM (pv 0) TB.cl mY GY h7 bY .nil iU (aa (pv 5) (aa (bh cw (pv 3) (pv 4) (fun _ _=>rfl)) af))) (cM (pv 0) TB.cl mP GP h6 bP .nil iU (aa (pv 5) (aa (bh cw (pv 1) (pv 4) (fun _ _=>rfl)) af))) (aQ _)) (ai (aE fV)) aO)
   (ai (aE (fW fu (bh cw (pv 3) (pv 4) (fun _ _=>rfl)) (az CY h1 aL (aa (pv 2) (aa (uH zj (pv 3) yy (yz (pv 4))) (aa (pv 5) af)))) rfl))))))),?_⟩
  have Fh:i<xs.length:=by rw[xl];exact hi
  have gx:∀ {H':Hp},av H H'->bK K H' xa xs:=fun s=>bK.of (s _ _ N5);refine⟨_,rfl,_,rfl,sa,_,_,_,rfl,rfl,bK.of hU,aM (jd hi),?_⟩;cases ho:st.getD i none with
  |none=>
   refine⟨_,rfl,rfl,_,rfl,gW ⟨_,rfl,_,rfl,xa,_,_,_,rfl,rfl,gx (av.refl _),aM (qT Fh),rfl,?_⟩⟩;exact q H _ (av.refl _) (by rw[mE,Ka ho])
  |some h=>
  obtain⟨hh,hg,iw⟩:=SN.ok i h ho;obtain⟨p,hp⟩:=qV hh hg iw;have BS:=Gv (ns:=ns) (homes:=homes) (xs:=xs) ho;obtain⟨o,wo⟩:=hW _ (show xs.getD i .bp∈xs by rw[bU,cr Fh];exact gh Fh);refine⟨_,rfl,rfl,_,rfl,dF rfl ?_⟩;refine⟨_,rfl,_,rfl,xa,_,_,_,rfl,rfl,gx (av.refl _),aM (qT Fh),_,o,rfl,wo _ (av.refl _),_,rfl,?_⟩;generalize hx:xs.getD i .bp=x at *;cases o with
  |none=>
   exact gW (gW (q H _ (av.refl _) (by rw[BS];exact⟨fun z=>(nomatch z),fun ⟨y,e,_⟩=>by rw[e] at wo;exact(Gu (wo _ (av.refl _))).elim⟩)))
  |some v=>
  obtain rfl:=mm (wo _ (av.refl _));refine d8 ⟨_,rfl,_,rfl,xa,_,_,_,rfl,rfl,gx (av.refl _),aM (by rw[qT Fh,hx]),_,rfl,b,dx,_,rfl,hb,zo,_,rfl,L,b,ns,h,rfl,BA,hh,fun r H1 s1 Av=>⟨r,_,rfl,.inl (bn.of Av),rfl,lq,_,rfl,?_⟩⟩;by_cases nj:V.int v∈NV (dg (pr ns) (lm ns) h)
  .obtain⟨y,hy,rfl⟩:∃y:Nat,y∈dg (pr ns) (lm ns) h/\v=(y:Int):=by
    obtain⟨y,hy,e⟩:=aX.mp nj;injection e with e;exact⟨y,hy,e.symm⟩
   rw[ak rfl,(uc ud).mpr nj];refine d8 ?_;have ht:((h:Int),(y:Int))∈lm ns:=(dE FI hh).mp hy;have A7:y<pr ns:=r0.mp (FI.rg _ ht).2.2;have Pu:=(DT BX hh A7)
   obtain⟨k,tk⟩:=(ju BX.pos hh A7).mp ht;have DX:=Pu.mpr ⟨k,tk⟩;refine⟨_,rfl,b,dx,_,rfl,s1 _ _ hb,x0,_,rfl,_,rfl,_,rfl,xa,_,_,_,rfl,rfl,gx s1,aM (by rw[qT Fh,hx]),L,b,ns,_,_,some (h:Int),some (y:Int),rfl,BA.same s1,d0,d0,(fun z=>by rw[DX] at z;cases z),fun h' y' _ _ e1 e2 _ H2 s2=>?_⟩;obtain rfl:h=h':=cZ (bi e1);obtain rfl:y=y':=cZ (bi e2);have n6:=s1.trans s2;refine⟨_,rfl,b,dx,_,rfl,n6 _ _ hb,pB,_,rfl,_,rfl,_,rfl,ha,_,_,_,rfl,rfl,bK.of (n6 _ _ mZ),aM (qU (by rw[SN.l];exact hi)),L,b,ns,_,_,some (h:Int),some (homes.getD i 0:Nat),rfl,BA.same n6,d0,d0,(fun z=>by rw[dL hh,dL hg] at z;rcases z with z|z <;> cases z),fun h' g' _ _ e1 e2 H3 s3=>?_⟩;obtain rfl:h=h':=cZ (bi e1);obtain rfl:homes.getD i 0=g':=cZ (bi e2);have DS:=n6.trans s3;refine⟨(k:Int),(p:Int),by rw[iq tk];rfl,by rw[hp];rfl,_,rfl,iT (fun c=>?_) (fun c=>?_)⟩
   .have c:=eY c;refine q H3 _ DS ?_;rw[BS];refine⟨fun z=>(nomatch z),fun ⟨y',e,⟨k',p',e1,t',l⟩,_⟩=>?_⟩;injection e with e;obtain rfl:=cZ e;have a1:=bi ((iq tk).symm.trans (iq t'));have a2:=bi (hp.symm.trans e1);lia
   .have c:k<=p:=by
     by_cases z:k<=p
     .exact z
     .exact absurd (bD (by lia)) c
    refine⟨_,rfl,_,rfl,xa,_,_,_,rfl,rfl,gx DS,aM (by rw[qT Fh,hx]),_,rfl,_,rfl,_,rfl,_,rfl,xa,_,rfl,DS _ _ N5,fun t H4 s4 P1=>?_⟩;rw[DM] at P1;have lt:(xs.take i).length=i:=by rw[kF];lia
    refine⟨_,rfl,sa,t,st,xs.take i,h,rfl,s4 _ _ (DS _ _ hU),P1,by lia,SN.x_,fun r2 H5 s5 zi=>?_⟩;rw[lt] at zi;have pJ:∀v∈((List.range i).filter fun j=>decide (st.getD j none=some h)).map fun j=>(xs.take i).getD j .bp,∃j:Int,v=.int j:=by
     intro v hv;obtain⟨j,hj,rfl⟩:=aX.mp hv;obtain⟨Gx,SF⟩:=du.mp hj;have Gx:=cR.mp Gx;obtain⟨y',e,_⟩:=(hB j Gx).2 h (eY SF);refine⟨y',?_⟩;rw[<-e,bU,bU,on Gx]
    refine⟨r2,_,rfl,.inl (bn.of zi),rfl,NY pJ,?_⟩;rw[ak rfl];refine q H5 _ ((DS.trans s4).trans s5) ?_;rw[BS,Bool.not_eq_true',kC,Ne,uc pJ];constructor
    .intro z;refine⟨y,rfl,⟨k,p,hp,tk,c⟩,fun j hj hs e=>z (aX.mpr ⟨j,du.mpr ⟨cR.mpr hj,bD hs⟩,?_⟩)⟩;rw[<-e,bU,bU,on hj]
    .rintro⟨y',e,_,z⟩ hm;injection e with e;obtain rfl:=cZ e;obtain⟨j,hj,e'⟩:=aX.mp hm;obtain⟨Gx,SF⟩:=du.mp hj;have Gx:=cR.mp Gx;refine z j Gx (eY SF) ?_;rw[<-e',bU,bU,on Gx]
  .have e0:yC (.int v) (NV (dg (pr ns) (lm ns) h))=false:=kC.mpr fun z=>nj ((uc ud).mp z);rw[ak rfl,e0];refine gW (q H1 _ s1 ?_);rw[BS];refine⟨fun z=>(nomatch z),fun ⟨y,e,⟨k,p',e1,t,l⟩,_⟩=>?_⟩;injection e with e;subst e;have hk:k<ns.length:=by rcases t with z|z <;> exact HY z
   have A7:=DU BX FI hh hk t;exact absurd (aX.mpr ⟨y,(dE FI hh).mpr ((ju BX.pos hh A7).mpr ⟨k,t⟩),rfl⟩) nj
theorem DY{H H':Hp}{xs:List V}(h:∀x∈xs,∃o,A5 K H x o)(s:av H H'):∀x∈xs,∃o,A5 K H' x o:=fun x hx=>let ⟨o,w⟩:=h x hx;⟨o,fun H2 s2=>w H2 (s.trans s2)⟩
theorem N8:aw ["box","homes","stand","came","letter"] ["box","homes","stand","came"] (aj SC):=⟨rfl,rfl,rfl,by decide +kernel,rfl,by decide +kernel,by decide +kernel⟩
def Kd(K:PySem.W.Frag)(C CB:Addr):Sp:=fun vs H Q _=>∃ (L:Addr->Prop) (b ha sa xa:Addr) (ns homes:List Nat) (st:List (Option Nat)) (xs:List V),vs=[.ref b,.ref ha,.ref sa,.ref xa]/\dZ C CB H L b ns/\H ha=some (.tup (NV homes))/\H sa=some (.tup (st.map oV))/\H xa=some (.tup xs)/\Sn ns homes st/\(∀x∈xs,∃o,A5 K H x o)/\∀ (H':Hp) (bb:Bool),av H H'->(bb=true↔Wd ns homes st xs)->Q (.bl bb) H'
theorem N9{f C CB:Addr}{fd:FuncData}(F:dR K "is_berthed" "is_berthed" SC f fd)(B:Bl mg)(RW:bJ P w K mg base a_ 1 "is_row" ["thing","length"] (vp K))(BE:bJ P w K mg base a_ 8 "is_berth" ["box","homes","stand","came","letter"] (Kc K C CB)):a9 P w K mg base a_ 9 f fd ["box","homes","stand","came"] (Kd K C CB):=by
 refine F.ok N8 (fun vs H Q E h=>?_) (fun bL A outer s H vs Q E hr h=>?_)
 .obtain⟨L,b,ha,sa,xa,ns,homes,st,xs,rfl,_⟩:=h;rfl
 .obtain⟨L,b,ha,sa,xa,ns,homes,st,xs,rfl,BA,mZ,hU,N5,SN,hW,q⟩:=h;have h1:aZ 1 _:=hr.mono (by decide);have x_:=SN.x_;refine⟨_,(ag (bt (c_ (cU (az RW h1 aL (aa (pv 3) (aa (au aG (by rfl) B.len cY (aa (pv 2) af)) af))))) (ai (aE fV)) aO)
   (ag (bW dQ rfl (a7 rfl B.range (aa (au aG (by rfl) B.len cY (aa (pv 2) af)) af)) (aA (i:=4) N8.nd rfl (Or.inl rfl))
    (ai (bt (c_ (cU (az BE hr aL (aa (pv 0) (aa (pv 1) (aa (pv 2) (aa (pv 3) (aa (pv 4) af)))))))) (ai (aE fV)) aO)))
   (ai (aE fV)))),?_⟩
  refine⟨_,rfl,_,rfl,sa,_,rfl,.inr (bK.of hU),.ref xa,some xs,_,rfl,.tup N5,?_⟩;rw[aW];by_cases hl:xs.length=st.length
  .rw[show Db (some xs) ((st.length:Nat):Int)=true from bD (by rw[hl])];refine⟨_,rfl,dF rfl ?_⟩;refine⟨_,rfl,sa,_,rfl,.inr (bK.of hU),_,rfl,by rw[aW];lia,by rw[aW];lia,?_⟩;rw[aW];refine cC (n:=st.length) (lo:=0) (fun i σ H1=>(∃u,σ=[some (.ref b),some (.ref ha),some (.ref sa),some (.ref xa),u])/\av H H1/\∀j,j<i->Bt ns homes st xs j) ⟨⟨_,rfl⟩,av.refl _,fun j hj=>absurd hj (gm _)⟩ ?_ ?_
   .rintro i σ H1 hi ⟨⟨u,rfl⟩,s1,hB⟩;refine⟨_,rfl,_,rfl,_,rfl,_,rfl,_,rfl,L,b,ha,sa,xa,ns,homes,st,xs,i,by rw[dD];rfl,BA.same s1,s1 _ _ mZ,s1 _ _ hU,s1 _ _ N5,SN,hl,hi,DY hW s1,hB,fun H2 bb s2 hb=>⟨_,rfl,?_⟩⟩;cases bb with
    |false=>exact fm rfl (q H2 _ (s1.trans s2) ⟨fun z=>(nomatch z),fun z=>hb.mpr (z.2 i hi)⟩)
    |true=>
     refine dF rfl ⟨⟨_,rfl⟩,s1.trans s2,fun j hj=>?_⟩;rcases hZ.mp hj with z|z
     .exact hB j z
     .rw[z];exact hb.mp rfl
   .rintro σ H1 ⟨⟨u,rfl⟩,s1,hB⟩;exact q H1 _ s1 ⟨fun _=>⟨hl,hB⟩,fun _=>rfl⟩
  .rw[show Db (some xs) ((st.length:Nat):Int)=false from cV (fun z=>hl (by lia))];exact⟨_,rfl,fm rfl (q H _ (av.refl _) ⟨fun z=>(nomatch z),fun z=>absurd z.1 hl⟩)⟩
end
abbrev SG:Stmt:=fH 61
abbrev SH:Stmt:=fH 62
theorem Ke:(["_law_k","_law_pot_here","_law_many_here"]:List Str).Nodup:=by decide +kernel
theorem Kg{a b:List Nat}:NV a++NV b=NV (a++b):=dJ.symm
theorem DZ{ns:List Nat}{h k:Nat}:(vR ns h k).length<=2:=by
 unfold vR;rw[dP];cases vA ns h k false <;> cases vA ns h k true <;> simp
theorem N_{ns:List Nat}{h k:Nat}(BX:Bx ns)(hk:k<ns.length):vR ns h k≠[]:=by
 have g:=BX.gd hk;unfold vR vA;rw[al (by decide),ak rfl];by_cases c:1<=(cX ns h).getD k 0
 .rw[ak c];intro z;cases z
 .rw[al c,ak (by lia)];intro z;cases z
section
variable {P:Program} {w:World} {K:PySem.W.Frag} {mg:Str->Option Value} {base:Heap}
theorem SJ:aw ["_law_pot_here","_law_many_here"] ["_law_pot_here","_law_many_here"] (aj SG):=⟨rfl,rfl,rfl,by decide +kernel,rfl,by decide +kernel,by decide +kernel⟩
def Kh:Sp:=fun vs H Q _=>∃ (p:Addr) (n:Nat),vs=[.ref p,.int n]/\2<=n/\n<=32/\cq H p/\∀ (r:Addr) (hs:List Nat) (H':Hp),bG p H H'->cq H' p->H r=none->H' r=some (.lst (NV hs))->hs≠[]->hs.length<=32->(∀x∈hs,x<n)->Q (.ref r) H'
theorem Oa{f:Addr}{fd:FuncData}(F:dR K "_law_houses" "_law_houses" SG f fd)(B:Bl mg)(DR:bJ P w K mg base a_ 1 "_law_draw" ["_law_pot_here","_law_many_here"] AC):a9 P w K mg base a_ 2 f fd ["_law_pot_here","_law_many_here"] Kh:=by
 refine F.ok SJ (fun vs H Q E h=>?_) (fun bL A outer s H vs Q E hr h=>?_)
 .obtain⟨p,n,rfl,_⟩:=h;rfl
 .obtain⟨p,n,rfl,n1,n2,hp,q⟩:=h;have h1:aZ 1 _:=hr.mono (by decide);refine'⟨_,(ag (bt (aI ij (az DR h1 aL (aa (pv 0) (aa aB af))) aB (aQ _)) (ai (aE (cD (xC rfl) (by rfl) B.lst rh (aa (cD u3 (by rfl) B.range PyProof.Rows.boot_range (aa (pv 1) af)) af)))) aO)
   (ai (aE ?c1))),?_⟩
  case c1=>
   refine' dG (g:=(bR 0)) (te:=(kL AC [] E0 (bF (a8 1) (bF (a8 2) gU)))) (NB:=["_law_k","_law_pot_here","_law_many_here"]) (src:=[none,some 0,some 1]) (bX (by kernel_rfl)) rfl (a7 rfl B.range (aa (ba dz aB (az DR h1 aL (aa (pv 0) (aa aB af)))) af)) ?g ?t ?e;case g=>exact fun cl C s₃ H₃ fp=>(aA (i:=0) Ke rfl (Or.inl rfl) (Or.inr rfl))
   case t=>exact fun cl C s₃ H₃ fp=>jq
   case e=>exact fun cl C s₃ H₃ fp=>(az DR h1 aL (aa (pv 1) (aa (pv 2) af)))
  refine⟨_,rfl,p,3,rfl,by decide,by decide,hp,fun d H1 hd s1 p1=>⟨rfl,_,rfl,iT (fun e=>?_) (fun e=>?_)⟩⟩
  .refine⟨_,rfl,n,rfl,fun x hx=>⟨x,n,rfl,ah,by lia,fun l hl=>?_⟩⟩;have sx:=(am (o:=.EF 0 (n:Int)) hx).trans (am (o:=.lst ((List.range n).map fun (i:Nat)=>V.int i)) hl);refine q l (List.range n) _ (s1.trans (bG.of sx)) (p1.same sx) ?_ ah (by intro z;have:=congrArg List.length z;rw[iB] at this;simp at this;lia) (by rw[iB];exact n2) fun x hx=>cR.mp hx;exact s1.free p1.full ((am (o:=.EF 0 (n:Int)) hx).free hl)
  .refine⟨_,rfl,p,4,rfl,by decide,by decide,p1,fun d2 H2 SK s2 p2=>⟨_,_,rfl,rfl,_,rfl,by lia,by lia,fun D hD=>?_⟩⟩;rw[show ((1:Int)+(d2:Int)).toNat=1+d2 by lia];have n6:=s1.trans s2;have nD:=p2.ne hD;refine eD (lo:=0) (n:=1+d2) (fun i ys σ H5=>(∃u,σ=[u,some (.ref p),some (.int (n:Int))])/\bG p H2 H5/\cq H5 p/\H5 D=some (.lst ys)/\∃hs:List Nat,ys=NV hs/\hs.length=i/\∀x∈hs,x<n) ⟨⟨_,rfl⟩,bG.of (am hD),p2.same (am hD),ah,[],rfl,rfl,fun x z=>(nomatch z)⟩ ?_ ?_
   .rintro i ys σ H5 Kt Kf hi ⟨⟨u,rfl⟩,s5,p5,vS,hs,rfl,hl,hx⟩ kt kf;refine⟨_,rfl,_,rfl,p,n,rfl,by lia,by lia,p5,fun d3 H6 We s6 p6=>kt _ _ _ (s6 _ _ vS nD) (by rw[bu,hl];exact cG (show i<5 by lia) (by decide)) ⟨⟨_,rfl⟩,?_,p6.put nD.symm,ah,hs++[d3],g_,by rw[dP,hl];rfl,fun x si=>?_⟩⟩
    .exact fun b o e n=>by
      by_cases z:b=D
      .rw[z,hD] at e;cases e
      .rw[ao z];exact(s5.trans s6) b o e n
    .rcases cQ.mp si with z|z
     .exact hx x z
     .rw[cJ.mp z];exact We
   .rintro ys σ H5 ⟨_,s5,p5,vS,hs,rfl,hl,hx⟩;exact q D hs H5 (n6.trans s5) p5 (n6.free p2.full hD) vS (by intro z;rw[z] at hl;simp at hl;lia) (by lia) hx
theorem Gy:aw ["_law_sides_here","_law_house","_law_found_here","_law_k"] ["_law_sides_here","_law_house"] (aj SH):=⟨rfl,rfl,rfl,by decide +kernel,rfl,by decide +kernel,by decide +kernel⟩
def Ki:Sp:=fun vs H Q _=>∃ (a:Addr) (ns:List Nat) (h:Nat),vs=[.ref a,.int h]/\H a=some (.tup (NV ns))/\Bx ns/\∀ (r:Addr) (ys:List Nat) (H':Hp),av H H'->H r=none->H' r=some (.lst (NV ys))->0<ys.length->ys.length<=20->Q (.ref r) H'
theorem Ob{f:Addr}{fd:FuncData}(F:dR K "_law_out" "_law_out" SH f fd)(B:Bl mg)(TI:bJ P w K mg base a_ 3 "_law_ties" ["_law_sides_here","_law_house","_law_k"] DP):a9 P w K mg base a_ 4 f fd ["_law_sides_here","_law_house"] Ki:=by
 refine F.ok Gy (fun vs H Q E h=>?_) (fun bL A outer s H vs Q E hr h=>?_)
 .obtain⟨a,ns,h,rfl,_⟩:=h;rfl
 .obtain⟨a,ns,h,rfl,ha,BX,q⟩:=h;have l5:=BX.l5;have l1:=BX.l1;refine⟨_,(ag (aK (i:=2) Gy.nd rfl (Or.inl rfl) (cu af))
   (ag (bW dQ rfl (a7 rfl B.range (aa (au aG (by rfl) B.len cY (aa (pv 0) af)) af)) (aA (i:=3) Gy.nd rfl (Or.inl rfl))
    (ai (aK (i:=2) Gy.nd rfl (Or.inl rfl) (ba sI (pv 2) (az TI hr aL (aa (pv 0) (aa (pv 1) (aa (pv 3) af))))))))
   (ai (aE (pv 2))))),?_⟩
  refine⟨by show 0<=sizeLine;decide,fun F0 Oc=>?_⟩;have s0:=am (o:=.lst []) Oc;have g0:(upd H F0 (.lst [])) F0=some (.lst (NV [])):=ah;generalize upd H F0 (.lst [])=H0 at *;refine⟨_,rfl,a,_,rfl,.inr (bK.of (s0 _ _ ha)),_,rfl,by rw[bu];lia,by rw[bu];lia,?_⟩;rw[bu];refine cC (n:=ns.length) (lo:=0) (fun k σ H2=>∃ (r:Addr) (ys:List Nat) (z:Option V),σ=[some (.ref a),some (.int (h:Int)),some (.ref r),z]/\av H H2/\H r=none/\H2 r=some (.lst (NV ys))/\ys.length<=2*k/\k<=ys.length) ⟨F0,[],_,rfl,s0,Oc,g0,cS _,cS _⟩ ?_ ?_
  .rintro k σ H2 hk ⟨r,ys,z,rfl,s2,nr,zi,yl,ly⟩;rw[dD];refine⟨_,rfl,_,rfl,_,rfl,_,rfl,a,ns,h,k,rfl,s2 _ _ ha,BX,hk,fun t H3 s3 nt YX=>?_⟩;have t2:=DZ (ns:=ns) (h:=h) (k:=k);have t1:0<(vR ns h k).length:=wj.mpr (N_ BX hk);refine⟨r,t,_,_,rfl,rfl,s3 _ _ zi,YX,by rw[bu,bu];exact bf (show _<=30 by lia) (by decide),fun r2 Az=>?_⟩;refine⟨r2,ys++vR ns h k,_,rfl,(s2.trans s3).trans (am Az),(s2.trans s3).free Az,by rw[ah,<-Kg],by rw[dP];lia,by rw[dP];lia⟩
  .rintro σ H2 ⟨r,ys,z,rfl,s2,nr,zi,yl,ly⟩;exact⟨_,rfl,q r ys H2 s2 nr zi (by lia) (by lia)⟩
end
end nz
namespace L2
open PySem PySem.Spec PyProof.Rows
def yb(scope:Scope)(cy:List (Str×Addr))(qual:Str)(f c L:Addr):Env:=
 { scope:=scope,locals:=L,globals:=mainGlobals,cells:=cy,qual:=qual++".<locals>.",func:=some f,code:=.ref c,frame:=some L,builtins:=builtinsNs }
structure D1(X:Cx)(NB:List Str)(src:List (Option Nat))(scope:Scope)(qual:Str)(params:Arguments)(body:Expr)(y:Str):Prop where
 bs:dS NB src scope X
 bind:∀cy pm c u4 v,bindArgs (PySem.W.kla_fn "<lambda>" qual params body scope cy pm (.ref c) u4) ⟨[v],[]⟩=pure [(y,v)]
 y0:NB[0]?=some y
 s0:src[0]?=some none
 ly:scope.names.lookup y=some .local
 sX:∀z∈scope.names,z.2≠.cell
 co:scope.isCoroutine=false
 gen:scope.isGenerator=false
section
variable {X:Cx} {ae:List (Addr×Obj)} {σ:St} {H:Hp} {s:Shared} {NB:List Str} {src:List (Option Nat)} {scope:Scope} {qual:Str} {params:Arguments} {body:Expr} {y:Str} {cy:List (Str×Addr)} {f c:Addr} {h₁:Heap} {t₁:Nat} {v:V} {u:Value}
end
def AI(a b c d:Int):Bool:=decide (c<a)||(decide (a=c)&&decide (d<b))
section
variable {prog:Program} {w:World} {A:Around} {E:Value->Shared->Prop} {s:Shared}
theorem D4{a c:Int}{t1 t3:Tok}{Q:Value->Shared->Prop}(h:Q (.bool (decide (c<a))) s):wpAny (model prog w) A (richCompare .Gt (.int a t1) (.int c t3)) Q E s:=by
 have cm:=CmpOf.ints_gt (prog:=prog) (w:=w) (A:=A) (P:=fun i v=>(i=0/\v=Value.int a t1)\/(i=1/\v=Value.int c t3)) (fun i=>if i=0 then a else c) (fun i v h=>by
  rcases h with ⟨rfl,rfl⟩|⟨rfl,rfl⟩
  .exact⟨t1,rfl⟩
  .exact⟨t3,rfl⟩)
 exact cm 0 1 _ _ s Q E (.inl ⟨rfl,rfl⟩) (.inr ⟨rfl,rfl⟩) h
theorem Gz{p q:Addr}{a b c d:Int}{t1 t2 t3 t4:Tok}{Q:PySem.Fin->Shared->Prop}(hp:s.heap.IsTuple p #[.int a t1,.int b t2])(hq:s.heap.IsTuple q #[.int c t3,.int d t4])(h:Q (.done (.ret (.bool (AI a b c d)))) s):
  wpAny (model prog w) A (Builtin.«tuple.__gt__» ⟨[.ref p,.ref q],[]⟩) Q E s:=by
 refine ap (m:=slotArgs "__gt__" 1 ⟨[.ref p,.ref q],[]⟩) (oJ (a:=(.ref p,[.ref q])) rfl ?_);refine ap (m:=isInstance (.ref q) (.type "tuple")) (wQ (T:="tuple") (b:=true) hq.typeIs (by rw[isSubtype_type];rfl) ?_);obtain⟨o1,g1,_,n1,d1⟩:=id hp;obtain⟨o2,g2,_,n2,d2⟩:=id hq;refine ap (m:=Builtin.Tuple.tupleItemsOf (.ref p)) (ap (jW g1 d1 (wpAny_pure ?_)));refine ap (m:=Builtin.Tuple.tupleItemsOf (.ref q)) (ap (jW g2 d2 (wpAny_pure ?_)));refine ap ?_;simp only[List.zip_cons_cons,List.zip_nil_right,wK,wO];refine ap (ap (oC ?_));unfold AI at h;by_cases e1:a=c
 .rw[al (by simp[e1])];refine wpAny_pure (ap (ap (oC ?_)));by_cases e2:b=d
  .rw[al (by simp[e2])];refine wpAny_pure (wpAny_pure (wpAny_pure ?_));rw[e1,e2] at h;simp at h;exact h
  .rw[ak (by simp[e2])];refine ap (et (ap (D4 (ap (wpAny_pure (wpAny_pure (wpAny_pure (wpAny_pure ?_))))))));rw[e1] at h;simp at h;exact h
 .rw[ak (by simp[e1])];refine ap (et (ap (D4 (ap (wpAny_pure (wpAny_pure (wpAny_pure (wpAny_pure ?_))))))));rw[cV e1] at h;simp at h;exact h
theorem GA{p q:Addr}{a b c d:Int}{t1 t2 t3 t4:Tok}{Q:Value->Shared->Prop}(hu:A.units<cLine)(hp:s.heap.IsTuple p #[.int a t1,.int b t2])(hq:s.heap.IsTuple q #[.int c t3,.int d t4])(h:Q (.bool (AI a b c d)) s):
  wpAny (model prog w) A (richCompare .Gt (.ref p) (.ref q)) Q E s:=
 wpAny_richCompare_same_room hp.typeIs hq.typeIs PySem.F.slot_tuple_gt (iH PySem.F.slot_tuple_gt hp.typeIs PySem.F.entry_tuple_gt (Gz hp hq ⟨_,rfl,(fun z=>nomatch z),h⟩) (PySem.F.args_tuple_gt_2 _ _)) hu
end
def pC(X:Cx)(NB:List Str)(scope:Scope)(cy:List (Str×Addr))(qual:Str)(f c:Addr)(s:Shared)(H:Hp):Cx:=
 { X with A:=X.A.in1.deeper (yb scope cy qual f c s.heap.objs.size),N:=NB,s₀:=s,H₀:=H,env:=yb scope cy qual f c s.heap.objs.size,outer:=X.stack,stack:=yb scope cy qual f c s.heap.objs.size::X.stack,ex:=[],fn:=fun _=>false,pn:=[],xe:=fun _ _=>False }
section
variable {X:Cx} {ae:List (Addr×Obj)} {σ:St} {H:Hp} {s:Shared} {NB:List Str} {src:List (Option Nat)} {scope:Scope} {qual:Str} {params:Arguments} {body:Expr} {y:Str} {cy:List (Str×Addr)} {f c:Addr} {h₁:Heap} {t₁:Nat} {v:V} {u:Value}
theorem D5(I:aD X ae σ H s)(S:D1 X NB src scope qual params body y)(hd:X.A.handled=none)(c1:∀x c,cy.lookup x=some c->X.env.cells.lookup x=some c)(c2:∀x,(x,NameKind.free)∈scope.names->∃c,cy.lookup x=some c)(hn:h₁.Ns s.heap.objs.size (fun x=>[(y,u)].lookup x))(hk:∀b o,s.heap.get? b=some o->h₁.get? b=some o)(rv:bj v u):
  aD (pC X NB scope cy qual f c s H) [] ((uL src σ).set 0 (some v)) H { s with heap:=h₁,toks:=t₁ }:=by
 have sL:∀x c,cy.lookup x=some c->∃v,s.heap.IsCell c v:=fun x c e=>I.cell x c (c1 x c e);have B:=S.bs;refine⟨⟨I.ok.mod,B.kind,rfl,rfl,aN _,fun x y c e1 e2=>I.ok.inj x y c (c1 x c e1) (c1 y c e2),fun x hx=>?_,(fun x c z e=>by cases z),fun _=>hd,wE I.ok.frames,.inr ⟨rfl,rfl⟩,(fun b hb=>by cases hb),I.bs,bf I.ok.yj I.sz,(fun b o e hb=>by cases hb),(fun b hb=>by cases hb),I.stack,I.nK⟩,
  rfl,I.bare,Un.kept hk,⟨_,hn,fun i x w e1 e2 e3=>?_⟩,fun x c e=>?_,I.br.fresh (aN _),fun x c e=>I.fg x c (c1 x c e),fun p hp=>absurd (show p∈([]:List (Addr×Obj)) from hp) (by simp),I.br.kept hk,?_⟩
 .have hx:scope.names.lookup x=some .cell\/scope.names.lookup x=some .free:=hx;rcases hx with z|z
  .exact absurd rfl (S.sX _ (eX z))
  .exact c2 x (eX z)
 .have e1:NB[i]?=some x:=e1;cases i with
  |zero=>
   rw[S.y0] at e1;cases e1;have hl:0<(uL src σ).length:=by
    unfold uL;rw[aW];exact(cH.mp S.s0).1
   rw[mz hl] at e2;cases e2;exact⟨u,rv,.inl ⟨S.ly,by simp⟩⟩
  |succ i=>
   rw[jN (by lia)] at e2;obtain⟨j,hj,hv⟩:=yD e2;obtain⟨hN,hF⟩:=B.src (i+1) x j e1 hj;obtain⟨m0,Ck,Mr⟩:=I.loc;have xk:=eX hF;have kx:=B.free _ xk rfl;have LY:Lc X.env.scope x:=by
    rcases kx with z|z
    .exact .inr (.inl z)
    .exact .inr (.inr z)
   obtain⟨u',r,l⟩:=Mr j x w hN hv LY;obtain⟨c',hc⟩:=c2 x xk;refine⟨u',r,.inr ⟨.inr hF,c',hc,?_⟩⟩;rcases l with ⟨xm,_⟩|⟨_,c'',e,z⟩
   .have Cm:X.env.scope.names.lookup x=some .local:=xm;rcases kx with z|z <;> (rw[z] at Cm;cases Cm)
   .rw[c1 x c' hc] at e;cases e;obtain⟨o,ho,Br⟩:=z;exact⟨o,hk _ _ ho,Br⟩
 .obtain⟨v,o,ho,Br⟩:=sL x c e;exact⟨v,o,hk _ _ ho,Br⟩
 .show ((uL src σ).set 0 (some v)).length=NB.length;unfold uL;rw[rM,aW];exact B.len
theorem AJ{te:TE}{Q:VK}{k:Nat}(hr:aZ k X.A)(S:D1 X NB src scope qual params body y)(I:aD X ae σ H s)(hf:H f=some (pU f qual params body scope X.env.cells c))(hc:H c=some (kX c qual))(rv:bj v u)(hb:∀cy s H,PE (pC X NB scope cy qual f c s H) body te)(h:te ((uL src σ).set 0 (some v)) H Q):
  wpAny (model X.prog X.w) X.A.in1 (call (.ref f) [u]) (EP X ae σ Q) (fun _ _=>False) s:=by
 obtain⟨cy,pm,u4,c1,c2,IW⟩:=(I.br f _ hf).1;have Ro:s.heap.CodeRec (.ref c) qual:=(I.br c _ hc).1;have CM:X.A.in1.depth<recursionLimit:=by
  have:=hr.dp;show X.A.depth<_;lia
 refine jY (PySem.W.kla_callFunE CM IW rfl S.co S.gen rfl Ro ?_);rw[S.bind];refine wpAny_pure (wpAny_newFunctionEnv S.sX (fun x hx=>by rw[cJ.mp hx];exact S.ly) (fun h₁ u6 M1=>⟨I.nolimit.fresh _ M1,?_⟩) S.bs.kind);have Jl:∀b o,s.heap.get? b=some o->h₁.get? b=some o:=fun b o e=>M1.extBut b o (aY (aU e)) (cf _ e);refine PySem.W.kla_codeExpr ?_;have J:=D5 (f:=f) (c:=c) (t₁:=s.toks+1) I S hr.hd c1 c2 u6 Jl rv;refine eQ (hb cy s H [] _ _ H Q J h) (fun w s' ⟨v',H',J',r',q'⟩=>?_) fun _ _ z=>z.elim;exact⟨v',H',I.Bu (ch:=[]) J'.os J'.base J'.br J'.bare (fun b hb=>by cases hb),r',q'⟩
end
theorem D6{K:PySem.W.Frag}{H H':Hp}{a:Addr}{xs:List V}(h:bn K H a xs)(s:av H H'):bn K H' a xs:=by
 rcases h with (h|⟨o,h⟩)|h
 .exact .inl (.inl (s _ _ h))
 .exact .inl (.inr ⟨o,s _ _ h⟩)
 .exact .inr h
theorem yc{ae:List (Addr×Obj)}{X:Cx}{σ:St}{H':Hp}{s:Shared}{a b:Addr}{oa ob:Obj}{pn:List (Addr×Obj)}(J:aD X pn σ H' s)(sub:∀p∈ae,p∈pn){H:Hp}(fa:fN X ae H a)(fb:fN X ae H b)(na:H' a=none)(nb:H' b=none)(ea:s.heap.get? a=some oa)(eb:s.heap.get? b=some ob)(da:∀v,oa.data≠.cell v)(db:∀v,ob.data≠.cell v):aD X (ae++[(a,oa),(b,ob)]) σ H' s:=J.ji fun p hp=>by
 rcases cQ.mp hp with z|z
 .exact J.pin p (cz _ (sub p z))
 .rcases bo.mp z with z|z
  .subst z;exact⟨ea,na,fa.2.1,fa.2.2.1,da⟩
  .obtain rfl:=cJ.mp z;exact⟨eb,nb,fb.2.1,fb.2.2.1,db⟩
def GC(l:Addr)(j:Nat):Obj:={ cls:=.type "list_iterator",data:=.fields #[.ref l,.int (j:Int) 0] }
section
variable {X:Cx} {ae:List (Addr×Obj)} {σ:St} {H:Hp} {NB:List Str} {src:List (Option Nat)} {scope:Scope} {qual:Str} {params:Arguments} {body:Expr} {y:Str} {f c l it L:Addr} {te:TE} {k:Nat} {ns:List Nat} {ka kb:Nat->Int} {R:Result->Shared->Prop}
def Lx(ns:List Nat)(ka kb:Nat->Int)(j m:Nat):Prop:=m∈ns.take j/\∀n∈ns.take j,AI (ka n) (kb n) (ka m) (kb m)=false
theorem Ic{a b:Int}{its:List Value}(v:aP [.int a,.int b] its):∃t1 t2,its=[.int a t1,.int b t2]:=by
 obtain⟨u,w,rfl,⟨t1,r1⟩,⟨t2,r2⟩⟩:=v.two;exact⟨t1,t2,by rw[r1,r2]⟩
theorem D7(hr:aZ k X.A)(hu:X.A.in1.units<cLine)(SL:X.A.handled=none)(S:D1 X NB src scope qual params body y)(hb:∀cy s H,PE (pC X NB scope cy qual f c s H) body te)(hf:H f=some (pU f qual params body scope X.env.cells c))(hc:H c=some (kX c qual))(hl:bn X.K H l (ns.map fun (x:Nat)=>V.int (x:Int)))(fi:fN X ae H it)(fL:fN X ae H L)(nil:L≠it)(SO:∀n∈ns,∀H',av H H'->te ((uL src σ).set 0 (some (.int (n:Nat)))) H' fun v A8=>∃p,v=.ref p/\A8 p=some (.tup [.int (ka n),.int (kb n)])/\av H' A8)(q:∀ (s':Shared) (H':Hp) (v:V) (u:Value),av H H'->aD X ae σ H' s'->bj v u->(ns=[]/\v=.bp\/∃m,v=.int (m:Nat)/\Lx ns ka kb ns.length m)->R (.ok (.ret u)) s'):
  ∀ (d j:Nat) (s:Shared) (H':Hp) (cnt:Nat) (ob:Option (Nat×Addr×Tok)) (oi:Obj),oi.cls=.type "list_iterator"->oi.data=.fields #[.ref l,.int (j:Int) 0]->ns.length-j=d->j<=ns.length->av H H'->
   aD X (ae++[(it,oi),(L,{ cls:=.type "list",data:=.seq (match ob with|none=>#[]|some (m,p,t)=>#[.int (m:Nat) t,.ref p]) cnt })]) σ H' s->
   (match ob with|none=>j=0|some (m,p,_)=>Lx ns ka kb j m/\H' p=some (.tup [.int (ka m),.int (kb m)]))->
   codeAny (model X.prog X.w) X.A (.builtin "max.loop" ⟨[.ref it,.ref f,.ref L],[("default",.none)]⟩) R s:=by
 have en:(toString "max"++toString ".loop":String)="max.loop":=by decide
 intro d;induction d with
 |zero=>
  intro j s H' cnt ob oi EI SS hd hj sm J Ji;have ej:j=ns.length:=by lia
  subst ej;obtain⟨its,rv,pl,_⟩:=J.list (D6 hl sm);have YY:its.length=ns.length:=by have:=rv.length;rw[aW] at this;exact this.symm
  have ni:=J.pin (it,oi) (cz _ (cz _ (.head _)));have nL:=J.pin (L,_) (cz _ (cz _ (.tail _ (.head _))));refine jV PySem.F.entry_max_loop ?_;rw[ou lx _];refine ap (m:=seqItems? (.ref L)) (jW nL.1 rfl ?_);refine ap (m:=tryCatch (pyNext (.ref it)) _) (rV (wq SL ⟨_,ni.1,EI,SS⟩ pl.isList (by simp[YY]) fun h' eb=>?_));have J1:=(J.ji (pins':=ae) fun p hp=>J.pin p (cz _ (fR _ hp))).turned (t':=s.toks) (h':=h') (it:=it) (fun b o hb q=>eb b o hb q) ni.2.1 fi.2.1 fi.2.2.2.1 fi.2.2.2.2.1 fi.2.2.2.2.2;have gL:h'.get? L=_:=eb L _ nil nL.1;cases ob with
  |none=>
   refine ap (et (wpAny_pure ?_));refine q _ H' .bp .none sm J1 rfl (.inl ⟨?_,rfl⟩);exact Bb Ji
  |some mp=>
   obtain⟨m,p,t⟩:=mp;have s1:=rF h' L (Obj.mapSeq fun _=>(#[]:Array Value));have J2:=J1.turned (t':=s.toks) (h':=h'.update L (Obj.mapSeq fun _=>(#[]:Array Value))) (it:=L) (fun b o hb q=>(s1.2 b hb).trans q) nL.2.1 fL.2.1 fL.2.2.2.1 fL.2.2.2.2.1 fL.2.2.2.2.2;refine ap (m:=updateSeq L (fun _=>#[])) (wpAny_updateSeq gL rfl (ap (wpAny_letGo (wpAny_pure ?_))));exact q _ H' (.int (m:Nat)) _ sm J2 ⟨t,rfl⟩ (.inr ⟨m,rfl,Ji.1⟩)
 |succ d ih=>
  intro j s H' cnt ob oi EI SS hd hj sm J Ji;have jn:j<ns.length:=by lia
  obtain⟨its,rv,pl,_⟩:=J.list (D6 hl sm);have Wf:ns[j]?=some ns[j]:=cr jn;have mn:ns[j]∈ns:=gh jn;obtain⟨u,vO,ru⟩:=rv.get (i:=j) (x:=V.int ((ns[j]:Nat):Int)) (by rw[bA,Wf];rfl);have Ly:ns.take (j+1)=ns.take j++[ns[j]]:=by rw[gg,Wf];rfl
  generalize ns[j]=n0 at *;have ni:=J.pin (it,oi) (cz _ (cz _ (.head _)));have nL:=J.pin (L,_) (cz _ (cz _ (.tail _ (.head _))));refine jV PySem.F.entry_max_loop ?_;rw[ou lx _];refine ap (m:=seqItems? (.ref L)) (jW nL.1 rfl ?_);refine ap (m:=tryCatch (pyNext (.ref it)) _) (rV (wf ⟨_,ni.1,EI,SS⟩ pl.isList (x:=u) (by simpa using vO) fun h' pJ sb=>?_));have J1:=(J.ji (pins':=ae) fun p hp=>J.pin p (cz _ (fR _ hp))).turned (t':=s.toks) (h':=h') (it:=it) (fun b o hb q=>(sb.2 b hb).trans q) ni.2.1 fi.2.1 fi.2.2.2.1 fi.2.2.2.2.1 fi.2.2.2.2.2;have gL:h'.get? L=_:=(sb.2 L nil).trans nL.1;obtain⟨oj,gi,Wg,P3⟩:=pJ;have J2:=yc J1 (fun p hp=>hp) fi fL ni.2.1 nL.2.1 gi gL (fun v z=>by rw[P3] at z;cases z) (fun v z=>by cases z);obtain⟨tu,rfl⟩:∃t,u=Value.int (n0:Int) t:=ru;refine ap (m:=tryCatch (holding [Value.int (n0:Int) tu] (call (.ref f) [.int (n0:Int) tu])) _) (rV (fS (eQ (AJ hr S J2 (sm _ _ hf) (sm _ _ hc) (show bj (.int (n0:Int)) (Value.int (n0:Int) tu) from ⟨tu,rfl⟩) hb (SO n0 mn H' sm)) (fun w uF he=>?_) fun _ _ hF=>hF.elim)));obtain⟨v,A8,J3,ID,pp,rfl,SU,vQ⟩:=he;obtain rfl:w=Value.ref pp:=ID;have Dn:=sm.trans vQ;have mi:=J3.pin (it,oj) (cz _ (cz _ (.head _)));have mL:=J3.pin (L,_) (cz _ (cz _ (.tail _ (.head _))));obtain⟨i1,YZ,p1,_⟩:=J3.tuple (bK.of SU);obtain⟨t1,t2,rfl⟩:=Ic YZ;have put:∀ (m:Nat) (p:Addr) (tm:Tok),Lx ns ka kb (j+1) m->A8 p=some (.tup [.int (ka m),.int (kb m)])->codeAny (model X.prog X.w) X.A (.builtin "max.loop" ⟨[.ref it,.ref f,.ref L],[("default",.none)]⟩) R { uF with heap:=uF.heap.update L (Obj.mapSeq fun _=>#[.int (m:Nat) tm,.ref p]) }:=fun m p tm hB hP=>by
   have s1:=rF uF.heap L (Obj.mapSeq fun _=>(#[.int (m:Nat) tm,.ref p]:Array Value));obtain⟨c2,Kj⟩:∃c2,(uF.heap.update L (Obj.mapSeq fun _=>(#[.int (m:Nat) tm,.ref p]:Array Value))).get? L=some (seqObj "list" #[.int (m:Nat) tm,.ref p] c2):=⟨_,r9 mL.1 fun _=>#[.int (m:Nat) tm,.ref p]⟩
   have J4:=(J3.ji (pins':=ae) fun p hp=>J3.pin p (cz _ (fR _ hp))).turned (t':=uF.toks) (h':=uF.heap.update L (Obj.mapSeq fun _=>(#[.int (m:Nat) tm,.ref p]:Array Value))) (it:=L) (fun b o hb q=>(s1.2 b hb).trans q) mL.2.1 fL.2.1 fL.2.2.2.1 fL.2.2.2.2.1 fL.2.2.2.2.2;have Y0:(uF.heap.update L (Obj.mapSeq fun _=>(#[.int (m:Nat) tm,.ref p]:Array Value))).get? it=some oj:=(s1.2 it (cW nil)).trans mi.1;have J5:=yc J4 (fun p hp=>hp) fi fL mi.2.1 mL.2.1 Y0 Kj (fun v z=>by rw[P3] at z;cases z) (fun v z=>by cases z);exact ih (j+1) _ A8 c2 (some (m,p,tm)) oj Wg P3 (by lia) jn Dn J5 ⟨hB,hP⟩
  cases ob with
  |none=>
   refine ap (m:=updateSeq L (fun _=>#[.int (n0:Int) tu,.ref pp])) (wpAny_updateSeq mL.1 rfl ?_);rw[en];refine wpAny_pure ⟨oH lx _,put n0 pp tu ?_ SU⟩;have j0:j=0:=Ji;subst j0;rw[wN,List.nil_append] at Ly;unfold Lx;rw[Ly];refine⟨cJ.mpr rfl,fun n hn=>?_⟩;rw[cJ.mp hn];unfold AI;simp
  |some mp=>
   obtain⟨m,p,t⟩:=mp;obtain⟨hB,hP⟩:=Ji;have Wi:=vQ _ _ hP;obtain⟨i2,Y1,p2,_⟩:=J3.tuple (bK.of Wi);obtain⟨t3,t4,rfl⟩:=Ic Y1;refine ap (m:=tryCatch (holding [Value.int (n0:Int) tu,.ref pp] (richCompare .Gt (.ref pp) (.ref p) >>= _)) _) (rV (fS (ap (GA hu p1 p2 ?_))));refine ap (fS (iF (ap (wpAny_letGo (wpAny_pure ?_)))));have Y2:∀ {a b c d e f:Int},AI a b c d=true->AI e f c d=false->AI e f a b=false:=fun {a b c d e f} h1 h2=>by
    unfold AI at *;simp only[Bool.or_eq_true,e_,jR,wc,Bool.and_eq_false_iff,rf] at *;lia
   cases hg:AI (ka n0) (kb n0) (ka m) (kb m) with
   |true=>
    rw[ak rfl];refine ap (wpAny_updateSeq mL.1 rfl (ap (wpAny_letGo ?_)));rw[en];refine wpAny_pure ⟨oH lx _,put n0 pp tu ⟨?_,fun n hn=>?_⟩ SU⟩
    .rw[Ly];exact cz _ (cJ.mpr rfl)
    .rw[Ly] at hn;rcases cQ.mp hn with z|z
     .exact Y2 hg (hB.2 n z)
     .rw[cJ.mp z];unfold AI;simp
   |false=>
    rw[al bH];refine ap (wpAny_letGo ?_);rw[en];refine wpAny_pure ⟨oH lx _,?_⟩;refine ih (j+1) _ A8 _ (some (m,p,t)) oj Wg P3 (by lia) jn Dn J3 ⟨⟨?_,fun n hn=>?_⟩,Wi⟩
    .rw[Ly];exact fR _ hB.1
    .rw[Ly] at hn;rcases cQ.mp hn with z|z
     .exact hB.2 n z
     .rw[cJ.mp z];exact hg
theorem D8(a f:Addr):argsOk "max" ⟨[.ref a],[(Str.ofString "key",.ref f),(Str.ofString "default",.none)]⟩:=by unfold argsOk;kernel_rfl
end
def Od(X:Cx)(NB:List Str)(src:List (Option Nat))(qual:Str)(params:Arguments)(body:Expr)(scope:Scope)(te:TE):St->List V->List V->Hp->VK->Prop:=fun σ vs zs H Q=>
 ∃ (l f c:Addr) (ns:List Nat) (ka kb:Nat->Int),vs=[.ref l]/\zs=[.ref f,.bp]/\bn X.K H l (ns.map fun (x:Nat)=>V.int (x:Int))/\H f=some (pU f qual params body scope X.env.cells c)/\H c=some (kX c qual)/\
  (∀n∈ns,∀H',av H H'->te ((uL src σ).set 0 (some (.int (n:Nat)))) H' fun v A8=>∃p,v=.ref p/\A8 p=some (.tup [.int (ka n),.int (kb n)])/\av H' A8)/\
  ∀ (H':Hp) (v:V),av H H'->(ns=[]/\v=.bp\/∃m,v=.int (m:Nat)/\Lx ns ka kb ns.length m)->Q v H'
theorem AK{X:Cx}{NB:List Str}{src:List (Option Nat)}{scope:Scope}{qual:Str}{params:Arguments}{body:Expr}{y:Str}{te:TE}{k:Nat}(hr:aZ k X.A)(SL:X.A.handled=none)(hu:X.A.in1.units<cLine)(S:D1 X NB src scope qual params body y)(hb:∀f c cy s H,PE (pC X NB scope cy qual f c s H) body te):
  xD X "max" ["key","default"] (Od X NB src qual params body scope te):=by
 intro ae s σ H vs zs us ws Q I r rz h;obtain⟨l,f,c,ns,ka,kb,rfl,rfl,hl,hf,hc,SO,q⟩:=h;obtain⟨u1,rfl,r1⟩:=r.one;obtain rfl:u1=Value.ref l:=r1;obtain⟨w1,w2,rfl,Rn,Y3⟩:=rz.two;obtain rfl:w1=Value.ref f:=Rn;obtain rfl:w2=Value.none:=Y3;obtain⟨its,rv,pl,_⟩:=I.list hl;have en:(toString "max"++toString ".loop":String)="max.loop":=by decide
 show wpAny (model X.prog X.w) X.A (call (.builtin "max") [.ref l] [(Str.ofString "key",.ref f),(Str.ofString "default",.none)]) _ _ s;refine kmk_tree PySem.F.kind_max PySem.F.plain_max PySem.F.entry_max (D8 _ _) ?_;refine ap (m:=Builtin.Builtins.bindParams "max" ["key","default"] 0 ⟨[],[(Str.ofString "key",.ref f),(Str.ofString "default",.none)]⟩) (oJ (a:=[some (.ref f),some .none]) rfl ?_);refine ap (wpAny_pure (ap (rL pl.isList ?_)));refine ap (ic ?_);rw[en];have keep:∀b o,s.heap.get? b=some o->((s.heap.push (GC l 0)).push (seqObj "list" #[] 0)).get? b=some o:=fun b o e=>cf _ (cf _ e);have n1:(s.heap.push (GC l 0)).objs.size=s.heap.objs.size+1:=gI ..;have I2:aD X ae σ H { s with heap:=(s.heap.push (GC l 0)).push (seqObj "list" #[] 0) }:=I.kept (t':=s.toks) keep;have fi:fN X ae H s.heap.objs.size:=I.wT (aN _) (I.br.fresh (aN _));have fL:fN X ae H (s.heap.push (GC l 0)).objs.size:=I.wT (by rw[n1];lia) (I.br.fresh (by rw[n1];lia));have gi:((s.heap.push (GC l 0)).push (seqObj "list" #[] 0)).get? s.heap.objs.size=some (GC l 0):=cf _ (cI _ rfl);have gL:((s.heap.push (GC l 0)).push (seqObj "list" #[] 0)).get? (s.heap.push (GC l 0)).objs.size=some (seqObj "list" #[] 0):=cI _ rfl;have J:=yc I2 (fun p hp=>hp) fi fL fi.1 fL.1 gi gL (fun v z=>by cases z) (fun v z=>by cases z);refine wpAny_pure ⟨oH lx _,D7 hr hu SL S (hb f c) hf hc hl fi fL (by rw[n1];lia) SO (fun s' H' v u sm J' Y4 hv=>?_) ns.length 0 _ H 0 none (GC l 0) rfl rfl rfl (cS _) (av.refl _) J rfl⟩;exact⟨v,H',J',Y4,q H' v sm hv⟩
end L2
namespace nz
open PySem L2 ir
theorem D9{α:Type}[DecidableEq α]:∀ {a b:List α},a.Nodup->(∀x∈a,x∈b)->a.length<=b.length
 |[],b,_,_=>cS _
 |x::xs,b,hn,hs=>by
  obtain⟨h1,h2⟩:=dC.mp hn;have hx:x∈b:=hs x bC;have:=D9 (b:=b.erase x) h2 fun y hy=>(rB (fun (e:y=x)=>h1 (e ▸ hy))).mpr (hs y (bz _ hy));rw[re hx] at this;have:0<b.length:=rn hx;rw[dt];lia
theorem Kk{ns:List Nat}{h k:Nat}(BX:Bx ns):(vR ns h k).Nodup:=by
 have pp:0<pr (ns.take k):=DH fun x hx=>BX.pos x (jM hx);unfold vR vA;rw[al (by decide),ak rfl];by_cases c1:1<=(cX ns h).getD k 0
 .rw[ak c1];by_cases c2:(cX ns h).getD k 0+1<ns.getD k 0
  .rw[ak c2];refine dC.mpr ⟨fun z=>?_,dC.mpr ⟨fun z=>(nomatch z),ig⟩⟩;have:=cJ.mp z;lia
  .rw[al c2];exact dC.mpr ⟨fun z=>(nomatch z),ig⟩
 .rw[al c1];by_cases c2:(cX ns h).getD k 0+1<ns.getD k 0
  .rw[ak c2];exact dC.mpr ⟨fun z=>(nomatch z),ig⟩
  .rw[al c2];exact ig
def Oe:List Nat->Nat
 |[]=>0
 |x::xs=>xs.foldl min x
theorem zu:∀ (xs:List Nat) (x:Nat),(xs.foldl min x∈x::xs)/\∀y∈x::xs,xs.foldl min x<=y
 |[],x=>⟨bC,fun y hy=>by rw[cJ.mp hy];exact aN _⟩
 |z::xs,x=>by
  obtain⟨a,b⟩:=zu xs (min x z);refine⟨?_,fun y hy=>?_⟩
  .rcases bo.mp a with e|e
   .show xs.foldl min (min x z)∈_;rw[e];rcases Nat.le_total x z with c|c
    .rw[Nat.min_eq_left c];exact bC
    .rw[Nat.min_eq_right c];exact bz _ bC
   .exact bz _ (bz _ e)
  .have b0:=b (min x z) bC;show xs.foldl min (min x z)<=y;rcases bo.mp hy with rfl|hy
   .exact bf b0 (Nat.min_le_left _ _)
   .rcases bo.mp hy with rfl|hy
    .exact bf b0 (Nat.min_le_right _ _)
    .exact b y (bz _ hy)
theorem Ie{xs:List Nat}(h:xs≠[]):Oe xs∈xs/\∀y∈xs,Oe xs<=y:=by
 cases xs with
 |nil=>exact absurd rfl h
 |cons x xs=>exact zu xs x
def vC(ns us:List Nat)(h k:Nat):List Nat:=(vR ns h k).filter fun y=>decide (y∉us)
def ls(ns us:List Nat)(h:Nat):Nat->Option Nat
 |0=>none
 |m+1=>if vC ns us h m≠[] then some (Oe (vC ns us h m)) else ls ns us h m
def Of(ns us:List Nat)(h m y:Nat):Prop:=∃k,k<m/\y∈vC ns us h k/\∀k',k'<m->∀y'∈vC ns us h k',k'<k\/(k'=k/\y<=y')
theorem n9{ns us:List Nat}{h:Nat}:∀ {m y:Nat},ls ns us h m=some y->Of ns us h m y
 |0,y,e=>by cases e
 |m+1,y,e=>by
  unfold ls at e;by_cases c:vC ns us h m≠[]
  .rw[ak c] at e;obtain rfl:=bi e;obtain⟨a,b⟩:=Ie c;refine⟨m,kD _,a,fun k' hk y' hy=>?_⟩;rcases hZ.mp hk with z|z
   .exact .inl z
   .subst z;exact .inr ⟨rfl,b y' hy⟩
  .rw[al c] at e;obtain⟨k,hk,hy,a⟩:=n9 e;refine⟨k,dB hk,hy,fun k' xm y' Kl=>?_⟩;rcases hZ.mp xm with z|z
   .exact a k' z y' Kl
   .subst z;have c:vC ns us h k'=[]:=wD.mp c;rw[c] at Kl;cases Kl
theorem ue{ns us:List Nat}{h:Nat}:∀ {m:Nat},ls ns us h m=none->∀k,k<m->vC ns us h k=[]
 |0,_,k,hk=>absurd hk (gm _)
 |m+1,e,k,hk=>by
  unfold ls at e;by_cases c:vC ns us h m≠[]
  .rw[ak c] at e;cases e
  .rw[al c] at e;rcases hZ.mp hk with z|z
   .exact ue e k z
   .subst z;exact wD.mp c
theorem Km{ns us:List Nat}{h m y:Nat}(H:Of ns us h m y):ls ns us h m=some y:=by
 obtain⟨k,hk,hy,a⟩:=H;cases e:ls ns us h m with
 |none=>rw[ue e k hk] at hy;cases hy
 |some z=>
  obtain⟨k',xm,hz,b⟩:=n9 e;have a1:=a k' xm z hz;have b1:=b k hk y hy;congr 1;rcases a1 with a1|⟨_,a2⟩ <;> rcases b1 with b1|⟨_,b2⟩ <;> lia
def kr(st cs:List (Option Nat))(h:Nat):List Nat:=((List.range cs.length).filter fun j=>decide (st.getD j none=some h)).map fun j=>(cs.getD j none).getD 0
def jv(ns homes:List Nat)(st:List (Option Nat)):Nat->Option (List (Option Nat))
 |0=>some []
 |i+1=>match jv ns homes st i with
  |none=>none
  |some cs=>match st.getD i none with
   |none=>some (cs++[none])
   |some h=>match ls ns (kr st cs h) h ((lj ns h (homes.getD i 0)).getD 0+1) with
    |none=>none
    |some y=>some (cs++[some y])
structure Gr(ns homes:List Nat)(st:List (Option Nat))(i:Nat)(cs:List (Option Nat)):Prop where
 len:cs.length=i
 bp:∀j,j<i->st.getD j none=none->cs.getD j none=none
 ok:∀j h,j<i->st.getD j none=some h->∃y k p,cs.getD j none=some y/\lj ns h (homes.getD j 0)=some p/\xX ns h y k/\k<=p/\(∀j',j'<j->st.getD j' none=some h->cs.getD j' none≠some y)/\
  ∀y' k',k<k'->k'<=p->xX ns h y' k'->∃j',j'<j/\st.getD j' none=some h/\cs.getD j' none=some y'
theorem Kn{st cs:List (Option Nat)}{h y:Nat}(hc:∀j,j<cs.length->st.getD j none=some h->∃z,cs.getD j none=some z):y∈kr st cs h↔∃j,j<cs.length/\st.getD j none=some h/\cs.getD j none=some y:=by
 unfold kr;rw[aX];constructor
 .rintro⟨j,hj,rfl⟩;obtain⟨a,b⟩:=du.mp hj;have a:=cR.mp a;have b:=eY b;obtain⟨z,hz⟩:=hc j a b;exact⟨j,a,b,by rw[hz];rfl⟩
 .rintro⟨j,a,b,e⟩;exact⟨j,du.mpr ⟨cR.mpr a,bD b⟩,by rw[e];rfl⟩
theorem Gr.us{ns homes:List Nat}{st cs:List (Option Nat)}{i h y:Nat}(G:Gr ns homes st i cs):y∈kr st cs h↔∃j,j<i/\st.getD j none=some h/\cs.getD j none=some y:=by
 have:=Kn (st:=st) (cs:=cs) (h:=h) (y:=y) fun j hj e=>let ⟨y,_,_,a,_⟩:=G.ok j h (by rw[<-G.len];exact hj) e;⟨y,a⟩;rw[this,G.len]
theorem SV{α:Type}{l:List α}{x d:α}{j:Nat}(h:j<l.length):(l++[x]).getD j d=l.getD j d:=by
 rw[bU,my h,bU]
theorem P6{α:Type}{l:List α}{x d:α}{k:Nat}(e:l.length=k):(l++[x]).getD k d=x:=by
 subst e;rw[bU,qc (aN _),Nat.sub_self];rfl
theorem Gr.snoc{ns homes:List Nat}{st cs:List (Option Nat)}{i:Nat}{o:Option Nat}(G:Gr ns homes st i cs)(hn:st.getD i none=none->o=none)(hs:∀h,st.getD i none=some h->∃y k p,o=some y/\lj ns h (homes.getD i 0)=some p/\xX ns h y k/\k<=p/\y∉kr st cs h/\∀y' k',k<k'->k'<=p->xX ns h y' k'->y'∈kr st cs h):Gr ns homes st (i+1) (cs++[o]):=by
 have gl:∀ {j:Nat},j<i->(cs++[o]).getD j none=cs.getD j none:=fun hj=>SV (by rw[G.len];exact hj);refine⟨by rw[dP,G.len];rfl,fun j hj e=>?_,fun j h hj e=>?_⟩
 .rcases hZ.mp hj with z|z
  .rw[gl z];exact G.bp j z e
  .rw[z,P6 G.len];exact hn (z ▸ e)
 .rcases hZ.mp hj with z|z
  .obtain⟨y,k,p,a1,a2,a3,a4,a5,a6⟩:=G.ok j h z e;refine⟨y,k,p,by rw[gl z];exact a1,a2,a3,a4,fun j' Hv e'=>by rw[gl (by lia)];exact a5 j' Hv e',fun y' k' b1 b2 b3=>?_⟩;obtain⟨j',c1,c2,c3⟩:=a6 y' k' b1 b2 b3;exact⟨j',c1,c2,by rw[gl (by lia)];exact c3⟩
  .subst z;obtain⟨y,k,p,a1,a2,a3,a4,a5,a6⟩:=hs h e;refine⟨y,k,p,by rw[P6 G.len];exact a1,a2,a3,a4,fun j' Hv e' q=>a5 ?_,fun y' k' b1 b2 b3=>?_⟩
   .rw[gl Hv] at q;exact G.us.mpr ⟨j',Hv,e',q⟩
   .obtain⟨j',c1,c2,c3⟩:=G.us.mp (a6 y' k' b1 b2 b3);exact⟨j',c1,c2,by rw[gl c1];exact c3⟩
theorem mr{ns us:List Nat}{h k y:Nat}(BX:Bx ns)(hk:k<ns.length):y∈vC ns us h k↔xX ns h y k/\y∉us:=by
 unfold vC;rw[du,xZ BX.pos hk,mE]
theorem qW{ns homes:List Nat}{st:List (Option Nat)}(BX:Bx ns)(SN:Sn ns homes st):∀ {i:Nat} {cs:List (Option Nat)},i<=st.length->jv ns homes st i=some cs->Gr ns homes st i cs
 |0,cs,_,e=>by
  obtain rfl:=bi e;exact⟨rfl,fun j hj=>absurd hj (gm _),fun j h hj=>absurd hj (gm _)⟩
 |i+1,cs,hi,e=>by
  unfold jv at e;cases e0:jv ns homes st i with
  |none=>rw[e0] at e;cases e
  |some c0=>
   rw[e0] at e;have G:=qW BX SN (jS hi) e0;cases eh:st.getD i none with
   |none=>
    rw[eh] at e;obtain rfl:=bi e;exact G.snoc (fun _=>rfl) fun h z=>by rw[eh] at z;cases z
   |some h=>
    rw[eh] at e;obtain⟨hh,hg,ne⟩:=SN.ok i h eh;obtain⟨p,hp⟩:=qV hh hg ne;dsimp only at e;rw[hp] at e;have pl:=(ll hp).1;cases ec:ls ns (kr st c0 h) h (p+1) with
    |none=>
     have e:(match ls ns (kr st c0 h) h (p+1) with|none=>none|some y=>some (c0++[some y]))=some cs:=e;rw[ec] at e;cases e
    |some y=>
     have e:(match ls ns (kr st c0 h) h (p+1) with|none=>none|some y=>some (c0++[some y]))=some cs:=e;rw[ec] at e;obtain rfl:=bi e;refine G.snoc (fun z=>by rw[eh] at z;cases z) fun h' z=>?_;rw[eh] at z;obtain rfl:=bi z;obtain⟨k,hk,hy,a⟩:=n9 ec;obtain⟨t,nu⟩:=(mr BX (by lia)).mp hy;refine⟨y,k,p,rfl,hp,t,by lia,nu,fun y' k' b1 b2 b3=>vY fun z=>?_⟩;have:=a k' (by lia) y' ((mr BX (by lia)).mpr ⟨b3,z⟩);lia
theorem Gr.Y5{ns homes:List Nat}{st cs:List (Option Nat)}(G:Gr ns homes st st.length cs):Wd ns homes st (cs.map oV):=by
 have gd:∀j,(cs.map oV).getD j .bp=oV (cs.getD j none):=fun j=>by
  rw[bU,bA,bU];cases cs[j]? <;> rfl
 have oi:∀ {o:Option Nat} {y:Nat},oV o=.int (y:Int)->o=some y:=fun {o y} h=>by
  cases o with
  |none=>cases h
  |some z=>injection h with h;rw[cZ h]
 refine⟨by rw[aW,G.len],fun i hi=>⟨fun e=>by rw[gd,G.bp i hi e];rfl,fun h e=>?_⟩⟩;obtain⟨y,k,p,a1,a2,a3,a4,a5,_⟩:=G.ok i h hi e;exact⟨y,by rw[gd,a1];rfl,⟨k,p,a2,a3,a4⟩,fun j hj e' z=>a5 j hj e' (oi (by rw[<-gd];exact z))⟩
def Ig(ns homes:List Nat)(st:List (Option Nat))(h k:Nat):List Nat:=(List.range st.length).filter fun i=>decide (st.getD i none=some h/\(lj ns h (homes.getD i 0)).getD 0<=k)
def AL(ns:List Nat)(h:Nat):Nat->List Nat
 |0=>[]
 |m+1=>AL ns h m++vR ns h m
theorem hV{ns:List Nat}{h y:Nat}(BX:Bx ns):∀ {m:Nat},m<=ns.length->(y∈AL ns h m↔∃k,k<m/\xX ns h y k)
 |0,_=>⟨fun z=>(nomatch z),fun ⟨k,hk,_⟩=>absurd hk (gm _)⟩
 |m+1,hm=>by
  unfold AL;rw[cQ,hV BX (jS hm),xZ BX.pos hm];constructor
  .rintro(⟨k,a,b⟩|b)
   .exact⟨k,dB a,b⟩
   .exact⟨m,kD _,b⟩
  .rintro⟨k,a,b⟩;rcases hZ.mp a with z|z
   .exact .inl ⟨k,z,b⟩
   .exact .inr (z ▸ b)
theorem D_{ns:List Nat}{h:Nat}(BX:Bx ns):∀ {m:Nat},m<=ns.length->(AL ns h m).Nodup
 |0,_=>ig
 |m+1,hm=>by
  unfold AL;refine rE.mpr ⟨D_ BX (jS hm),Kk BX,fun a ha b hb e=>?_⟩;subst e;obtain⟨k,hk,t⟩:=(hV BX (jS hm)).mp ha;have:=bi ((iq t).symm.trans (iq ((xZ BX.pos hm).mp hb)));lia
def Ea(ns homes:List Nat)(st:List (Option Nat))(h k:Nat):Prop:=(AL ns h (k+1)).length<(Ig ns homes st h k).length
theorem pD{ns homes:List Nat}{st:List (Option Nat)}{h k i:Nat}:i∈Ig ns homes st h k↔i<st.length/\st.getD i none=some h/\(lj ns h (homes.getD i 0)).getD 0<=k:=by
 unfold Ig;rw[du,cR,mE]
theorem GD{ns homes:List Nat}{st cs:List (Option Nat)}(BX:Bx ns)(G:Gr ns homes st st.length cs){h k:Nat}(hk:k<ns.length):¬ Ea ns homes st h k:=fun C=>by
 have nd:((Ig ns homes st h k).map fun i=>(cs.getD i none).getD 0).Nodup:=by
  unfold List.Nodup;rw[kB];refine(rH.filter _).imp_of_mem fun {a b} ha hb ne e=>?_;obtain⟨a1,a2,_⟩:=pD.mp ha;obtain⟨b1,b2,_⟩:=pD.mp hb;obtain⟨y,_,_,ya,_,_,_,ua,_⟩:=G.ok a h a1 a2;obtain⟨z,_,_,zb,_,_,_,ub,_⟩:=G.ok b h b1 b2;rw[ya,zb] at e;have e:y=z:=e;subst e;rcases Nat.lt_trichotomy a b with c|c|c
  .exact ub a c a2 ya
  .exact ne c
  .exact ua b c b2 zb
 have:=D9 nd (b:=AL ns h (k+1)) fun y hy=>by
  obtain⟨i,hi,rfl⟩:=aX.mp hy;obtain⟨a1,a2,a3⟩:=pD.mp hi;obtain⟨y,k',p,ya,hp,t,kp,_⟩:=G.ok i h a1 a2;rw[hp] at a3;have a3:p<=k:=a3;rw[ya];exact(hV BX hk).mpr ⟨k',by lia,t⟩
 rw[aW] at this;unfold Ea at C;lia
theorem Ko{P:Nat->Prop}{p d:Nat}(hp:P p)(hd:p<d):∃K,p<=K/\K<d/\P K/\(K+1<d->¬ P (K+1)):=by
 have go:∀m,p+m<d->∃K,p<=K/\K<d/\P K/\(K+1<d->K+1<=p+m->¬ P (K+1)):=fun m=>by
  induction m with
  |zero=>exact fun h=>⟨p,aN _,hd,hp,fun _ h2=>absurd h2 (by lia)⟩
  |succ m ih=>
   intro h;obtain⟨K,a,b,c,e⟩:=ih (by lia);by_cases z:P (p+(m+1))
   .exact⟨p+(m+1),by lia,h,z,fun _ h2=>absurd h2 (by lia)⟩
   .refine⟨K,a,b,c,fun h1 h2=>?_⟩;rcases rY K (p+m) with y|y
    .exact e h1 (by lia)
    .have:K+1=p+(m+1):=by lia
     rw[this];exact z
 obtain⟨K,a,b,c,e⟩:=go (d-1-p) (by lia);exact⟨K,a,b,c,fun h=>e h (by lia)⟩
theorem vD{ns homes:List Nat}{st:List (Option Nat)}(BX:Bx ns)(SN:Sn ns homes st):∀ {i:Nat},i<=st.length->jv ns homes st i=none->∃h k,h<pr ns/\k<ns.length/\Ea ns homes st h k
 |0,_,e=>by cases e
 |i+1,hi,e=>by
  cases e0:jv ns homes st i with
  |none=>exact vD BX SN (jS hi) e0
  |some c0=>
   unfold jv at e;rw[e0] at e;have G:=qW BX SN (jS hi) e0;cases eh:st.getD i none with
   |none=>rw[eh] at e;cases e
   |some h=>
    rw[eh] at e;obtain⟨hh,hg,ne⟩:=SN.ok i h eh;obtain⟨p,hp⟩:=qV hh hg ne;dsimp only at e;rw[hp] at e;have pl:=(ll hp).1;have e:(match ls ns (kr st c0 h) h (p+1) with|none=>none|some y=>some (c0++[some y]))=none:=e;cases ec:ls ns (kr st c0 h) h (p+1) with
    |some y=>rw[ec] at e;cases e
    |none=>
     have all:=ue ec;obtain⟨K,k1,k2,k3,k4⟩:=Ko (P:=fun K=>∀y∈AL ns h (K+1),y∈kr st c0 h) (p:=p) (d:=ns.length) (fun y hy=>by
      obtain⟨k,hk,t⟩:=(hV BX pl).mp hy;refine vY fun z=>?_;have:=(mr (us:=kr st c0 h) BX (by lia)).mpr ⟨t,z⟩;rw[all k hk] at this;cases this) pl
     refine⟨h,K,hh,k2,?_⟩;have SW:∀j y k,j<i->st.getD j none=some h->c0.getD j none=some y->xX ns h y k->k<=K->(lj ns h (homes.getD j 0)).getD 0<=K:=fun j y k hj ej ey t kK=>by
      obtain⟨y2,q,pj,b1,b2,b3,b4,_,b6⟩:=G.ok j h hj ej;rw[b2];show pj<=K;rw[ey] at b1;obtain rfl:=bi b1;have ekq:=bi ((iq t).symm.trans (iq b3));have pjl:=(ll b2).1;refine vY fun z=>?_;refine k4 (by lia) fun y' Kl=>?_;obtain⟨k',xm,t'⟩:=(hV BX (by lia)).mp Kl;rcases hZ.mp xm with z'|z'
      .exact k3 y' ((hV BX k2).mpr ⟨k',z',t'⟩)
      .obtain⟨j',c1,c2,c3⟩:=b6 y' k' (by lia) (by lia) t';exact G.us.mpr ⟨j',by lia,c2,c3⟩
     have im:i∈Ig ns homes st h K:=pD.mpr ⟨hi,eh,by rw[hp];exact k1⟩;have:=D9 (D_ (h:=h) BX (show K+1<=ns.length from k2)) (b:=((Ig ns homes st h K).erase i).map fun j=>(c0.getD j none).getD 0) fun y hy=>by
      obtain⟨k,hk,t⟩:=(hV BX k2).mp hy;obtain⟨j,d1,d2,d3⟩:=G.us.mp (k3 y hy);refine aX.mpr ⟨j,(rB (by lia)).mpr (pD.mpr ⟨by lia,d2,SW j y k d1 d2 d3 t (by lia)⟩),by rw[d3];rfl⟩
     rw[aW,re im] at this;have pos:=rn im;unfold Ea;lia
abbrev SX:Stmt:=fH 25
abbrev Lz:Stmt:=fH 26
def Kp(st:Stmt)(i:Nat):Expr:=match (bq st).getD i (.Pass ⟨0,0,0,0⟩) with
 |.Return (some (.Call _ _ (k::_) _)) _=>k.value
 |_=>.Name "x" ⟨0,0,0,0⟩
def Y6:Expr->Arguments
 |.Lambda a _ _ _=>a
 |_=>{ posonlyargs:=[],args:=[],vararg:=none,kwonlyargs:=[],kw_defaults:=[],kwarg:=none,defaults:=[] }
def Wj:Expr->Expr
 |.Lambda _ b _ _=>b
 |e=>e
def Wk:Expr->Scope
 |.Lambda _ _ s _=>s
 |_=>{ kind:=.function,names:=[],isGenerator:=false,isCoroutine:=false }
def Y7:Expr->Pos
 |.Lambda _ _ _ p=>p
 |_=>⟨0,0,0,0⟩
def LA:Expr:=Kp Lz 4
def SY:Str:=("free_berth":Str)++".<locals>."++"<lambda>"
abbrev jz(Pb:Addr)(H:Hp):Prop:=eN (Y7 LA) SY Pb H
def m3(Pb:Addr)(H H':Hp):Prop:=∀b o,H b=some o->b≠Pb->H' b=some o
theorem m3.of{Pb:Addr}{H H':Hp}(s:av H H'):m3 Pb H H':=fun b o e _=>s b o e
theorem m3.trans{Pb:Addr}{H H' A8:Hp}(a:m3 Pb H H')(b:m3 Pb H' A8):m3 Pb H A8:=fun c o e n=>b c o (a c o e n) n
theorem dH{lp:Pos}{q:Str}{Pt:Addr}{H:Hp}(t:eN lp q Pt H){b:Addr}{o:HO}(h:H b=some o)(n:∀ps,o≠.mH ps):b≠Pt:=by
 rintro rfl;rcases t with z|⟨c,z,_⟩ <;> · rw[h] at z;exact n _ (bi z)
theorem hX{lp:Pos}{q:Str}{Pt:Addr}{H H':Hp}(t:eN lp q Pt H)(e:av H H'):eN lp q Pt H':=by
 rcases t with z|⟨c,z,y⟩
 .exact .inl (e _ _ z)
 .exact .inr ⟨c,e _ _ z,e _ _ y⟩
theorem dZ.keep{C CB b:Addr}{H H':Hp}{L:Addr->Prop}{ns:List Nat}(h:dZ C CB H L b ns)(k:∀a o,H a=some o->(L a\/((∀xs,o≠.lst xs)/\∀ps,o≠.mH ps))->H' a=some o):dZ C CB H' L b ns:=by
 obtain⟨dx,pn,sr,a,c,d⟩:=h.ob;obtain⟨_,_,_,_,g,_⟩:=c.ob;exact⟨h.bx,dx,pn,sr,k _ _ a (.inr ⟨fun _ z=>(nomatch z),fun _ z=>(nomatch z)⟩),c.keep (fun q o l e=>k _ _ e (.inl l)) (fun o e=>k _ _ e (.inr (by rw[g] at e;injection e with e;subst e;exact⟨fun _ z=>(nomatch z),fun _ z=>(nomatch z)⟩))),k _ _ d (.inr ⟨fun _ z=>(nomatch z),fun _ z=>(nomatch z)⟩)⟩
theorem dZ.P7{lp:Pos}{q:Str}{C CB b Pb:Addr}{H H':Hp}{L:Addr->Prop}{ns:List Nat}(h:dZ C CB H L b ns)(t:eN lp q Pb H)(nl:¬ L Pb)(s:m3 Pb H H'):dZ C CB H' L b ns:=h.keep fun a o e z=>s a o e (z.elim (fun l x=>nl (x ▸ l)) fun z=>dH t e z.2)
theorem aZ.SZ{k:Nat}{A:Around}(r:aZ (k+2) A)(env:Env):aZ k (A.in1.deeper env):=r.in1.deeper env
def vE(ns:List Nat)(h y:Nat):Nat:=(lj ns h y).getD 0
def Kq(ns us:List Nat)(h p:Nat):List Nat:=(dg (pr ns) (lm ns) h).filter fun y=>decide (y∉us)&&decide (vE ns h y<=p)
theorem yd{ns us:List Nat}{h p y:Nat}(BX:Bx ns)(FI:i6 (pr ns) (lm ns))(hh:h<pr ns)(hp:p<ns.length):y∈Kq ns us h p↔∃k,k<=p/\xX ns h y k/\y∉us:=by
 unfold Kq;rw[du,e_,mE,mE,dE FI hh];constructor
 .rintro⟨a,b,c⟩;have A7:y<pr ns:=r0.mp (FI.rg _ a).2.2;obtain⟨k,t⟩:=(ju BX.pos hh A7).mp a;unfold vE at c;rw[iq t] at c;exact⟨k,c,t,b⟩
 .rintro⟨k,a,t,b⟩;refine⟨(ju BX.pos hh (DU BX FI hh (by lia) t)).mpr ⟨k,t⟩,b,?_⟩;unfold vE;rw[iq t];exact a
theorem Og{ns us:List Nat}{h p:Nat}(BX:Bx ns)(FI:i6 (pr ns) (lm ns))(hh:h<pr ns)(hp:p<ns.length){v:V}(H:Kq ns us h p=[]/\v=.bp\/∃m,v=.int (m:Nat)/\Lx (Kq ns us h p) (fun y=>(vE ns h y:Nat)) (fun y=>-(y:Int)) (Kq ns us h p).length m):v=oV (ls ns us h (p+1)):=by
 rcases H with ⟨e,rfl⟩|⟨m,rfl,hm,hb⟩
 .cases c:ls ns us h (p+1) with
  |none=>rfl
  |some y=>
   obtain⟨k,hk,hy,_⟩:=n9 c;obtain⟨t,nu⟩:=(mr BX (by lia)).mp hy;have:=(yd (us:=us) BX FI hh hp).mpr ⟨k,by lia,t,nu⟩;rw[e] at this;cases this
 .rw[iC] at hm hb;obtain⟨k,hk,t,nu⟩:=(yd BX FI hh hp).mp hm;rw[Km (y:=m) ⟨k,by lia,(mr BX (by lia)).mpr ⟨t,nu⟩,fun k' xm y' Kl=>?_⟩]
  .rfl
  .obtain⟨t',Y8⟩:=(mr BX (by lia)).mp Kl;have w1:vE ns h m=k:=by unfold vE;rw[iq t];rfl
   have w2:vE ns h y'=k':=by unfold vE;rw[iq t'];rfl
   have this:AI (vE ns h y':Nat) (-(y':Int)) (vE ns h m:Nat) (-(m:Int))=false:=hb y' ((yd BX FI hh hp).mpr ⟨k',by lia,t',Y8⟩);rw[w1,w2] at this;unfold AI at this;simp only[wc,Bool.and_eq_false_iff,rf] at this;lia
theorem zw{x:Nat}{xs:List Nat}:yC (.int (x:Int)) (NV xs)=decide (x∈xs):=by
 rw[jT,uc ud,mE];unfold NV;rw[aX];exact⟨fun ⟨y,hy,e⟩=>by injection e with e;rw[<-cZ e];exact hy,fun h=>⟨x,h,rfl⟩⟩
section
variable {P:Program} {w:World} {K:PySem.W.Frag} {mg:Str->Option Value} {base:Heap}
def Eb:Sp:=fun vs H Q _=>∃ (sa ca:Addr) (st cs:List (Option Nat)) (h:Nat),vs=[.ref sa,.ref ca,.int h]/\H sa=some (.tup (st.map oV))/\H ca=some (.lst (cs.map oV))/\cs.length<=st.length/\st.length<=16/\(∀j,j<cs.length->st.getD j none=some h->∃z,cs.getD j none=some z)/\
 ∀ (r:Addr) (H':Hp),av H H'->H' r=some (.lst (NV (kr st cs h)))->Q (.ref r) H'
theorem Kr{f:Addr}{fd:FuncData}(F:dR K "came_by_at" "came_by_at" P0 f fd)(B:Bl mg):a9 P w K mg base a_ 1 f fd ["stand","came","house"] Eb:=by
 refine F.ok N0 (fun vs H Q E h=>?_) (fun bL A outer s H vs Q E hr h=>?_)
 .obtain⟨sa,ca,st,cs,h,rfl,_⟩:=h;rfl
 .obtain⟨sa,ca,st,cs,h,rfl,hU,DV,ly,x_,hz,q⟩:=h;refine'⟨_,(ai (aE ?c1)),?_⟩;case c1=>
   refine' dG (g:=(bR 0)) (tt:=(ik (kJ L7 (kJ (xh K) (a8 2) (a8 0)) (a8 3)))) (te:=(kJ (zL K) (a8 1) (a8 0))) (NB:=["letter","came","stand","house"]) (src:=[none,some 1,some 0,some 2]) (bX (by kernel_rfl)) rfl (a7 rfl B.range (aa (au aG (by rfl) B.len cY (aa (pv 1) af)) af)) ?g ?t ?e;case g=>exact fun cl C s₃ H₃ fp=>(aA (i:=0) zn rfl (Or.inl rfl) (Or.inr rfl))
   case t=>exact fun cl C s₃ H₃ fp=>dj (aI ij (bh cw (pv 2) (pv 0) (fun _ _=>rfl)) (pv 3) (aQ _))
   case e=>exact fun cl C s₃ H₃ fp=>(bh bv (pv 1) (pv 0) (fun _ _=>rfl))
  refine⟨_,rfl,ca,_,rfl,.inl (bn.of DV),_,rfl,by rw[aW];lia,by rw[aW];lia,fun D hD=>?_⟩;rw[aW];refine lr (lo:=0) (n:=cs.length) (fun j=>decide (st.getD j none=some h)) (fun j=>V.int ((cs.getD j none).getD 0:Nat)) (fun σ=>∃u,σ=[u,some (.ref ca),some (.ref sa),some (.int (h:Int))]) hD (by lia) ⟨_,rfl⟩ ?_ ?_
  .rintro j σ H5 Kt Kf hj ⟨u,rfl⟩ s5 kt kf;rw[dD];refine⟨_,rfl,_,rfl,sa,_,_,_,rfl,rfl,bK.of (s5 _ _ hU),aM (jd (by lia)),_,rfl,t_,_,rfl,?_⟩;rw[zq];refine iT (fun c=>?_) (fun c=>kf _ _ ⟨_,rfl⟩ (av.refl _) (kC.mpr c));obtain⟨z,ez⟩:=hz j hj (eY c);have kt:=kt [some (.int (j:Int)),some (.ref ca),some (.ref sa),some (.int (h:Int))] H5 ⟨_,rfl⟩ (av.refl _) c;rw[ez] at kt;exact⟨_,rfl,_,rfl,ca,_,_,_,rfl,rfl,bn.of (s5 _ _ DV),aM (show (cs.map oV)[j]?=some (.int (z:Int)) by rw[jd hj,ez];rfl),kt⟩
  .intro H5 s5 vS;refine q D H5 s5 ?_;rw[vS];show _=some (HO.lst ((kr st cs h).map fun (x:Nat)=>V.int (x:Int)));unfold kr;rw[fc];rfl
theorem Ec:(["other","used","box","house","phase"]:List Str).Nodup:=by decide +kernel
theorem Ed:aw ["box","homes","stand","came","letter","house","phase","used","free"] ["box","homes","stand","came","letter"] (aj Lz):=⟨rfl,rfl,rfl,by decide +kernel,rfl,by decide +kernel,by decide +kernel⟩
def Ks(C CB Pb:Addr):Sp:=fun vs H Q _=>∃ (L:Addr->Prop) (b ha sa ca:Addr) (ns homes:List Nat) (st cs:List (Option Nat)) (i h p:Nat),vs=[.ref b,.ref ha,.ref sa,.ref ca,.int i]/\dZ C CB H L b ns/\H ha=some (.tup (NV homes))/\H sa=some (.tup (st.map oV))/\H ca=some (.lst (cs.map oV))/\Sn ns homes st/\Gr ns homes st i cs/\i<st.length/\st.getD i none=some h/\lj ns h (homes.getD i 0)=some p/\jz Pb H/\¬ L Pb/\
 ∀H',jz Pb H'->m3 Pb H H'->Q (oV (ls ns (kr st cs h) h (p+1))) H'
abbrev S0:List Str:=["other","box","house"]
set_option maxHeartbeats 8000000 in
theorem Oh{f c C CB CE CT Pb:Addr}{fd:FuncData}(F:u7 K "free_berth" "free_berth" Lz f fd c)(B:Bl mg)(kb:K.In base)(hb:pV mg base)(hc:PySem.W.codeHdIn K c Pb=true)(TB:Gh K mg CB)(MP:ge P w K mg base (eO P w) 6 CB "phase" ["self","house","home"] (vz K C CB CE))(MY:ge P w K mg base (eO P w) 7 CB "way" ["self","one","other"] (qR K C CB CT))(MT:ge P w K mg base a_ 6 CB "tied" ["self","house"] (Gw C CB))(CY:bJ P w K mg base a_ 1 "came_by_at" ["stand","came","house"] Eb):
  a9 P w K mg base a_ 10 f fd ["box","homes","stand","came","letter"] (Ks C CB Pb):=by
 obtain⟨fT,YU,mT,bT,GT⟩:=MT.ex;obtain⟨fY,YV,mY,bY,GY⟩:=MY.ex;obtain⟨fP,YW,mP,bP,GP⟩:=MP.ex;refine F.ok Ed (fun vs H Q E h=>?_) (fun A outer s H vs Q E hr h=>?_)
 .obtain⟨L,b,ha,sa,ca,ns,homes,st,cs,i,h,p,rfl,_⟩:=h;rfl
 .obtain⟨L,b,ha,sa,ca,ns,homes,st,cs,i,h,p,rfl,BA,mZ,hU,DV,SN,G,hi,ei,hp,tb,nl,q⟩:=h;have h1:aZ 1 _:=hr.mono (by decide);have h6:aZ 6 _:=hr.mono (by decide);have h7:aZ 7 _:=hr.mono (by decide);have BX:=BA.bx;obtain⟨dx,pn,sr,S4,N,pA⟩:=id BA.ob;have FI:=N.o9;obtain⟨hh,hg,ne⟩:=SN.ok i h ei;have pl:=(ll hp).1;have x_:=SN.x_;have LF:D1 (fQ a_ P w K mg base ["box","homes","stand","came","letter","house","phase","used","free"] "free_berth" (aj Lz) f (.ref c) A outer s H E).AZ S0 [none,some 0,some 5] (Wk LA) SY (Y6 LA) (Wj LA) "other":=
   ⟨bX (by kernel_rfl),fun _ _ _ _ _=>rfl,rfl,rfl,rfl,by decide +kernel,rfl,rfl⟩
  have PB:∀f' c' cy s' H',PE (pC (fQ a_ P w K mg base ["box","homes","stand","came","letter","house","phase","used","free"] "free_berth" (aj Lz) f (.ref c) A outer s H E).AZ S0 (Wk LA) cy SY f' c' s' H') (Wj LA) (IM (bF (yt CB "way" (qR K C CB CT) [] E0 (a8 1) (bF (a8 2) (bF (a8 0) gU))) (bF (U8 (rU fun i=>.int (-i)) (a8 0)) gU))):=fun f' c' cy s' H'=>
   lY (aa (cM (pv 1) TB.cl mY GY (aZ.SZ hr _) bY .nil iU (aa (pv 2) (aa (pv 0) af))) (aa (BO wZ (pv 0)) af))
  refine'⟨_,(ag (aK (i:=5) Ed.nd rfl (Or.inr rfl) (bh cw (pv 2) (pv 4) (fun _ _=>rfl)))
   (ag (aK (i:=6) Ed.nd rfl (Or.inr rfl) (cM (pv 0) TB.cl mP GP h6 bP .nil iU (aa (pv 5) (aa (bh cw (pv 1) (pv 4) (fun _ _=>rfl)) af))))
   (ag (aK (i:=7) Ed.nd rfl (Or.inr rfl) (az CY h1 aL (aa (pv 2) (aa (pv 3) (aa (pv 5) af)))))
   (ag (eC (i:=8) (g:=(bR 0)) (tt:=(LM (ik (kJ (Mg K true) (a8 0) (a8 1))) (ik (kJ (EJ fun i j=>.bl (decide (i<=j))) (yt CB "way" (qR K C CB CT) [] E0 (a8 2) (bF (a8 3) (bF (a8 0) gU))) (a8 4))))) (te:=(a8 0)) (NB:=["other","used","box","house","phase"]) (src:=[none,some 7,some 0,some 5,some 6]) (bX (by kernel_rfl)) rfl (di (cM (pv 0) TB.cl mT GT h6 bT .nil aL (aa (pv 5) af))) ?g1 ?t1 ?e1 Ed.nd rfl rfl rfl)
   (ai (aE (qB (AK hr hr.hd (by have:=hr.un;show (A.deeper _).units+1<_;lia) LF PB) rfl B.max wa (aa (pv 8) af) (su (CL (NB:=S0) (src:=[none,some 0,some 5]) (yR kb hb hc) (bX (by kernel_rfl))) (su bV B8))))))))),?_⟩
  case g1=>exact fun cl C s₃ H₃ fp=>(aA (i:=0) Ec rfl (Or.inl rfl) (Or.inr rfl))
  case t1=>exact fun cl C' s₃ H₃ fp=>dj (PW.pt (sf (aI fu (pv 0) (pv 1) rfl) (nM (aI uC (cM (pv 2) TB.cl mY GY h7 bY .nil iU (aa (pv 3) (aa (pv 0) af))) (pv 4) (aQ _)))))
  case e1=>exact fun cl C s₃ H₃ fp=>(pv 0)
  have Y9:(dg (pr ns) (lm ns) h).length<=1000:=by
   have h0:(dg (pr ns) (lm ns) h).length<=pr ns:=bf (mB _ _) (by rw[aW,iB];exact aN _);have:=BX.JS;lia
  have Wl:∀y,y∈dg (pr ns) (lm ns) h->y<pr ns/\A6 ns (some (h:Int)) (some (y:Int))=true/\oV (lj ns h y)=.int (vE ns h y:Nat):=fun y hy=>by
   have ht:((h:Int),(y:Int))∈lm ns:=(dE FI hh).mp hy;have A7:y<pr ns:=r0.mp (FI.rg _ ht).2.2;obtain⟨k,t⟩:=(ju BX.pos hh A7).mp ht;refine⟨A7,(DT BX hh A7).mpr ⟨k,t⟩,?_⟩;unfold vE;rw[iq t];rfl
  refine⟨_,rfl,_,rfl,sa,_,_,_,rfl,rfl,bK.of hU,aM (jd hi),?_⟩;rw[ei];have S5:i<homes.length:=by rw[SN.l];exact hi
  refine⟨_,rfl,b,dx,_,rfl,S4,pB,_,rfl,_,rfl,_,rfl,ha,_,_,_,rfl,rfl,bK.of mZ,aM (qU S5),L,b,ns,_,_,some (h:Int),some (homes.getD i 0:Nat),rfl,BA,d0,d0,(fun z=>by rw[dL hh,dL hg] at z;rcases z with z|z <;> cases z),fun h' g' _ _ e1 e2 H1 s1=>?_⟩;obtain rfl:h=h':=cZ (bi e1);obtain rfl:homes.getD i 0=g':=cZ (bi e2);rw[hp];refine⟨_,rfl,_,rfl,_,rfl,sa,ca,st,cs,h,rfl,s1 _ _ hU,s1 _ _ DV,by rw[G.len];exact ii hi,x_,fun j hj e=>let ⟨y,_,_,a,_⟩:=G.ok j h (by rw[<-G.len];exact hj) e;⟨y,a⟩,fun ur H2 s2 Y_=>?_⟩;have n6:=s1.trans s2;generalize S7:kr st cs h=us at *;refine⟨_,rfl,b,dx,_,rfl,n6 _ _ S4,zo,_,rfl,L,b,ns,h,rfl,BA.same n6,hh,fun r H3 s3 P8=>⟨r,rfl,⟨_,bn.of P8⟩,fun D hD=>?_⟩⟩;have DS:=n6.trans s3;refine n8 (dg (pr ns) (lm ns) h) (fun (y:Nat)=>V.int (y:Int)) (fun y=>decide (y∉us)&&decide (vE ns h y<=p)) (fun (y:Nat)=>V.int (y:Int)) (fun σ=>∃u,σ=[u,some (.ref ur),some (.ref b),some (.int (h:Int)),some (.int (p:Int))]) P8 hD Y9 ⟨_,rfl⟩ ?_ ?_
  .rintro y σ H5 Kt Kf hy ⟨u,rfl⟩ s5 kt kf;have Wm:=s3.trans s5;have Gs:=n6.trans Wm;obtain⟨A7,DX,S_⟩:=Wl y hy;refine⟨_,rfl,_,rfl,ur,_,rfl,.inl (bn.of (Wm _ _ Y_)),rfl,lq,_,rfl,?_⟩;rw[ak rfl,zw];by_cases c1:y∈us
   .rw[bD c1];refine kf [some (.int (y:Int)),some (.ref ur),some (.ref b),some (.int (h:Int)),some (.int (p:Int))] H5 ⟨_,rfl⟩ (av.refl _) ?_;simp[c1]
   .rw[cV c1];refine⟨_,rfl,b,dx,_,rfl,Gs _ _ S4,x0,_,rfl,_,rfl,L,b,ns,_,_,some (h:Int),some (y:Int),rfl,BA.same Gs,d0,d0,(fun z=>by rw[DX] at z;cases z),fun h' y' _ _ e1 e2 _ H6 s6=>?_⟩;obtain rfl:h=h':=cZ (bi e1);obtain rfl:y=y':=cZ (bi e2);rw[S_];refine⟨_,rfl,_,_,rfl,rfl,_,rfl,?_⟩;by_cases c2:vE ns h y<=p
    .rw[bD (show ((vE ns h y:Nat):Int)<=(p:Int) by lia)];exact⟨_,rfl,kt [some (.int (y:Int)),some (.ref ur),some (.ref b),some (.int (h:Int)),some (.int (p:Int))] H6 ⟨_,rfl⟩ s6 (by simp[c1,c2])⟩
    .rw[cV (show ¬ ((vE ns h y:Nat):Int)<=(p:Int) by lia)];exact kf [some (.int (y:Int)),some (.ref ur),some (.ref b),some (.int (h:Int)),some (.int (p:Int))] H6 ⟨_,rfl⟩ s6 (by simp[c1,c2])
  intro H4 s4 A3;have A3:H4 D=some (.lst (NV (Kq ns us h p))):=A3;have Ta:=DS.trans s4;have t4:=hX tb Ta;refine⟨_,rfl,t4,fun f' c' H5 t5 jw EY CF=>?_⟩;have Za:∀ {b o},H4 b=some o->(∀ps,o≠.mH ps)->H5 b=some o:=fun e n=>jw _ _ e (dH t4 e n);have vS:=Za A3 (by intro ps z;cases z);have Zb:=(BA.same Ta).P7 t4 nl jw;refine⟨D,f',c',Kq ns us h p,(fun y=>(vE ns h y:Nat)),(fun y=>-(y:Int)),rfl,rfl,bn.of vS,CF,EY,fun y hy H6 s6=>?_,fun H6 v s6 hv=>?_⟩
  .have Zc:y∈dg (pr ns) (lm ns) h:=(du.mp hy).1;obtain⟨A7,DX,S_⟩:=Wl y Zc;have Wn:=Zb.same s6;obtain⟨Zd,pn6,sr6,Ze,N6,Zf⟩:=id Wn.ob;refine⟨_,rfl,b,Zd,_,rfl,Ze,x0,_,rfl,_,rfl,L,b,ns,_,_,some (h:Int),some (y:Int),rfl,Wn,d0,d0,(fun z=>by rw[DX] at z;cases z),fun h' y' _ _ e1 e2 _ H7 s7=>?_⟩;obtain rfl:h=h':=cZ (bi e1);obtain rfl:y=y':=cZ (bi e2);rw[S_];refine⟨_,rfl,_,rfl,by show 2<=sizeLine;decide,fun t ht=>⟨t,rfl,ah,s7.trans (am ht)⟩⟩
  .rw[Og BX FI hh (by lia) hv];exact q H6 (hX t5 s6) fun bb o e n=>s6 _ _ (jw _ _ (Ta _ _ e) n)
theorem GE:aw ["box","homes","stand","came","letter","house"] ["box","homes","stand"] (aj SX):=⟨rfl,rfl,rfl,by decide +kernel,rfl,by decide +kernel,by decide +kernel⟩
def GF(C CB Pb CN:Addr):Sp:=fun vs H Q E=>∃ (L:Addr->Prop) (b ha sa:Addr) (ns homes:List Nat) (st:List (Option Nat)),vs=[.ref b,.ref ha,.ref sa]/\dZ C CB H L b ns/\H ha=some (.tup (NV homes))/\H sa=some (.tup (st.map oV))/\Sn ns homes st/\jz Pb H/\¬ L Pb/\
 (∀H',jz Pb H'->m3 Pb H H'->jv ns homes st st.length=none->E (.ref CN) none H')/\
 ∀ (r:Addr) (cs:List (Option Nat)) (H':Hp),jz Pb H'->m3 Pb H H'->jv ns homes st st.length=some cs->H' r=some (.tup (cs.map oV))->Q (.ref r) H'
theorem ye{ns homes:List Nat}{st:List (Option Nat)}{i:Nat}(h:jv ns homes st i=none):∀ {m:Nat},i<=m->jv ns homes st m=none
 |0,hm=>by obtain rfl:=Nat.le_zero.mp hm;exact h
 |m+1,hm=>by
  rcases rY i (m+1) with z|z
  .have:=ye h (m:=m) (by lia);unfold jv;rw[this]
  .rwa [Nat.le_antisymm z hm]
set_option maxHeartbeats 8000000 in
theorem Oi{f C CB CN Pb:Addr}{fd:FuncData}(F:dR K "berth" "berth" SX f fd)(B:Bl mg)(he:mg "enumerate"=none)(e:Er K mg "NoBerth" CN)(FB:bJ P w K mg base a_ 10 "free_berth" ["box","homes","stand","came","letter"] (Ks C CB Pb)):
  a9 P w K mg base (eO P w) 11 f fd ["box","homes","stand"] (GF C CB Pb CN):=by
 refine F.Hm GE (fun vs H Q E h=>?_) (fun bL A outer s H vs Q E hr h=>?_)
 .obtain⟨L,b,ha,sa,ns,homes,st,rfl,_⟩:=h;rfl
 .obtain⟨L,b,ha,sa,ns,homes,st,rfl,BA,mZ,hU,SN,tb,nl,k,q⟩:=h;have BX:=BA.bx;have x_:=SN.x_;have Zg:aZ 10 _:=hr.mono (by decide);refine⟨_,(ag (aK (i:=3) GE.nd rfl (Or.inl rfl) (cu af))
   (ag (bW Fk rfl (u_ rfl he (aa (pv 2) af)) (gP (n:=2) rfl (bw (aA (i:=4) GE.nd rfl (Or.inl rfl)) (bw (aA (i:=5) GE.nd rfl (Or.inl rfl)) ft)))
    (ag (cj (io h_ iy ix b_ (pv 3) (aa (uB (aI iR (pv 5) bV (aQ _)) bV (az FB Zg aL (aa (pv 0) (aa (pv 1) (aa (pv 2) (aa (pv 3) (aa (pv 4) af))))))) af)))
    (ai (bt (PW.pt (sf (aI nQ (pv 5) bV (aQ _)) (nM (aI iR (bh bv (pv 3) (pv 4) (fun _ _=>rfl)) bV (aQ _))))) (ai (gy (q:=fun H1=>E (.ref CN) none H1) rfl e.ok rfl e.at_ (aa lP af) (fun _ _ _ _ _ _ _ I m q=>gw I m q))) aO))))
   (ai (aE (cD cx (by rfl) B.tup kA (aa (pv 3) af)))))),?_⟩
  refine⟨by show 0<=sizeLine;decide,fun ca DV=>?_⟩;have s0:=am (o:=.lst []) DV;have g0:(upd H ca (.lst [])) ca=some (.lst []):=ah;generalize upd H ca (.lst [])=H0 at *;have P9:ca≠Pb:=fun z=>by
   rcases tb with y|⟨_,y,_⟩ <;> · rw[<-z,DV] at y;cases y
  have t0:=hX tb s0;have Wo:sa≠Pb:=dH tb hU (fun _ z=>nomatch z);have Zh:ha≠Pb:=dH tb mZ (fun _ z=>nomatch z);refine⟨_,rfl,sa,_,rfl,bK.of (s0 _ _ hU),qE (K:=K) (xs:=st.map oV) (fun i σ H1=>(∃z4 z5,σ=[some (.ref b),some (.ref ha),some (.ref sa),some (.ref ca),z4,z5])/\m3 Pb H H1/\jz Pb H1/\∃cs,jv ns homes st i=some cs/\H1 ca=some (.lst (cs.map oV))) ⟨⟨_,_,rfl⟩,m3.of s0,t0,[],rfl,g0⟩ (fun i σ H1 _ z=>bK.of (z.2.1 _ _ hU Wo)) ?_ ?_⟩
  rotate_left
  .rintro σ H1 ⟨⟨z4,z5,rfl⟩,s1,t1,cs,hg,hc⟩;rw[aW] at hg;refine⟨_,rfl,ca,_,rfl,.inl ⟨bn.of hc,fun r uv=>?_⟩⟩;have sT:=am (o:=.tup (cs.map oV)) uv;exact q r cs _ (hX t1 sT) (s1.trans (m3.of sT)) hg ah
  rintro i x pt σ H1 hx ⟨⟨z4,z5,rfl⟩,s1,t1,cs,hg,hc⟩ Oj;have hi:i<st.length:=by have:=(cH.mp hx).1;rwa [aW] at this
  obtain rfl:=bi (hx.symm.trans (jd hi));have sP:=am (o:=.tup [.int (i:Int),oV (st.getD i none)]) Oj;refine⟨pt,_,rfl,bK.of ah,rfl,_,_,rfl,_,_,rfl,rfl,?_⟩;have s2:=s1.trans (m3.of sP);have t2:=hX t1 sP;have Kj:=sP _ _ hc;generalize upd H1 pt (.tup [.int (i:Int),oV (st.getD i none)])=H2 at *;clear Oj sP hc t1 s1;have GR:=qW BX SN (ii hi) hg;have cl:=GR.len;have Wp:(cs.map oV).length<sizeLine:=by
   rw[aW,cl];exact cG (show i<17 by lia) (by decide)
  have put:∀ {H3:Hp} {o:Option Nat},m3 Pb H2 H3->jz Pb H3->m3 Pb H (upd H3 ca (.lst (cs.map oV++[oV o])))/\jz Pb (upd H3 ca (.lst (cs.map oV++[oV o])))/\(upd H3 ca (.lst (cs.map oV++[oV o]))) ca=some (.lst ((cs++[o]).map oV)):=fun {H3 o} s3 t3=>by
   refine⟨fun bb u e1 n=>?_,?_,?_⟩
   .by_cases z:bb=ca
    .rw[z,DV] at e1;cases e1
    .rw[ao z];exact s3 _ _ (s2 _ _ e1 n) n
   .rcases t3 with y|⟨c',y,y'⟩
    .exact .inl (by rw[ao P9.symm];exact y)
    .refine .inr ⟨c',by rw[ao P9.symm];exact y,?_⟩;rw[ao (fun z=>?_)];exact y';have:=s3 _ _ Kj P9;rw[z,this] at y';cases y'
   .rw[ah,dJ];rfl
  refine⟨_,rfl,.inl ⟨rfl,_,bn.of Kj⟩,_,rfl,?_⟩;cases ho:st.getD i none with
  |none=>
   refine⟨rfl,_,rfl,fm rfl ⟨ca,_,_,rfl,rfl,Kj,Wp,?_⟩⟩;obtain⟨a1,a2,a3⟩:=put (o:=none) (fun _ _ z _=>z) t2;have gn:jv ns homes st (i+1)=some (cs++[none]):=by unfold jv;rw[hg,ho]
   refine⟨_,rfl,rfl,_,rfl,dF rfl (d8 ⟨⟨_,_,rfl⟩,a1,a2,_,gn,a3⟩)⟩
  |some h=>
   obtain⟨hh,Ol,iw⟩:=SN.ok i h ho;obtain⟨p,hp⟩:=qV hh Ol iw;refine⟨rfl,_,rfl,dF rfl ⟨_,rfl,_,rfl,_,rfl,_,rfl,_,rfl,L,b,ha,sa,ca,ns,homes,st,cs,i,h,p,rfl,BA.P7 tb nl s2,s2 _ _ mZ Zh,s2 _ _ hU Wo,Kj,SN,GR,hi,ho,hp,t2,nl,fun H3 t3 s3=>?_⟩⟩;refine⟨ca,_,_,rfl,rfl,s3 _ _ Kj P9,Wp,?_⟩;obtain⟨a1,a2,a3⟩:=put (o:=ls ns (kr st cs h) h (p+1)) s3 t3;generalize upd H3 ca (.lst (cs.map oV++[oV (ls ns (kr st cs h) h (p+1))]))=H4 at *;have ea:((cs++[ls ns (kr st cs h) h (p+1)]).map oV)[i]?=some (oV (ls ns (kr st cs h) h (p+1))):=by
    rw[bA,qc (by lia),cl,Nat.sub_self];rfl
   refine⟨_,rfl,rfl,_,rfl,fm rfl ?_⟩;refine⟨_,rfl,_,rfl,ca,_,_,_,rfl,rfl,bn.of a3,aM ea,?_⟩;cases uy:ls ns (kr st cs h) h (p+1) with
   |none=>
    have gn:jv ns homes st (i+1)=none:=by unfold jv;rw[hg,ho];dsimp only;rw[hp];show (match ls ns (kr st cs h) h (p+1) with|none=>none|some y=>some (cs++[some y]))=none;rw[uy]
    exact⟨rfl,_,rfl,fm rfl ⟨by show 1<=sizeLine;decide,k H4 a2 a1 (ye gn hi)⟩⟩
   |some y=>
    rw[uy] at a3;have gn:jv ns homes st (i+1)=some (cs++[some y]):=by unfold jv;rw[hg,ho];dsimp only;rw[hp];show (match ls ns (kr st cs h) h (p+1) with|none=>none|some y=>some (cs++[some y]))=_;rw[uy]
    exact⟨rfl,_,rfl,dF rfl ⟨⟨_,_,rfl⟩,a1,a2,_,gn,a3⟩⟩
end
abbrev Tb:Stmt:=fH 63
theorem Ku{n h e:Nat}(hh:h<n)(h1:1<=e)(h2:e<n):(h+e) % n≠h:=by
 by_cases c:h+e<n
 .rw[iG c];lia
 .rw[Nat.mod_eq_sub_mod (by lia),iG (by lia)];lia
structure Gd(ns homes:List Nat)(st:List (Option Nat)):Prop where
 lh:homes.length=st.length
 ok:∀j h,j<st.length->st.getD j none=some h->h<pr ns/\homes.getD j 0<pr ns/\h≠homes.getD j 0
theorem Gd.snoc{ns homes:List Nat}{st:List (Option Nat)}{g:Nat}{o:Option Nat}(G:Gd ns homes st)(hs:∀h,o=some h->h<pr ns/\g<pr ns/\h≠g):Gd ns (homes++[g]) (st++[o]):=by
 have lh:=G.lh;refine⟨by rw[dP,dP,lh];rfl,fun j h hj e=>?_⟩;rw[dP] at hj;rcases hZ.mp hj with z|z
 .rw[SV z] at e;rw[SV (by lia)];exact G.ok j h z e
 .subst z;rw[P6 rfl] at e;rw[P6 lh];exact hs h e
theorem Gd.sn{ns homes:List Nat}{st:List (Option Nat)}(G:Gd ns homes st)(l:st.length<=16):Sn ns homes st:=by
 refine⟨G.lh,fun i h e=>?_,l⟩;have hi:i<st.length:=by
  by_cases c:i<st.length
  .exact c
  .rw[bU,oh (by lia)] at e;cases e
 exact G.ok i h hi e
theorem qX{p D:Addr}{H H':Hp}{o:HO}(s:bG p H H')(n:H D=none):bG p H (upd H' D o):=fun b u e hb=>by
 by_cases z:b=D
 .rw[z,n] at e;cases e
 .rw[ao z];exact s b u e hb
structure Ad(H:Hp)(p sr gl hm je:Addr):Prop where
 nd:[p,sr,gl,hm,je].Nodup
 nh:H hm=none
 ns:H je=none
structure Bs(p sr gl hm je:Addr)(cP d6 homes:List Nat)(st:List (Option Nat))(H0 H:Hp):Prop where
 GG:cq H p
 s0:bG p H0 H
 pA:H sr=some (.lst (NV cP))
 ES:H gl=some (.lst (NV d6))
 A9:H hm=some (.lst (NV homes))
 fh:H je=some (.lst (st.map oV))
section
variable {p sr gl hm je:Addr} {cP d6 homes:List Nat} {st:List (Option Nat)} {H0 H H':Hp}
theorem Bs.jK(h:Bs p sr gl hm je cP d6 homes st H0 H)(A:Ad H0 p sr gl hm je)(s:bG p H H')(hp:cq H' p):Bs p sr gl hm je cP d6 homes st H0 H':=by
 have nd:=A.nd;simp only[dC,bo,not_or,rG,rQ,oK,ig] at nd;obtain⟨⟨a1,a2,a3,a4⟩,_⟩:=nd;exact⟨hp,h.s0.trans s,s _ _ h.pA (cW a1),s _ _ h.ES (cW a2),s _ _ h.A9 (cW a3),s _ _ h.fh (cW a4)⟩
theorem Bs.same(h:Bs p sr gl hm je cP d6 homes st H0 H)(A:Ad H0 p sr gl hm je)(s:av H H'):Bs p sr gl hm je cP d6 homes st H0 H':=h.jK A (bG.of s) (h.GG.same s)
theorem Bs.aH(h:Bs p sr gl hm je cP d6 homes st H0 H)(A:Ad H0 p sr gl hm je){g:Nat}:Bs p sr gl hm je cP d6 (homes++[g]) st H0 (upd H hm (.lst (NV homes++[.int (g:Int)]))):=by
 have nd:=A.nd;simp only[dC,bo,not_or,rG,rQ,oK,ig] at nd;obtain⟨⟨a1,a2,a3,a4⟩,⟨b2,b3,b4⟩,⟨c3,c4⟩,d4⟩:=nd;exact⟨h.GG.put a3,qX h.s0 A.nh,by rw[ao b3];exact h.pA,by rw[ao c3];exact h.ES,by rw[ah,<-g_],by rw[ao (cW d4)];exact h.fh⟩
theorem Bs.aS(h:Bs p sr gl hm je cP d6 homes st H0 H)(A:Ad H0 p sr gl hm je){o:Option Nat}:Bs p sr gl hm je cP d6 homes (st++[o]) H0 (upd H je (.lst (st.map oV++[oV o]))):=by
 have nd:=A.nd;simp only[dC,bo,not_or,rG,rQ,oK,ig] at nd;obtain⟨⟨a1,a2,a3,a4⟩,⟨b2,b3,b4⟩,⟨c3,c4⟩,d4⟩:=nd;exact⟨h.GG.put a4,qX h.s0 A.ns,by rw[ao b4];exact h.pA,by rw[ao c4];exact h.ES,by rw[ao d4];exact h.A9,by rw[ah,dJ];rfl⟩
end
section
variable {P:Program} {w:World} {K:PySem.W.Frag} {mg:Str->Option Value} {base:Heap}
theorem uf:aw ["_law_pot_here","_law_sides_here","_law_many_here","_law_starts","_law_goals","_law_homes","_law_stand","_law_i","_law_house","_law_home"] ["_law_pot_here","_law_sides_here"] (aj Tb):=⟨rfl,rfl,rfl,by decide +kernel,rfl,by decide +kernel,by decide +kernel⟩
def Kv:Sp:=fun vs H Q _=>∃ (p sd:Addr) (ns:List Nat),vs=[.ref p,.ref sd]/\cq H p/\H sd=some (.tup (NV ns))/\Bx ns/\2<=pr ns/\
 ∀ (t ha sa:Addr) (homes:List Nat) (st:List (Option Nat)) (H':Hp),bG p H H'->cq H' p->H' t=some (.tup [.ref ha,.ref sa])->H' ha=some (.tup (NV homes))->H' sa=some (.tup (st.map oV))->Sn ns homes st->Q (.ref t) H'
theorem GJ{st:List (Option Nat)}:(st.map oV).all ee=true:=iD.mpr fun x hx=>by
 obtain⟨y,_,rfl⟩:=aX.mp hx;cases y <;> rfl
set_option maxHeartbeats 8000000 in
theorem Om{f:Addr}{fd:FuncData}(F:dR K "_law_drawn" "_law_drawn" Tb f fd)(B:Bl mg)(MA:bJ P w K mg base a_ 1 "_law_many" ["_law_sides_here"] AE)(DR:bJ P w K mg base a_ 1 "_law_draw" ["_law_pot_here","_law_many_here"] AC)(HS:bJ P w K mg base a_ 2 "_law_houses" ["_law_pot_here","_law_many_here"] Kh)(OU:bJ P w K mg base a_ 4 "_law_out" ["_law_sides_here","_law_house"] Ki):a9 P w K mg base a_ 5 f fd ["_law_pot_here","_law_sides_here"] Kv:=by
 refine F.ok uf (fun vs H Q E h=>?_) (fun bL A outer s H vs Q E hr h=>?_)
 .obtain⟨p,sd,ns,rfl,_⟩:=h;rfl
 .obtain⟨p,sd,ns,rfl,hp,LB,BX,n1,q⟩:=h;have h1:aZ 1 _:=hr.mono (by decide);have h2:aZ 2 _:=hr.mono (by decide);have h4:aZ 4 _:=hr.mono (by decide);have n2:=BX.JS;refine⟨_,(ag (aK (i:=2) uf.nd rfl (Or.inl rfl) (az MA h1 aL (aa (pv 1) af)))
   (ag (BB (i:=3) (j:=4) rfl uf.nd rfl rfl (by decide) rfl rfl (aa (az HS h2 aL (aa (pv 0) (aa (pv 2) af))) (aa (az HS h2 aL (aa (pv 0) (aa (pv 2) af))) af)) (by rfl))
   (ag (BB (i:=5) (j:=6) rfl uf.nd rfl rfl (by decide) rfl rfl (aa (cu af) (aa (cu af) af)) (by rfl))
   (ag (bW dQ rfl (a7 rfl B.range (aa (az DR h1 aL (aa (pv 0) (aa aB af))) af)) (aA (i:=7) uf.nd rfl (Or.inl rfl))
    (ag (aK (i:=8) uf.nd rfl (Or.inl rfl) (bh bv (pv 3) (az DR h1 aL (aa (pv 0) (aa (au aG (by rfl) B.len cY (aa (pv 3) af)) af))) (fun _ _=>rfl)))
    (ag (aK (i:=9) uf.nd rfl (Or.inl rfl) (bh bv (pv 4) (az DR h1 aL (aa (pv 0) (aa (au aG (by rfl) B.len cY (aa (pv 4) af)) af))) (fun _ _=>rfl)))
    (ag (bt (aI ij (pv 9) (pv 8) (aQ _)) (ai (aK (i:=9) uf.nd rfl (Or.inl rfl) (ba gR (ba dz (ba dz (pv 8) aB) (az DR h1 aL (aa (pv 0) (aa (ba lU (pv 2) aB) af)))) (pv 2)))) aO)
    (ag (bt (PW.pt (uA (aI ij (io h_ PySem.F.slot_list_count PySem.F.type_list_count CU (pv 6) (aa (pv 8) af)) (au aG (by rfl) B.len cY (aa (az OU h4 aL (aa (pv 1) (aa (pv 8) af))) af)) (aQ _)) (oO (aI ij (az DR h1 aL (aa (pv 0) (aa aB af))) aB (aQ _))))) (ai (aK (i:=8) uf.nd rfl (Or.inl rfl) bV)) aO)
    (ag (cj (io h_ iy ix b_ (pv 5) (aa (pv 9) af)))
    (ai (cj (io h_ iy ix b_ (pv 6) (aa (pv 8) af))))))))))
   (ai (aE (lY (aa (cD cx (by rfl) B.tup kA (aa (pv 5) af)) (aa (cD cx (by rfl) B.tup kA (aa (pv 6) af)) af))))))))),?_⟩
  refine⟨_,rfl,sd,ns,rfl,LB,(fun x hx=>(BX.sd x hx).2),?_⟩;refine⟨_,rfl,_,rfl,p,pr ns,rfl,n1,n2,hp,fun sr cP H1 s1 p1 NC pA Zi sl sx=>⟨_,rfl,_,rfl,p,pr ns,rfl,n1,n2,p1,fun gl d6 H2 s2 p2 Tc ES Zj gll gx=>⟨_,_,rfl,?_⟩⟩⟩;refine⟨by show 0<=sizeLine;decide,fun hm A9=>⟨by show 0<=sizeLine;decide,fun je fh=>⟨_,_,rfl,?_⟩⟩⟩;have On:sr≠p:=hp.ne NC;have Td:gl≠p:=p1.ne Tc;have GK:=s2 _ _ pA On;have v1:=am (o:=.lst []) A9;have e1:(upd H2 hm (.lst [])) hm=some (.lst []):=ah;generalize hA:upd H2 hm (.lst [])=HA at *;have v2:=am (o:=.lst []) fh;have e2:(upd HA je (.lst [])) je=some (.lst []):=ah;generalize hB:upd HA je (.lst [])=HF at *;have Tf:=s1.trans s2;have AD:Ad H p sr gl hm je:=by
   have f2:∀ {x:Addr},H2 x=none->H x=none:=fun z=>Tf.free p2.full z;refine⟨?_,f2 A9,f2 (v1.free fh)⟩;have nn:∀ {G:Hp} {x y:Addr} {o:HO},G x=some o->G y=none->x≠y:=fun z z' e=>by rw[e,z'] at z;cases z
   obtain⟨pa,pb,pe,_⟩:=p2;simp only[dC,bo,not_or,rG,rQ,oK,ig];exact⟨⟨On.symm,Td.symm,nn pe A9,nn (v1 _ _ pe) fh⟩,⟨nn pA Tc,nn GK A9,nn (v1 _ _ GK) fh⟩,⟨nn ES A9,nn (v1 _ _ ES) fh⟩,nn e1 fh⟩
  have vv:=v1.trans v2;have BS:Bs p sr gl hm je cP d6 [] [] H HF:=⟨p2.same vv,Tf.trans (bG.of vv),vv _ _ GK,vv _ _ ES,v2 _ _ e1,e2⟩
  clear e1 e2 v1 v2 vv hA hB A9 fh GK pA ES Tc NC Tf s1 s2 p1 p2;refine⟨_,rfl,p,17,rfl,by decide,by decide +kernel,BS.GG,fun m H3 Rb s3 p3=>⟨_,rfl,by lia,by lia,?_⟩⟩;have Wq:=BS.jK AD s3 p3;clear BS;rw[show ((m:Int)).toNat=m by lia];refine cC (n:=m) (lo:=0) (fun i σ Hc=>(∃z7 z8 z9,σ=[some (.ref p),some (.ref sd),some (.int (pr ns:Nat)),some (.ref sr),some (.ref gl),some (.ref hm),some (.ref je),z7,z8,z9])/\∃homes st,Bs p sr gl hm je cP d6 homes st H Hc/\Gd ns homes st/\st.length=i) ⟨⟨_,_,_,rfl⟩,[],[],Wq,⟨rfl,fun j h hj=>absurd hj (gm _)⟩,rfl⟩ ?_ ?_
  rotate_left
  .rintro σ Hc ⟨⟨z7,z8,z9,rfl⟩,homes,st,b,G,hl⟩;refine⟨_,rfl,hm,_,rfl,.inl ⟨bn.of b.A9,fun ha mZ=>?_⟩⟩;have s1:=am (o:=.tup (NV homes)) mZ;refine⟨_,rfl,je,_,rfl,.inl ⟨bn.of (s1 _ _ b.fh),fun sa hU=>?_⟩⟩;have s2:=am (o:=.tup (st.map oV)) hU;refine⟨by show 2<=sizeLine;decide,fun t ht=>?_⟩;have s4:=am (o:=.tup [.ref ha,.ref sa]) ht;have ss:=(s1.trans s2).trans s4;exact q t ha sa homes st _ (b.s0.trans (bG.of ss)) (b.GG.same ss) ah (s4 _ _ (s2 _ _ ah)) (s4 _ _ ah) (G.sn (by lia))
  clear Wq p3 s3;rintro i σ Hc hi ⟨⟨z7,z8,z9,rfl⟩,homes,st,b0,G,hl⟩;have sp:0<cP.length:=wj.mpr Zi;have gp:0<d6.length:=wj.mpr Zj;refine⟨_,rfl,_,rfl,_,rfl,sr,_,rfl,.inl (bn.of b0.pA),p,cP.length,by rw[bu];rfl,sp,by lia,b0.GG,fun d1 H1 Pn s1 p1=>?_⟩;have b1:=b0.jK AD s1 p1;clear b0;refine⟨sr,_,_,_,rfl,rfl,bn.of b1.pA,aM (qU Pn),?_⟩;generalize Zk:cP.getD d1 0=h;have hh:h<pr ns:=by rw[<-Zk];exact sx _ (by rw[bU,cr Pn];exact gh _)
  refine⟨_,rfl,_,rfl,_,rfl,gl,_,rfl,.inl (bn.of b1.ES),p,d6.length,by rw[bu];rfl,gp,by lia,b1.GG,fun d2 H2 SK s2 p2=>?_⟩;have b2:=b1.jK AD s2 p2;clear b1 s1 p1;refine⟨gl,_,_,_,rfl,rfl,bn.of b2.ES,aM (qU SK),?_⟩;generalize Zl:d6.getD d2 0=g0;have Tg:g0<pr ns:=by rw[<-Zl];exact gx _ (by rw[bU,cr SK];exact gh _)
  refine mW (fun σ Hx=>σ=[some (.ref p),some (.ref sd),some (.int (pr ns:Nat)),some (.ref sr),some (.ref gl),some (.ref hm),some (.ref je),some (.int (i:Int)),some (.int (h:Int)),some (.int (g0:Int))]/\Bs p sr gl hm je cP d6 homes st H Hx) ?_ (fun N hN=>hN _ _ ⟨by rw[dD];rfl,b2⟩);clear b2 s2 p2;rintro σ H2 ⟨rfl,b2⟩;refine mW (fun σ Hx=>∃g,σ=[some (.ref p),some (.ref sd),some (.int (pr ns:Nat)),some (.ref sr),some (.ref gl),some (.ref hm),some (.ref je),some (.int (i:Int)),some (.int (h:Int)),some (.int (g:Nat))]/\g<pr ns/\h≠g/\Bs p sr gl hm je cP d6 homes st H Hx) ?_ ?_
  rotate_left
  .intro N hN;refine⟨_,rfl,_,rfl,rfl,_,rfl,iT (fun e=>?_) (fun e=>hN _ _ ⟨g0,rfl,Tg,fun z=>e (by rw[z];exact bD rfl),b2⟩)⟩;refine⟨_,rfl,_,_,rfl,rfl,_,rfl,_,rfl,_,_,rfl,rfl,p,pr ns-1,by rw[show (((pr ns-1:Nat)):Int)=((pr ns:Nat):Int)-1 by lia];rfl,by lia,by lia,b2.GG,fun d3 H3 We s3 p3=>⟨_,_,rfl,rfl,_,rfl,_,_,rfl,rfl,(by show (0:Int)<((pr ns:Nat):Int);lia),?_⟩⟩;have ev:((h:Int)+1+(d3:Int)) % ((pr ns:Nat):Int)=(((h+(1+d3)) % pr ns:Nat):Int):=by
    rw[Int.natCast_emod];congr 1;lia
   refine hN _ _ ⟨(h+(1+d3)) % pr ns,?_,iL _ (by lia),(Ku hh (by lia) (by lia)).symm,b2.jK AD s3 p3⟩;rw[<-ev];rfl
  clear b2;rintro σ Hx ⟨g,rfl,hg,iw,b2⟩;have lh:=G.lh;refine mW (fun σ Hz=>∃o:Option Nat,σ=[some (.ref p),some (.ref sd),some (.int (pr ns:Nat)),some (.ref sr),some (.ref gl),some (.ref hm),some (.ref je),some (.int (i:Int)),some (oV o),some (.int (g:Nat))]/\(o=none\/o=some h)/\Bs p sr gl hm je cP d6 homes st H Hz) ?_ ?_
  rotate_left
  .intro N hN;have Th:=b2.s0 _ _ LB (hp.neT LB);refine⟨_,rfl,.inl ⟨rfl,_,bn.of b2.fh⟩,_,rfl,je,_,_,rfl,rfl,b2.fh,rfl,GJ,?_⟩;refine⟨_,rfl,_,rfl,sd,ns,h,rfl,Th,BX,fun r ys H3 s3 nr P8 yl ly=>⟨r,_,rfl,.inl (bn.of P8),rfl,_,rfl,?_⟩⟩;have b3:=b2.same AD s3;refine iT (fun e=>fm rfl (hN _ _ ⟨none,rfl,.inl rfl,b3⟩)) (fun e=>?_);refine⟨_,rfl,p,16,rfl,by decide,by decide +kernel,b3.GG,fun d4 H5 hd4 s5 p5=>⟨rfl,_,rfl,iT (fun e=>hN _ _ ⟨none,rfl,.inl rfl,b3.jK AD s5 p5⟩) (fun e=>hN _ _ ⟨some h,rfl,.inr rfl,b3.jK AD s5 p5⟩)⟩⟩
  clear b2;rintro σ Hz ⟨o,rfl,ho,b2⟩;refine⟨_,rfl,.inl ⟨rfl,_,bn.of b2.A9⟩,_,rfl,hm,_,_,rfl,rfl,b2.A9,by rw[bu,lh,hl];exact cG (show i<17 by lia) (by decide),?_⟩;have b3:=b2.aH AD (g:=g);refine⟨_,rfl,.inl ⟨rfl,_,bn.of b3.fh⟩,_,rfl,je,_,_,rfl,rfl,b3.fh,by rw[aW,hl];exact cG (show i<17 by lia) (by decide),?_⟩;have b4:=b3.aS AD (o:=o);refine⟨⟨_,_,_,rfl⟩,homes++[g],st++[o],b4,G.snoc fun h' e=>?_,by rw[dP,hl];rfl⟩;rcases ho with z|z
  .rw[z] at e;cases e
  .rw[z] at e;obtain rfl:=bi e;exact⟨hh,hg,iw⟩
end
end nz
namespace L2
open PySem PySem.Spec PyProof.Rows
def Oo(K:PySem.W.Frag):List V->Hp->VK->Prop:=fun xs H Q=>∃ (l:Addr) (ns:List Int),xs=[.ref l]/\bn K H l (ns.map V.int)/\ns≠[]/\∀M,M∈ns->(∀a∈ns,M<=a)->Q (.int M) H
theorem AM{X:Cx}(hc:X.calm=true):eK X (.builtin "min") (Oo X.K):=by
 intro ae s σ H xs us Q I r h;obtain⟨l,ns,rfl,hl,iw,q⟩:=h;obtain⟨u1,rfl,r1⟩:=r.one;obtain rfl:u1=Value.ref l:=r1;obtain⟨its,rv,pl,_⟩:=I.list hl;obtain⟨ps,rfl,rfl⟩:=vn rv;have hi:intItems ps.toArray=(ps.map (fun p=>Value.int p.1 p.2)).toArray:=by unfold intItems;simp
 have j9:0<ps.toArray.size:=by
  cases ps with
  |nil=>exact absurd rfl iw
  |cons p ps=>simp
 refine min_intList (I.ok.hd hc) (xs:=ps.toArray) (by rw[hi];exact pl.isList) j9 fun v h' tk hv hk=>?_;obtain⟨t,rfl⟩:=intItems_at hv;obtain⟨h1,h2⟩:=argBest_lt (numAt ps.toArray) (ps.toArray.size-1);have num:∀j,j<ps.length->numAt ps.toArray j∈ps.map (·.1)/\numAt ps.toArray j=(ps.map (·.1)).getD j 0:=fun j hj=>by
  have e:numAt ps.toArray j=ps[j].1:=by unfold numAt;simp[cr hj]
  refine⟨by rw[e];exact aX.mpr ⟨_,gh hj,rfl⟩,?_⟩;rw[e,bU,bA,cr hj];rfl
 have hb:argBest (fun i j=>decide (numAt ps.toArray i<numAt ps.toArray j)) (ps.toArray.size-1)<ps.length:=by
  have:ps.toArray.size=ps.length:=by simp
  lia
 refine⟨.int _,H,I.kept (t':=tk) hk,⟨t,rfl⟩,q _ (num _ hb).1 fun a ha=>?_⟩;obtain⟨j,hj,e⟩:=rA.mp ha;rw[aW] at hj;have:=h2 j (by (have:ps.toArray.size=ps.length:=by simp);lia);rw[(num j hj).2,bU,cr (by rw[aW];exact hj)] at this;rw[<-e];exact this
end L2
namespace nz
open PySem L2 ir
abbrev Ti:Stmt:=fH 64
theorem GN:(["_law_j","_law_found_here","_law_stand","_law_house"]:List Str).Nodup:=by decide +kernel
theorem Kw:(["_law_other","_law_used"]:List Str).Nodup:=by decide +kernel
theorem zx{ns us:List Nat}{h m:Nat}:ls ns us h (m+1)=if vC ns us h m≠[] then some (Oe (vC ns us h m)) else ls ns us h m:=rfl
section
variable {P:Program} {w:World} {K:PySem.W.Frag} {mg:Str->Option Value} {base:Heap}
theorem ug:aw ["_law_sides_here","_law_homes","_law_stand","_law_found_here","_law_i","_law_house","_law_tie","_law_used","_law_k","_law_free"] ["_law_sides_here","_law_homes","_law_stand"] (aj Ti):=⟨rfl,rfl,rfl,by decide +kernel,rfl,by decide +kernel,by decide +kernel⟩
def Kx:Sp:=fun vs H Q _=>∃ (a ha sa:Addr) (ns homes:List Nat) (st:List (Option Nat)),vs=[.ref a,.ref ha,.ref sa]/\H a=some (.tup (NV ns))/\H ha=some (.tup (NV homes))/\H sa=some (.tup (st.map oV))/\Bx ns/\Sn ns homes st/\
 (∀H',av H H'->jv ns homes st st.length=none->Q .bp H')/\
 ∀ (r:Addr) (cs:List (Option Nat)) (H':Hp),av H H'->jv ns homes st st.length=some cs->H' r=some (.tup (cs.map oV))->Q (.ref r) H'
set_option maxHeartbeats 8000000 in
theorem Op{f:Addr}{fd:FuncData}(F:dR K "_law_found" "_law_found" Ti f fd)(B:Bl mg)(he:mg "enumerate"=none)(PH:bJ P w K mg base a_ 2 "_law_phase" ["_law_sides_here","_law_house","_law_home"] DQ)(TI:bJ P w K mg base a_ 3 "_law_ties" ["_law_sides_here","_law_house","_law_k"] DP):a9 P w K mg base a_ 4 f fd ["_law_sides_here","_law_homes","_law_stand"] Kx:=by
 refine F.ok ug (fun vs H Q E h=>?_) (fun bL A outer s H vs Q E hr h=>?_)
 .obtain⟨a,ha,sa,ns,homes,st,rfl,_⟩:=h;rfl
 .obtain⟨a,ha,sa,ns,homes,st,rfl,hA,mZ,hU,BX,SN,qn,qs⟩:=h;have h2:aZ 2 _:=hr.mono (by decide);have h3:aZ 3 _:=hr.mono (by decide);have x_:=SN.x_;have l5:=BX.l5;refine'⟨_,(ag (aK (i:=3) ug.nd rfl (Or.inr rfl) (cu af))
   (ag (bW dQ rfl (u_ rfl he (aa (pv 2) af)) (gP (n:=2) rfl (bw (aA (i:=4) ug.nd rfl (Or.inl rfl)) (bw (aA (i:=5) ug.nd rfl (Or.inr rfl)) ft)))
    (ag (aK (i:=6) ug.nd rfl (Or.inl rfl) bV)
    (ag (bt (aI nQ (pv 5) bV (aQ _)) (ag (aK (i:=7) ug.nd rfl (Or.inr rfl) ?c1)
     (ag (bW dQ rfl (a7 rfl B.range (aa (ba dz (az PH h2 aL (aa (pv 0) (aa (pv 5) (aa (bh cw (pv 1) (pv 4) (fun _ _=>rfl)) af)))) aB) af)) (aA (i:=8) ug.nd rfl (Or.inl rfl))
      (ag (eC (i:=9) (g:=(bR 0)) (tt:=(ik (kJ (Mg K true) (a8 0) (a8 1)))) (te:=(a8 0)) (NB:=["_law_other","_law_used"]) (src:=[none,some 7]) (bX (by kernel_rfl)) rfl (di (az TI h3 aL (aa (pv 0) (aa (pv 5) (aa (pv 8) af))))) ?g2 ?t2 ?e2 ug.nd rfl rfl rfl)
      (ai (bt (aI (CJ (e:=ut) hr.u) (pv 9) (cu af) (aQ _)) (ai (aK (i:=6) ug.nd rfl (Or.inl rfl) (au (AM rfl) (by rfl) B.min v_ (aa (pv 9) af)))) aO))))
     (ai (bt (aI iR (pv 6) bV (aQ _)) (ai (aE bV)) aO)))) aO)
    (ai (cj (io h_ iy ix b_ (pv 3) (aa (pv 6) af)))))))
   (ai (aE (cD cx (by rfl) B.tup kA (aa (pv 3) af)))))),?_⟩
  case c1=>
   refine' dG (g:=(bR 0)) (tt:=(ik (kJ (L7) (kJ (xh K) (a8 2) (a8 0)) (a8 3)))) (te:=(kJ (zL K) (a8 1) (a8 0))) (NB:=["_law_j","_law_found_here","_law_stand","_law_house"]) (src:=[none,some 3,some 2,some 5]) (bX (by kernel_rfl)) rfl (a7 rfl B.range (aa (pv 4) af)) ?g ?t ?e;case g=>exact fun cl C s₃ H₃ fp=>(aA (i:=0) GN rfl (Or.inl rfl) (Or.inr rfl))
   case t=>exact fun cl C s₃ H₃ fp=>dj (aI ij (bh cw (pv 2) (pv 0) (fun _ _=>rfl)) (pv 3) (aQ _))
   case e=>exact fun cl C s₃ H₃ fp=>(bh bv (pv 1) (pv 0) (fun _ _=>rfl))
  case g2=>exact fun cl C s₃ H₃ fp=>(aA (i:=0) Kw rfl (Or.inl rfl) (Or.inr rfl))
  case t2=>exact fun cl C s₃ H₃ fp=>dj (aI fu (pv 0) (pv 1) rfl)
  case e2=>exact fun cl C s₃ H₃ fp=>(pv 0)
  refine⟨by show 0<=sizeLine;decide,fun F0 Oc=>?_⟩;have s0:=am (o:=.lst []) Oc;have g0:(upd H F0 (.lst [])) F0=some (.lst []):=ah;generalize upd H F0 (.lst [])=H0 at *;refine⟨_,rfl,sa,_,rfl,bK.of (s0 _ _ hU),qE (K:=K) (xs:=st.map oV) (fun i σ H1=>(∃z4 z5 z6 z7 z8 z9,σ=[some (.ref a),some (.ref ha),some (.ref sa),some (.ref F0),z4,z5,z6,z7,z8,z9])/\av H H1/\∃cs,jv ns homes st i=some cs/\H1 F0=some (.lst (cs.map oV))) ⟨⟨_,_,_,_,_,_,rfl⟩,s0,[],rfl,g0⟩ (fun i σ H1 _ z=>bK.of (z.2.1 _ _ hU)) ?_ ?_⟩
  rotate_left
  .rintro σ H1 ⟨⟨z4,z5,z6,z7,z8,z9,rfl⟩,s1,cs,hg,hF⟩;rw[aW] at hg;refine⟨_,rfl,F0,_,rfl,.inl ⟨bn.of hF,fun r uv=>?_⟩⟩;exact qs r cs _ (s1.trans (am uv)) hg ah
  rintro i x pt σ H1 hx ⟨⟨z4,z5,z6,z7,z8,z9,rfl⟩,s1,cs,hg,hF⟩ Oj;have hi:i<st.length:=by have:=(cH.mp hx).1;rwa [aW] at this
  obtain rfl:=bi (hx.symm.trans (jd hi));have sP:=am (o:=.tup [.int (i:Int),oV (st.getD i none)]) Oj;refine⟨pt,_,rfl,bK.of ah,rfl,_,_,rfl,_,_,rfl,rfl,?_⟩;have s2:=s1.trans sP;have Ib:=sP _ _ hF;generalize upd H1 pt (.tup [.int (i:Int),oV (st.getD i none)])=H2 at *;clear Oj sP hF s1;have GR:=qW BX SN (ii hi) hg;have cl:=GR.len;refine mW (fun σ Hx=>σ=[some (.ref a),some (.ref ha),some (.ref sa),some (.ref F0),some (.int (i:Int)),some (oV (st.getD i none)),some .bp,z7,z8,z9]/\Hx=H2) ?_ (fun N hN=>hN _ _ ⟨rfl,rfl⟩);rintro σ Zm ⟨rfl,rfl⟩;refine mW (fun σ Hx=>∃ (o:Option Nat) (x7 x8 x9:Option V),σ=[some (.ref a),some (.ref ha),some (.ref sa),some (.ref F0),some (.int (i:Int)),some (oV (st.getD i none)),some (oV o),x7,x8,x9]/\av Zm Hx/\jv ns homes st (i+1)=some (cs++[o])) ?_ ?_
  .rintro σ H3 ⟨o,x7,x8,x9,rfl,s3,gn⟩;refine⟨_,rfl,.inl ⟨rfl,_,bn.of (s3 _ _ Ib)⟩,_,rfl,F0,_,_,rfl,rfl,s3 _ _ Ib,by rw[aW,cl];exact cG (show i<17 by lia) (by decide),?_⟩;refine⟨⟨_,_,_,_,_,_,rfl⟩,cE (s2.trans s3) Oc,_,gn,by rw[ah,dJ];rfl⟩
  intro N hN;cases ho:st.getD i none with
  |none=>
   have gn:jv ns homes st (i+1)=some (cs++[none]):=by unfold jv;rw[hg,ho]
   exact⟨_,rfl,rfl,_,rfl,dF rfl (hN _ _ ⟨none,_,_,_,by rw[ho];rfl,av.refl _,gn⟩)⟩
  |some h=>
   obtain⟨hh,Ol,iw⟩:=SN.ok i h ho;obtain⟨p,hp⟩:=qV hh Ol iw;have pl:=(ll hp).1;have S5:i<homes.length:=by rw[SN.l];exact hi
   refine⟨_,rfl,rfl,_,rfl,fm rfl ?_⟩;refine⟨_,rfl,_,rfl,by lia,by lia,fun D hD=>?_⟩;rw[show ((i:Int)).toNat=i by lia];refine lr (lo:=0) (n:=i) (fun j=>decide (st.getD j none=some h)) (fun j=>V.int ((cs.getD j none).getD 0:Nat)) (fun σ=>∃u,σ=[u,some (.ref F0),some (.ref sa),some (.int (h:Int))]) hD (by lia) ⟨_,rfl⟩ ?_ ?_
   .rintro j σ H5 Kt Kf hj ⟨u,rfl⟩ s5 kt kf;rw[dD];refine⟨_,rfl,_,rfl,sa,_,_,_,rfl,rfl,bK.of (s5 _ _ (s2 _ _ hU)),aM (jd (by lia)),_,rfl,t_,_,rfl,?_⟩;rw[zq];refine iT (fun c=>?_) (fun c=>kf _ _ ⟨_,rfl⟩ (av.refl _) (kC.mpr c));obtain⟨z,_,_,ez,_⟩:=GR.ok j h hj (eY c);have kt:=kt [some (.int (j:Int)),some (.ref F0),some (.ref sa),some (.int (h:Int))] H5 ⟨_,rfl⟩ (av.refl _) c;rw[ez] at kt;exact⟨_,rfl,_,rfl,F0,_,_,_,rfl,rfl,bn.of (s5 _ _ Ib),aM (show (cs.map oV)[j]?=some (.int (z:Int)) by rw[jd (by lia),ez];rfl),kt⟩
   intro H3 s3 A2;have A2:H3 D=some (.lst (NV (kr st cs h))):=by
    rw[A2];show _=some (HO.lst ((kr st cs h).map fun (x:Nat)=>V.int (x:Int)));unfold kr;rw[fc,cl];rfl
   generalize S7:kr st cs h=us at *;refine⟨_,rfl,_,rfl,_,rfl,_,rfl,ha,_,_,_,rfl,rfl,bK.of (s3 _ _ (s2 _ _ mZ)),aM (qU S5),a,ns,h,homes.getD i 0,rfl,s3 _ _ (s2 _ _ hA),BX,fun H4 s4=>?_⟩;refine⟨(p:Int),1,by rw[hp];rfl,rfl,(p:Int)+1,rfl,by lia,by lia,?_⟩;rw[show ((p:Int)+1).toNat=p+1 by lia];have A3:=s4 _ _ A2;have Wr:=s3.trans s4;refine cC (n:=p+1) (lo:=0) (fun k σ H5=>(∃x8 x9,σ=[some (.ref a),some (.ref ha),some (.ref sa),some (.ref F0),some (.int (i:Int)),some (.int (h:Int)),some (oV (ls ns us h k)),some (.ref D),x8,x9])/\av H4 H5) ⟨⟨_,_,rfl⟩,av.refl _⟩ ?_ ?_
   .rintro k σ H5 hk ⟨⟨x8,x9,rfl⟩,s5⟩;rw[dD];have P_:=s2.trans (Wr.trans s5);refine⟨_,rfl,_,rfl,_,rfl,a,ns,h,k,rfl,P_ _ _ hA,BX,by lia,fun t H6 s6 nt Ws=>⟨t,rfl,⟨_,bn.of Ws⟩,fun D2 lf=>?_⟩⟩;refine n8 (vR ns h k) (fun (y:Nat)=>V.int (y:Int)) (fun y=>decide (y∉us)) (fun (y:Nat)=>V.int (y:Int)) (fun σ=>∃u,σ=[u,some (.ref D)]) Ws lf (bf DZ (by decide)) ⟨_,rfl⟩ ?_ ?_
    .rintro y σ H7 Kt Kf hy ⟨u,rfl⟩ s7 kt kf;refine⟨_,rfl,_,rfl,D,_,rfl,.inl (bn.of (s7 _ _ (s6 _ _ (s5 _ _ A3)))),rfl,lq,_,rfl,?_⟩;rw[ak rfl,zw];by_cases c1:y∈us
     .rw[bD c1];exact kf [some (.int (y:Int)),some (.ref D)] H7 ⟨_,rfl⟩ (av.refl _) (by simp[c1])
     .rw[cV c1];exact⟨_,rfl,kt [some (.int (y:Int)),some (.ref D)] H7 ⟨_,rfl⟩ (av.refl _) (by simp[c1])⟩
    intro H7 s7 LC;have LC:H7 D2=some (.lst (NV (vC ns us h k))):=LC;have PZ:=s6.trans s7;refine⟨_,rfl,by show 0<=sizeLine;decide,fun E1 Sy=>?_⟩;have sE:=am (o:=.lst []) Sy;refine⟨D2,E1,_,[],rfl,rfl,bn.of (sE _ _ LC),bn.of ah,fun i h1 h2=>absurd h2 (by simp),_,rfl,?_⟩;rw[ak rfl,qS];have Wt:=(s5.trans PZ).trans sE;by_cases c:vC ns us h k=[]
    .rw[c];refine dF rfl ⟨⟨some (.int (k:Int)),some (.ref D2),?_⟩,Wt⟩;rw[zx,al (fun z=>z c)];rfl
    .have cn:NV (vC ns us h k)≠[]:=fun z=>c (List.map_eq_nil_iff.mp z);rw[cV cn];obtain⟨m1,m2⟩:=Ie c;refine fm rfl ⟨_,rfl,D2,(vC ns us h k).map fun (y:Nat)=>(y:Int),rfl,?_,fun z=>c (List.map_eq_nil_iff.mp z),fun M hM Zn=>⟨⟨some (.int (k:Int)),some (.ref D2),?_⟩,Wt⟩⟩
     .rw[fc];exact bn.of (sE _ _ LC)
     .obtain⟨y,hy,rfl⟩:=aX.mp hM;have e1:=m2 y hy;have e2:=Zn _ (aX.mpr ⟨_,m1,rfl⟩);have e3:y=Oe (vC ns us h k):=by lia
      rw[zx,ak c,<-e3];rfl
   .rintro σ H5 ⟨⟨x8,x9,rfl⟩,s5⟩;have P_:=Wr.trans s5;refine⟨_,rfl,?_⟩;cases uy:ls ns us h (p+1) with
    |none=>
     have gn:jv ns homes st (i+1)=none:=by unfold jv;rw[hg,ho];dsimp only;rw[hp];show (match ls ns (kr st cs h) h (p+1) with|none=>none|some y=>some (cs++[some y]))=none;rw[S7,uy]
     exact⟨rfl,_,rfl,fm rfl (qn H5 (s2.trans P_) (ye gn hi))⟩
    |some y=>
     have gn:jv ns homes st (i+1)=some (cs++[some y]):=by unfold jv;rw[hg,ho];dsimp only;rw[hp];show (match ls ns (kr st cs h) h (p+1) with|none=>none|some y=>some (cs++[some y]))=_;rw[S7,uy]
     exact⟨rfl,_,rfl,dF rfl (hN _ _ ⟨some y,_,_,_,by rw[ho];rfl,P_,gn⟩)⟩
end
abbrev Tj:Stmt:=fH 65
abbrev Qa:Stmt:=fH 66
theorem Ee:(["_law_i","_law_sides_here","_law_house","_law_homes","_law_stand"]:List Str).Nodup:=by decide +kernel
theorem Oq:(["_law_phase_here","_law_k"]:List Str).Nodup:=by decide +kernel
def Ih(ns homes:List Nat)(st:List (Option Nat))(h:Nat):List Nat:=((List.range st.length).filter fun i=>decide (st.getD i none=some h)).map fun i=>(lj ns h (homes.getD i 0)).getD 0
theorem Ky{ns homes:List Nat}{st:List (Option Nat)}{h k:Nat}:((Ih ns homes st h).filter fun y=>decide (y<=k)).length=(Ig ns homes st h k).length:=by
 unfold Ih Ig;rw[List.filter_map,aW,List.filter_filter];congr 1;refine List.filter_congr fun i _=>?_;rw[Bool.decide_and,Bool.and_comm];rfl
section
variable {P:Program} {w:World} {K:PySem.W.Frag} {mg:Str->Option Value} {base:Heap}
theorem AN:aw ["_law_sides_here","_law_homes","_law_stand","_law_house","_law_phases","_law_room","_law_k"] ["_law_sides_here","_law_homes","_law_stand"] (aj Tj):=⟨rfl,rfl,rfl,by decide +kernel,rfl,by decide +kernel,by decide +kernel⟩
def Kz:Sp:=fun vs H Q _=>∃ (a ha sa:Addr) (ns homes:List Nat) (st:List (Option Nat)),vs=[.ref a,.ref ha,.ref sa]/\H a=some (.tup (NV ns))/\H ha=some (.tup (NV homes))/\H sa=some (.tup (st.map oV))/\Bx ns/\Sn ns homes st/\
 ∀ (bb:Bool) (H':Hp),av H H'->(bb=true↔∃h k,h<pr ns/\k<ns.length/\Ea ns homes st h k)->Q (.bl bb) H'
set_option maxHeartbeats 8000000 in
theorem Os{f:Addr}{fd:FuncData}(F:dR K "_law_crowded" "_law_crowded" Tj f fd)(B:Bl mg)(MA:bJ P w K mg base a_ 1 "_law_many" ["_law_sides_here"] AE)(PH:bJ P w K mg base a_ 2 "_law_phase" ["_law_sides_here","_law_house","_law_home"] DQ)(TI:bJ P w K mg base a_ 3 "_law_ties" ["_law_sides_here","_law_house","_law_k"] DP):a9 P w K mg base a_ 4 f fd ["_law_sides_here","_law_homes","_law_stand"] Kz:=by
 refine F.ok AN (fun vs H Q E h=>?_) (fun bL A outer s H vs Q E hr h=>?_)
 .obtain⟨a,ha,sa,ns,homes,st,rfl,_⟩:=h;rfl
 .obtain⟨a,ha,sa,ns,homes,st,rfl,hA,mZ,hU,BX,SN,q⟩:=h;have h1:aZ 1 _:=hr.mono (by decide);have h2:aZ 2 _:=hr.mono (by decide);have h3:aZ 3 _:=hr.mono (by decide);have x_:=SN.x_;have l5:=BX.l5;have JS:=BX.JS;refine'⟨_,(ag (bW dQ rfl (a7 rfl B.range (aa (az MA h1 aL (aa (pv 0) af)) af)) (aA (i:=3) AN.nd rfl (Or.inr rfl))
    (ag (eC (i:=4) (g:=(bR 0)) (tt:=(ik (kJ (L7) (kJ (xh K) (a8 4) (a8 0)) (a8 2)))) (te:=(kL DQ [] E0 (bF (a8 1) (bF (a8 2) (bF (kJ (xh K) (a8 3) (a8 0)) gU))))) (NB:=["_law_i","_law_sides_here","_law_house","_law_homes","_law_stand"]) (src:=[none,some 0,some 3,some 1,some 2]) (bX (by kernel_rfl)) rfl (a7 rfl B.range (aa (au aG (by rfl) B.len cY (aa (pv 2) af)) af)) ?g1 ?t1 ?e1 AN.nd rfl rfl rfl)
    (ag (aK (i:=5) AN.nd rfl (Or.inl rfl) aB)
    (ai (bW dQ rfl (a7 rfl B.range (aa (au aG (by rfl) B.len cY (aa (pv 0) af)) af)) (aA (i:=6) AN.nd rfl (Or.inr rfl))
     (ag (aK (i:=5) AN.nd rfl (Or.inl rfl) (ba dz (pv 5) (au aG (by rfl) B.len cY (aa (az TI h3 aL (aa (pv 0) (aa (pv 3) (aa (pv 6) af)))) af))))
     (ai (bt (aI uD (au aG (by rfl) B.len cY (aa ?c2 af)) (pv 5) (aQ _)) (ai (aE fV)) aO))))))))
   (ai (aE fV))),?_⟩
  case g1=>exact fun cl C s₃ H₃ fp=>(aA (i:=0) Ee rfl (Or.inl rfl) (Or.inr rfl))
  case t1=>exact fun cl C s₃ H₃ fp=>dj (aI ij (bh cw (pv 4) (pv 0) (fun _ _=>rfl)) (pv 2) (aQ _))
  case e1=>exact fun cl C s₃ H₃ fp=>(az PH h2 aL (aa (pv 1) (aa (pv 2) (aa (bh cw (pv 3) (pv 0) (fun _ _=>rfl)) af))))
  case c2=>
   refine' dG (g:=(bR 0)) (tt:=(ik (kJ (EJ fun i j=>.bl (decide (i<=j))) (a8 0) (a8 1)))) (te:=(a8 0)) (NB:=["_law_phase_here","_law_k"]) (src:=[none,some 6]) (bX (by kernel_rfl)) rfl (di (pv 4)) ?g ?t ?e;case g=>exact fun cl C s₃ H₃ fp=>(aA (i:=0) Oq rfl (Or.inl rfl) (Or.inr rfl))
   case t=>exact fun cl C s₃ H₃ fp=>dj (aI uC (pv 0) (pv 1) (aQ _))
   case e=>exact fun cl C s₃ H₃ fp=>(pv 0)
  refine⟨_,rfl,a,ns,rfl,hA,(fun x hx=>(BX.sd x hx).2),⟨_,rfl,by lia,by lia,?_⟩⟩;rw[show (((pr ns:Nat)):Int).toNat=pr ns by lia];refine cC (n:=pr ns) (lo:=0) (fun h σ H1=>(∃z3 z4 z5 z6,σ=[some (.ref a),some (.ref ha),some (.ref sa),z3,z4,z5,z6])/\av H H1/\∀h' k,h'<h->k<ns.length->¬ Ea ns homes st h' k) ⟨⟨_,_,_,_,rfl⟩,av.refl _,fun h' k hh=>absurd hh (gm _)⟩ ?_ ?_
  rotate_left
  .rintro σ H1 ⟨⟨z3,z4,z5,z6,rfl⟩,s1,nc⟩;exact q false H1 s1 ⟨fun z=>(nomatch z),fun ⟨h,k,hh,hk,c⟩=>absurd c (nc h k hh hk)⟩
  rintro h σ H1 hh ⟨⟨z3,z4,z5,z6,rfl⟩,s1,nc⟩;rw[dD];refine⟨_,rfl,sa,_,rfl,.inr (bK.of (s1 _ _ hU)),_,rfl,by rw[aW];lia,by rw[aW];lia,fun D hD=>?_⟩;rw[aW];refine lr (lo:=0) (n:=st.length) (fun j=>decide (st.getD j none=some h)) (fun j=>V.int ((lj ns h (homes.getD j 0)).getD 0:Nat)) (fun σ=>∃u,σ=[u,some (.ref a),some (.int (h:Int)),some (.ref ha),some (.ref sa)]) hD (by lia) ⟨_,rfl⟩ ?_ ?_
  .rintro j σ H5 Kt Kf hj ⟨u,rfl⟩ s5 kt kf;have Gs:=s1.trans s5;rw[dD];refine⟨_,rfl,_,rfl,sa,_,_,_,rfl,rfl,bK.of (Gs _ _ hU),aM (jd hj),_,rfl,t_,_,rfl,?_⟩;rw[zq];refine iT (fun c=>?_) (fun c=>kf _ _ ⟨_,rfl⟩ (av.refl _) (kC.mpr c));have ho:=eY c;obtain⟨_,Ol,iw⟩:=SN.ok j h ho;obtain⟨p,hp⟩:=qV hh Ol iw;refine⟨_,rfl,_,rfl,_,rfl,_,rfl,ha,_,_,_,rfl,rfl,bK.of (Gs _ _ mZ),aM (qU (by rw[SN.l];exact hj)),a,ns,h,homes.getD j 0,rfl,Gs _ _ hA,BX,fun H6 s6=>?_⟩;have kt:=kt [some (.int (j:Int)),some (.ref a),some (.int (h:Int)),some (.ref ha),some (.ref sa)] H6 ⟨_,rfl⟩ s6 c;rw[hp] at kt |-;exact kt
  intro H2 s2 lf;have lf:H2 D=some (.lst (NV (Ih ns homes st h))):=by
   rw[lf];show _=some (HO.lst ((Ih ns homes st h).map fun (x:Nat)=>V.int (x:Int)));unfold Ih;rw[fc];rfl
  have Zo:(Ih ns homes st h).length<=16:=by
   unfold Ih;rw[aW];exact bf (mB _ _) (by rw[iB];exact x_)
  have n6:=s1.trans s2;refine⟨_,rfl,a,_,rfl,.inr (bK.of (n6 _ _ hA)),_,rfl,by rw[bu];lia,by rw[bu];lia,?_⟩;rw[bu];refine cC (n:=ns.length) (lo:=0) (fun k σ H3=>(∃z6,σ=[some (.ref a),some (.ref ha),some (.ref sa),some (.int (h:Int)),some (.ref D),some (.int ((AL ns h k).length:Nat)),z6])/\av H2 H3/\∀k',k'<k->¬ Ea ns homes st h k') ⟨⟨_,rfl⟩,av.refl _,fun k' hk=>absurd hk (gm _)⟩ ?_ ?_
  rotate_left
  .rintro σ H3 ⟨⟨z6,rfl⟩,s3,nk⟩;refine⟨⟨_,_,_,_,rfl⟩,n6.trans s3,fun h' k Sk hk=>?_⟩;rcases hZ.mp Sk with z|z
   .exact nc h' k z hk
   .subst z;exact nk k hk
  rintro k σ H3 hk ⟨⟨z6,rfl⟩,s3,nk⟩;rw[dD];have DS:=n6.trans s3;have ek:(((AL ns h k).length:Nat):Int)+(((NV (vR ns h k)).length:Nat):Int)=(((AL ns h (k+1)).length:Nat):Int):=by
   show _=(((AL ns h k++vR ns h k).length:Nat):Int);rw[bu,dP,Int.natCast_add]
  refine mW (fun σ Hx=>σ=[some (.ref a),some (.ref ha),some (.ref sa),some (.int (h:Int)),some (.ref D),some (.int ((AL ns h (k+1)).length:Nat)),some (.int (k:Int))]/\av H2 Hx) ?_ ?_
  rotate_left
  .intro N hN;refine⟨_,rfl,_,rfl,_,rfl,_,rfl,a,ns,h,k,rfl,DS _ _ hA,BX,hk,fun t H4 s4 nt P1=>⟨t,_,rfl,.inl (bn.of P1),_,_,rfl,rfl,hN _ _ ⟨?_,s3.trans s4⟩⟩⟩;rw[<-ek];rfl
  rintro σ H4 ⟨rfl,Qb⟩;refine⟨_,rfl,D,rfl,⟨_,bn.of (Qb _ _ lf)⟩,fun D2 Tk=>?_⟩;refine n8 (Ih ns homes st h) (fun (y:Nat)=>V.int (y:Int)) (fun y=>decide (y<=k)) (fun (y:Nat)=>V.int (y:Int)) (fun σ=>∃u,σ=[u,some (.int (k:Int))]) (Qb _ _ lf) Tk (by lia) ⟨_,rfl⟩ ?_ ?_
  .rintro y σ H7 Kt Kf hy ⟨u,rfl⟩ s7 kt kf;refine⟨_,rfl,_,rfl,_,_,rfl,rfl,_,rfl,?_⟩;by_cases c:y<=k
   .rw[bD (show (y:Int)<=(k:Int) by lia)];exact⟨_,rfl,kt [some (.int (y:Int)),some (.int (k:Int))] H7 ⟨_,rfl⟩ (av.refl _) (by simp[c])⟩
   .rw[cV (show ¬ (y:Int)<=(k:Int) by lia)];exact kf [some (.int (y:Int)),some (.int (k:Int))] H7 ⟨_,rfl⟩ (av.refl _) (by simp[c])
  intro H7 s7 LC;refine⟨D2,_,rfl,.inl (bn.of LC),_,rfl,_,_,rfl,rfl,_,rfl,?_⟩;rw[aW,Ky];by_cases c:Ea ns homes st h k
  .refine fm (bD (by unfold Ea at c;lia)) (q true H7 (n6.trans (Qb.trans s7)) ⟨fun _=>⟨h,k,hh,hk,c⟩,fun _=>rfl⟩)
  .refine dF (cV (by unfold Ea at c;lia)) ⟨⟨_,rfl⟩,Qb.trans s7,fun k' xm=>?_⟩;rcases hZ.mp xm with z|z
   .exact nk k' z
   .subst z;exact c
theorem GQ{X:Cx}{CX:nU}{k:Nat}{x:Str}{ps:List Str}{sp:Sp}{E:St->XK}{e:Expr}{es:List Expr}{t:TA}{p pos:Pos}(C:bJ X.prog X.w X.K X.mg X.base CX k x ps sp)(hr:aZ k X.A)(hx:kR CX X E)(ha:PA X (e::es) t)(hg:Gl X x:=by rfl)(m8:(x==("__debug__":Str))=false:=by decide)(he:starEach (e::es) X.env=(false,eval e X.env)::starEach es X.env:=by rfl)(mG:(backTo pos (starEach es X.env)).any (·.1)=false:=by rfl):
  PE X (.Call (.Name x p) (e::es) [] pos) (xo sp [] E t):=by
 obtain⟨f,fd,a,b,c,d⟩:=C.ex;exact Cr d hr hg a b c .nil hx ha m8 he mG
structure Rf(K:PySem.W.Frag)(mg:Str->Option Value)(c:Nat->Addr)(cB CN:Addr):Prop where
 Ot:Er K mg "BeatError" cB
 berth:Wc K c CN 7
 sb:PySem.W.subIn K (.ref CN) (.ref cB)=some true
theorem Ef:aw ["_law_box","_law_homes","_law_stand","_law_told_here","_law_e"] ["_law_box","_law_homes","_law_stand"] (aj Qa):=⟨rfl,rfl,rfl,by decide +kernel,rfl,by decide +kernel,by decide +kernel⟩
def KA(C CB Pb:Addr):Sp:=fun vs H Q _=>∃ (L:Addr->Prop) (b ha sa:Addr) (ns homes:List Nat) (st:List (Option Nat)),vs=[.ref b,.ref ha,.ref sa]/\dZ C CB H L b ns/\H ha=some (.tup (NV homes))/\H sa=some (.tup (st.map oV))/\Sn ns homes st/\jz Pb H/\¬ L Pb/\
 (∀ (r:Addr) (H':Hp),jz Pb H'->m3 Pb H H'->jv ns homes st st.length=none->H' r=some (.lst [.int 7,.bl true])->Q (.ref r) H')/\
 ∀ (r:Addr) (cs:List (Option Nat)) (H':Hp),jz Pb H'->m3 Pb H H'->jv ns homes st st.length=some cs->H' r=some (.tup (cs.map oV))->Q (.ref r) H'
set_option maxHeartbeats 8000000 in
theorem Ou{f C CB CN cB Pb:Addr}{c:Nat->Addr}{fd:FuncData}(F:dR K "_law_told" "_law_told" Qa f fd)(B:Bl mg)(R:Rf K mg c cB CN)(KD:Fn P w K mg base 1 "_law_kinds" ["_law_e"] (Gq K c))(BR:bJ P w K mg base (eO P w) 11 "berth" ["box","homes","stand"] (GF C CB Pb CN)):a9 P w K mg base a_ 12 f fd ["_law_box","_law_homes","_law_stand"] (KA C CB Pb):=by
 refine F.ok Ef (fun vs H Q E h=>?_) (fun bL A outer s H vs Q E hr h=>?_)
 .obtain⟨L,b,ha,sa,ns,homes,st,rfl,_⟩:=h;rfl
 .obtain⟨L,b,ha,sa,ns,homes,st,rfl,BA,mZ,hU,SN,tb,nl,qn,qs⟩:=h;have h1:aZ 1 _:=hr.mono (by decide);refine'⟨_,ag (aK (i:=3) Ef.nd rfl (Or.inl rfl) (cu af))
   (ag (Go (i:=4) (tb:=fun E=>Bz (xo (GF C CB Pb CN) [] E (bF (a8 0) (bF (a8 1) (bF (a8 2) gU)))) (bR 3)) (th:=fun p'=>Bz (kJ Ml (xr ((A.deeper (PyProof.Rows.envOfC "_law_told" (aj Qa) s.heap.objs.size f bL)).mark (some (.ref p'))) (Gq K c) [] E0 (bF (a8 4) gU)) (Mb (bF (QG (MF K) (bF (a8 4) (bF (tC (.ty "ValueError")) gU))) gU))) (bR 3)) R.Ot.ok rfl R.Ot.at_ rfl rfl Ef.nd rfl rfl
      (fun E Zp xe hx=>ai (aK (i:=3) Ef.nd rfl (Or.inl rfl) (GQ BR hr hx (aa (pv 0) (aa (pv 1) (aa (pv 2) af))))))
      ?hh)
   (ai (aE (pv 3)))),?_⟩
  case hh=>exact fun Zp p'=>ai (aK (i:=3) Ef.nd rfl (Or.inl rfl) (ba sI (Fo KD ⟨h1.dp,h1.un⟩ iU (aa (pv 4) af)) (cu (aa (au fF (by rfl) B.tI dO (aa (pv 4) (aa (gO (v:=.ty "ValueError") rfl B.RH NW rfl) af))) af))))
  refine⟨by show 0<=sizeLine;decide,fun l0 Mr=>?_⟩;have s0:=am (o:=.lst []) Mr;have Zq:=BA.same s0;have a0:=s0 _ _ mZ;have b0:=s0 _ _ hU;have t0:=hX tb s0;generalize upd H l0 (.lst [])=H0 at *;refine⟨fun σ' C' a H'=>σ'=[some (.ref b),some (.ref ha),some (.ref sa),some (.ref l0),none]/\C'=.ref CN/\jz Pb H'/\m3 Pb H H'/\jv ns homes st st.length=none,⟨?_,?_⟩⟩
  .refine⟨_,rfl,_,rfl,_,rfl,L,b,ha,sa,ns,homes,st,rfl,Zq,a0,b0,SN,t0,nl,fun H' t' s' gn=>⟨rfl,rfl,t',(m3.of s0).trans s',gn⟩,fun r cs H' t' s' gs uv=>⟨_,rfl,qs r cs H' t' ((m3.of s0).trans s') gs uv⟩⟩
  .rintro σ' C' H4 ⟨rfl,rfl,t4,s4,gn⟩;refine⟨R.sb,⟨_,rfl⟩,fun px Zr=>?_⟩;have kd:=R.berth;have s5:=am (o:=sQ px (.ref CN)) Zr;refine⟨_,rfl,.inr ⟨px,_,rfl,ah⟩,px,CN,7,rfl,kd,ah,fun r H6 s6 Nt=>?_⟩;refine⟨_,rfl,_,_,_,.ref CN,true,rfl,⟨rfl,kd.kv⟩,.exc kd.ok (s6 _ _ ah),by show 1<=sizeLine;decide,fun l hl=>?_⟩;refine⟨r,l,_,_,rfl,rfl,(am hl) _ _ Nt,ah,by show 2<=sizeLine;decide,fun l2 Mn=>⟨_,rfl,?_⟩⟩;have ss:=((s5.trans s6).trans (am (o:=.lst [.bl true]) hl)).trans (am (o:=.lst ([V.int ((7:Nat):Int)]++[.bl true])) Mn);exact qn l2 _ (hX t4 ss) (s4.trans (m3.of ss)) gn ah
end
end nz
namespace L2
open PySem PySem.Spec PyProof.Rows
def Ov(X:Cx):R2:=fun x y H Q=>Nv X true 0 x y H Q\/HW X true 0 x y H Q
theorem GS{X:Cx}(hu:X.A.units+(0+1)<cLine):jC X (compareOp .NotEq) (Ov X):=by
 intro ae s σ H x y v u Q I rx ry h;rcases h with h|h
 .exact zg hu ae s σ H x y v u Q I rx ry h
 .exact zh hu ae s σ H x y v u Q I rx ry h
end L2
namespace nz
open PySem L2 ir
abbrev yf:Stmt:=fH 67
theorem KB{ns:List Nat}(B:Bx ns):2<=pr ns:=by
 have h1:=B.l1;have hs:=B.sd;have hp:=B.pos;cases ns with
 |nil=>exact absurd h1 (by decide)
 |cons n l=>
  have a:=(hs n bC).1;have b:=DH (ns:=l) fun x hx=>hp x (bz _ hx);show 2<=n*pr l;exact bf (show 2<=n*1 by lia) (lC n b)
theorem _root_.L2.eN.kE{lp:Pos}{q:Str}{p Pt:Addr}{H H':Hp}(t:eN lp q Pt H)(s:bG p H H')(hp:cq H p):eN lp q Pt H':=by
 obtain⟨a,b,e,_⟩:=hp;rcases t with z|⟨c,z,y⟩
 .exact .inl (s _ _ z (by rintro rfl;rw[z] at e;cases e))
 .exact .inr ⟨c,s _ _ z (by rintro rfl;rw[z] at e;cases e),s _ _ y (by rintro rfl;rw[y] at e;cases e)⟩
theorem _root_.L2.eN.sm{lp:Pos}{q:Str}{Pt:Addr}{H H':Hp}(t:eN lp q Pt H)(s:av H H'):eN lp q Pt H':=by
 rcases t with z|⟨c,z,y⟩
 .exact .inl (s _ _ z)
 .exact .inr ⟨c,s _ _ z,s _ _ y⟩
theorem zy{lp Zt:Pos}{q q':Str}{Pt Pb:Addr}{H H':Hp}(t:eN lp q Pt H)(tb:eN Zt q' Pb H)(n:Pt≠Pb)(s:m3 Pb H H'):eN lp q Pt H':=by
 rcases t with z|⟨c,z,y⟩
 .exact .inl (s _ _ z n)
 .exact .inr ⟨c,s _ _ z n,s _ _ y (dH tb y (fun _ z=>nomatch z))⟩
section
variable {P:Program} {w:World} {K:PySem.W.Frag} {mg:Str->Option Value} {base:Heap}
theorem Eg{X:Cx}{H:Hp}{x:V}(h:ee x=true)(e:ut x x=true):HV X H 0 x x:=by
 intro ae s σ A u v I hu rx ry;have q:=sw (A:=A) (s:=s) rx ry h h;rw[e] at q;exact q
theorem vF{X:Cx}{H:Hp}{j:Int}:∀i,i<[V.int j,.bl true].length->i<[V.int j,.bl true].length->HV X H 0 ([V.int j,.bl true].getD i .bp) ([V.int j,.bl true].getD i .bp)
 |0,_,_=>F_
 |1,_,_=>Eg rfl rfl
 |n+2,h,_=>absurd h (by show ¬ n+2<2;lia)
theorem Ow{H:Hp}{cs:List (Option Nat)}:∀x∈cs.map oV,∃o,A5 K H x o:=fun x hx=>by
 obtain⟨o,_,rfl⟩:=aX.mp hx;cases o with
 |none=>exact⟨none,fun H' _=>.no ⟨_,.of .bp,.inl rfl⟩⟩
 |some y=>exact⟨_,d0⟩
set_option maxHeartbeats 8000000 in
def A_(K:PySem.W.Frag)(H:Hp)(a:Addr)(xs:List V):Prop:=(∃o,H a=some (.qf o (.lst xs)))\/(∀H':Hp,bn K H' a xs)
theorem A_.seq{H:Hp}{a:Addr}{xs:List V}(h:A_ K H a xs):bn K H a xs:=by
 rcases h with ⟨o,h⟩|h
 .exact .inl (.inr ⟨o,h⟩)
 .exact h H
theorem A_.mono{H H':Hp}{a:Addr}{xs:List V}(h:A_ K H a xs)(e:∀o u,H a=some (.qf o u)->H' a=some (.qf o u)):A_ K H' a xs:=by
 rcases h with ⟨o,h⟩|h
 .exact .inl ⟨o,e _ _ h⟩
 .exact .inr h
theorem A_.jK{H H':Hp}{a p:Addr}{xs:List V}(h:A_ K H a xs)(s:bG p H H')(hp:cq H p):A_ K H' a xs:=by
 obtain⟨x,y,e,_⟩:=hp;exact h.mono fun o u z=>s _ _ z (by rintro rfl;rw[z] at e;cases e)
theorem Ox{X:Cx}{H:Hp}{o:Option Nat}:HV X H 0 (oV o) (oV o):=by
 intro ae s σ A u v I hu rx ry;have h:=sw (A:=A) (s:=s) rx ry (by cases o <;> rfl) (by cases o <;> rfl);rw[show ut (oV o) (oV o)=true by cases o <;> simp[oV,ut]] at h;exact h
theorem Eh{X:Cx}{H:Hp}{cs:List (Option Nat)}:∀i,i<(cs.map oV).length->i<(cs.map oV).length->HV X H 0 ((cs.map oV).getD i .bp) ((cs.map oV).getD i .bp):=fun i h1 _=>by
 rw[aW] at h1;rw[bU,jd h1];exact Ox
theorem lu:aw ["_law_script","_law_k","_law_pot_here","_law_sides_here","_law_box","_law_homes","_law_stand","_law_due","_law_told_here"] ["_law_script"] (aj yf):=⟨rfl,rfl,rfl,by decide +kernel,rfl,by decide +kernel,by decide +kernel⟩
def zz(K:PySem.W.Frag)(Pt Pb:Addr):Sp:=fun vs H Q _=>∃ (a:Addr) (ns:List Int),vs=[.ref a]/\A_ K H a (ns.map V.int)/\ns.length<=63/\lc Pt H/\jz Pb H/\∀H',Q (.bl true) H'
set_option maxHeartbeats 8000000 in
theorem KC{f C CB Pt Pb fB:Addr}{fd Wu:FuncData}(F:dR K "law" "law" yf f fd)(B:Bl mg)(Qc:Pt≠Pb)(TB:Gh K mg CB)(MB:Mk K CB fB)(bB:eL K Wu ["self","sides"] [])(GB:a9 P w K mg base a_ 11 fB Wu ["self","sides"] (DE C CB Pt))(PT:bJ P w K mg base a_ 1 "_law_pot" ["_law_script","_law_k"] (DL K))(SI:bJ P w K mg base a_ 2 "_law_sides" ["_law_pot_here"] J8)(DW:bJ P w K mg base a_ 5 "_law_drawn" ["_law_pot_here","_law_sides_here"] Kv)(FO:bJ P w K mg base a_ 4 "_law_found" ["_law_sides_here","_law_homes","_law_stand"] Kx)(CW:bJ P w K mg base a_ 4 "_law_crowded" ["_law_sides_here","_law_homes","_law_stand"] Kz)(TO:bJ P w K mg base a_ 12 "_law_told" ["_law_box","_law_homes","_law_stand"] (KA C CB Pb))(IB:bJ P w K mg base a_ 9 "is_berthed" ["box","homes","stand","came"] (Kd K C CB)):
  a9 P w K mg base a_ 13 f fd ["_law_script"] (zz K Pt Pb):=by
 refine F.ok lu (fun vs H Q E h=>?_) (fun bL A outer s H vs Q E hr h=>?_)
 .obtain⟨a,ns,rfl,_⟩:=h;rfl
 .obtain⟨a,KE,rfl,hS,u6,tb,Zu,q⟩:=h;have h1:aZ 1 _:=hr.mono (by decide);have h2:aZ 2 _:=hr.mono (by decide);have h4:aZ 4 _:=hr.mono (by decide);have h5:aZ 5 _:=hr.mono (by decide);have h9:aZ 9 _:=hr.mono (by decide);refine⟨_,(ag (bW dQ rfl (a7 rfl B.range (aa (au (qk rfl) (by rfl) B.max wa (aa aB (aa (au (ql rfl) (by rfl) B.min v_ (aa (au aG (by rfl) B.len cY (aa (pv 0) af)) (aa aB af))) af))) af)) (aA (i:=1) lu.nd rfl (Or.inl rfl))
    (ag (aK (i:=2) lu.nd rfl (Or.inl rfl) (az PT h1 aL (aa (pv 0) (aa (pv 1) af))))
    (ag (aK (i:=3) lu.nd rfl (Or.inl rfl) (az SI h2 aL (aa (pv 2) af)))
    (ag (aK (i:=4) lu.nd rfl (Or.inl rfl) (yu MB GB hr rfl TB.RI bB .nil aL (aa (pv 3) af)))
    (ag (lS (az DW h5 aL (aa (pv 2) (aa (pv 3) af))) (gP (n:=2) rfl (bw (aA (i:=5) lu.nd rfl (Or.inl rfl)) (bw (aA (i:=6) lu.nd rfl (Or.inl rfl)) ft))))
    (ag (aK (i:=7) lu.nd rfl (Or.inl rfl) (az FO h4 aL (aa (pv 3) (aa (pv 5) (aa (pv 6) af)))))
    (ag (bt (aI qj (fW iR (pv 7) bV (aQ _)) (az CW h4 aL (aa (pv 3) (aa (pv 5) (aa (pv 6) af)))) (aQ _)) (ai (aE fV)) aO)
    (ag (aK (i:=8) lu.nd rfl (Or.inl rfl) (az TO hr aL (aa (pv 4) (aa (pv 5) (aa (pv 6) af)))))
    (ag (bt (PW.pt (sf (aI iR (pv 7) bV (aQ _)) (nM (aI (zh (d:=0) hr.u) (pv 8) (cu (aa aB (aa fV af))) (aQ _))))) (ai (aE fV)) aO)
    (ag (bt (PW.pt (sf (aI nQ (pv 7) bV (aQ _)) (nM (PW.pt (uA (aI (zg (d:=0) hr.u) (pv 8) (pv 7) (aQ _)) (oO (c_ (cU (az IB h9 aL (aa (pv 4) (aa (pv 5) (aa (pv 6) (aa (pv 8) af))))))))))))) (ai (aE fV)) aO)
    (ai (bt (aI (GS hr.u) (az TO hr aL (aa (pv 4) (aa (pv 5) (aa (pv 6) af)))) (pv 8) (aQ _)) (ai (aE fV)) aO))))))))))))
   (ai (aE fV))),?_⟩
  refine⟨_,rfl,a,_,rfl,.inl hS.seq,_,5,rfl,1,_,rfl,_,rfl,?_⟩;obtain⟨j,hj,j1⟩:∃j:Int,(if (if (5:Int)<(((KE.map V.int).length:Nat):Int) then (5:Int) else (((KE.map V.int).length:Nat):Int)) > 1 then (if (5:Int)<(((KE.map V.int).length:Nat):Int) then (5:Int) else (((KE.map V.int).length:Nat):Int)) else 1)=j/\1<=j/\j<=5:=⟨_,rfl,by split <;> split <;> lia⟩
  rw[hj];refine⟨by lia,by lia,cC (n:=j.toNat) (lo:=0) (fun k σ H2=>(∃x1 x2 x3 x4 x5 x6 x7 x8,σ=[some (.ref a),x1,x2,x3,x4,x5,x6,x7,x8])/\A_ K H2 a (KE.map V.int)/\lc Pt H2/\jz Pb H2) ⟨⟨_,_,_,_,_,_,_,_,rfl⟩,hS,tb,Zu⟩ ?_ (fun σ H2 _=>q H2)⟩;rintro k σ H2 hk ⟨⟨x1,x2,x3,x4,x5,x6,x7,x8,rfl⟩,S2,t2,b2⟩;refine⟨_,rfl,_,rfl,a,KE,k,by rw[dD];rfl,S2.seq,by lia,fun p H3 s3 np p3=>?_⟩;refine⟨_,rfl,p,rfl,p3,fun sd ns H6 s6 p6 LB BX=>?_⟩;have JS:=BX.JS;have Zv:=KB BX;have S6:=(S2.mono fun o u e=>s3 _ _ e).jK s6 p3;have t6:=(t2.sm s3).kE s6 p3;have b6:=(b2.sm s3).kE s6 p3;refine⟨_,rfl,fun bx dx nx R9 R_=>?_⟩;have sN:av H6 (upd (upd H6 dx (.own bx)) bx (.ins CB dx [])):=(am (o:=.own bx) R9).trans (am (D:=bx) (o:=.ins CB dx []) (by rw[ao R_.symm];exact nx));have Tl:(upd (upd H6 dx (.own bx)) bx (.ins CB dx [])) bx=some (.ins CB dx []):=ah;generalize upd (upd H6 dx (.own bx)) bx (.ins CB dx [])=HM at *;refine⟨bx,dx,sd,ns,rfl,Tl,sN _ _ LB,BX,t6.sm sN,fun H8 BA t8 s8=>⟨rfl,?_⟩⟩;have tN:lc Pt HM:=t6.sm sN;have bN:jz Pb HM:=b6.sm sN;have kp:∀ {c o},H6 c=some o->(∀ps,o≠.mH ps)->H8 c=some o:=fun {c o} e nt=>s8 _ _ (sN _ _ e) (aq e nx) (tN.not (sN _ _ e) nt);have S8:A_ K H8 a (KE.map V.int):=S6.mono fun o u e=>kp e (by intro ps z;cases z);have p8:cq H8 p:=by
   obtain⟨u,v,e,r⟩:=p6;exact⟨u,v,kp e (by intro ps z;cases z),r⟩
  have Zw:¬ (HM p=none):=fun z=>(p6.same sN).full z;have Qd:=kp LB (by intro ps z;cases z);have b8:jz Pb H8:=by
   have Wv:Pb≠bx:=(dH bN Tl (fun _ z=>nomatch z)).symm;rcases bN with z|⟨c,z,y⟩
   .exact .inl (s8 _ _ z Wv Qc.symm)
   .exact .inr ⟨c,s8 _ _ z Wv Qc.symm,s8 _ _ y (fun e=>by rw[e,Tl] at y;cases y) (tN.not y (fun _ z=>nomatch z))⟩
  have LD:¬ (HM Pb=none):=fun z=>by rcases bN with y|⟨_,y,_⟩ <;> · rw[z] at y;cases y
  clear kp;refine⟨_,rfl,_,rfl,p,sd,ns,rfl,p8,Qd,BX,Zv,fun t ha sa homes st H9 s9 p9 ht mZ hU SN=>⟨t,_,rfl,bK.of ht,rfl,_,_,rfl,_,_,rfl,rfl,?_⟩⟩;have Qe:=BA.keep (H':=H9) fun c o e h=>s9 _ _ e fun z=>by
   subst z;rcases h with h|h
   .exact Zw h
   .obtain⟨x,y,g,_⟩:=p8;rw[e] at g;injection g with g;exact h.1 _ g
  have S9:=S8.jK s9 p8;have t9:=t8.kE s9 p8;have b9:=b8.kE s9 p8;have Tn:=s9 _ _ Qd (p8.neT Qd);clear S8 t8 b8 Qd BA p8 s8 s9;have Zx:∀ {H':Hp},Q (.bl true) H':=fun {H'}=>q H';have Ww:∀ (bb:Bool) (HB:Hp),av H9 HB->(bb=true↔∃h k,h<pr ns/\k<ns.length/\Ea ns homes st h k)->(bb=true↔jv ns homes st st.length=none):=fun bb HB sB hb=>by
   rw[hb];constructor
   .rintro⟨h,k,hh,hk,c⟩;cases e:jv ns homes st st.length with
    |none=>rfl
    |some cs=>exact absurd c (GD BX (qW BX SN (aN _) e) hk)
   .exact fun e=>vD BX SN (aN _) e
  refine⟨_,rfl,_,rfl,_,rfl,sd,ha,sa,ns,homes,st,rfl,Tn,mZ,hU,BX,SN,fun HA sA gn=>?_,fun Zy cs HA sA gs Tp=>?_⟩
  .refine⟨_,rfl,rfl,_,rfl,_,rfl,_,rfl,sd,ha,sa,ns,homes,st,rfl,sA _ _ Tn,sA _ _ mZ,sA _ _ hU,BX,SN,fun bb HB sB hb=>?_⟩;obtain rfl:bb=true:=(Ww bb HB (sA.trans sB) hb).mpr gn;refine⟨rfl,_,rfl,dF (by decide) ?_⟩;have qY:=sA.trans sB;refine⟨_,rfl,_,rfl,_,rfl,_,bx,ha,sa,ns,homes,st,rfl,Qe.same qY,qY _ _ mZ,qY _ _ hU,SN,b9.sm qY,LD,fun r HC tC sC _ hr=>?_,fun r cs HC tC sC gs=>absurd gs (by rw[gn];intro z;cases z)⟩;refine⟨_,rfl,rfl,_,rfl,fm rfl ?_⟩;refine⟨_,rfl,by show 2<=sizeLine;decide,fun l7 Zz=>?_⟩;have s7:=am (o:=.lst [.int 7,.bl true]) Zz;have nr:r≠Pb:=dH tC hr (fun _ z=>nomatch z);refine⟨r,l7,_,_,rfl,rfl,bn.of (s7 _ _ hr),bn.of ah,rfl,vF (j:=7),_,rfl,dF rfl ?_⟩;generalize upd HC l7 (.lst [.int 7,.bl true])=HD at *;have tD:=tC.sm s7;have sD:m3 Pb HB HD:=sC.trans (m3.of s7);have KG:=b9.sm qY;refine⟨_,rfl,rfl,_,rfl,dF rfl (d8 ?_)⟩;refine⟨_,rfl,_,rfl,_,rfl,_,bx,ha,sa,ns,homes,st,rfl,(Qe.same qY).P7 KG LD sD,sD _ _ (qY _ _ mZ) (dH b9 mZ (fun _ z=>nomatch z)),sD _ _ (qY _ _ hU) (dH b9 hU (fun _ z=>nomatch z)),SN,tD,LD,fun r2 HE tE sE _ zi=>?_,fun r cs HC tC sC gs=>absurd gs (by rw[gn];intro z;cases z)⟩;refine⟨_,rfl,.inr ⟨r2,r,_,_,rfl,rfl,bn.of zi,bn.of (sE _ _ (s7 _ _ hr) nr),rfl,vF (j:=7),_,rfl,dF rfl ?_⟩⟩;have sF:=sD.trans sE;refine⟨⟨_,_,_,_,_,_,_,_,rfl⟩,S9.mono fun o u e=>sF _ _ (qY _ _ e) (dH b9 e (fun _ z=>nomatch z)),zy (t9.sm qY) KG Qc sF,tE⟩
  .refine⟨_,rfl,rfl,_,rfl,_,rfl,_,rfl,sd,ha,sa,ns,homes,st,rfl,sA _ _ Tn,sA _ _ mZ,sA _ _ hU,BX,SN,fun bb HB sB hb=>?_⟩;obtain rfl:bb=false:=by
    cases bb with
    |false=>rfl
    |true=>have:=(Ww true HB (sA.trans sB) hb).mp rfl;rw[gs] at this;cases this
   refine⟨rfl,_,rfl,dF rfl ?_⟩;have qY:=sA.trans sB;have KG:=b9.sm qY;have Wx:=sB _ _ Tp;have GR:=qW BX SN (aN _) gs;refine⟨_,rfl,_,rfl,_,rfl,_,bx,ha,sa,ns,homes,st,rfl,Qe.same qY,qY _ _ mZ,qY _ _ hU,SN,KG,LD,fun r HC tC sC gn=>absurd gn (by rw[gs];intro z;cases z),fun r Tq HC tC sC ZA hr=>?_⟩;obtain rfl:cs=Tq:=bi (gs.symm.trans ZA);have nr:r≠Pb:=dH tC hr (fun _ z=>nomatch z);have Br:=sC _ _ Wx (dH KG Wx (fun _ z=>nomatch z));have Wy:=sC _ _ (qY _ _ mZ) (dH b9 mZ (fun _ z=>nomatch z));have Wz:=sC _ _ (qY _ _ hU) (dH b9 hU (fun _ z=>nomatch z));have BC:=(Qe.same qY).P7 KG LD sC;refine⟨_,rfl,rfl,_,rfl,dF rfl (d8 ?_)⟩;refine⟨_,rfl,rfl,_,rfl,fm rfl ?_⟩;refine⟨_,rfl,_,rfl,r,Zy,_,_,rfl,rfl,bK.of hr,bK.of Br,rfl,Eh,_,rfl,dF rfl ?_⟩;refine⟨_,rfl,_,rfl,_,rfl,_,rfl,_,bx,ha,sa,r,ns,homes,st,_,rfl,BC,Wy,Wz,hr,SN,Ow,fun HD bb sD hb=>⟨_,rfl,?_⟩⟩;obtain rfl:bb=true:=hb.mpr GR.Y5;refine dF rfl ?_;have tD:=tC.sm sD;have ZB:=sC.trans (m3.of sD);refine⟨_,rfl,_,rfl,_,rfl,_,bx,ha,sa,ns,homes,st,rfl,BC.same sD,sD _ _ Wy,sD _ _ Wz,SN,tD,LD,fun r HC tC sC gn=>absurd gn (by rw[gs];intro z;cases z),fun r2 Tq HE tE sE ZC zi=>?_⟩;obtain rfl:cs=Tq:=bi (gs.symm.trans ZC);refine⟨_,rfl,.inl ⟨r2,r,_,_,rfl,rfl,bK.of zi,bK.of (sE _ _ (sD _ _ hr) nr),rfl,Eh,_,rfl,dF rfl ?_⟩⟩;have sF:=ZB.trans sE;refine⟨⟨_,_,_,_,_,_,_,_,rfl⟩,S9.mono fun o u e=>sF _ _ (qY _ _ e) (dH b9 e (fun _ z=>nomatch z)),zy (t9.sm qY) KG Qc sF,tE⟩
end
def FD(K:PySem.W.Frag)(n:Str)(st:Stmt):Prop:=∃ (f:Addr) (oc:Value) (od an:Option Addr) (sl:Array (Option Value)) (kV dc pm cd ct:Value),PySem.W.nsIn K mainGlobals n=some (some (.ref f))/\K.lookup f=some ⟨oc,od,.func (PySem.W.fnOf n n (cp st) (bq st) (aj st) .none kV dc pm an cd ct),sl⟩/\PySem.W.codeIn K cd n=true/\PySem.W.keepIn K (.ref f)=true
def FC(K:PySem.W.Frag)(n:Str)(st:Stmt)(c:Addr):Prop:=∃ (f:Addr) (oc:Value) (od an:Option Addr) (sl:Array (Option Value)) (kV dc pm ct:Value),PySem.W.nsIn K mainGlobals n=some (some (.ref f))/\K.lookup f=some ⟨oc,od,.func (PySem.W.fnOf n n (cp st) (bq st) (aj st) .none kV dc pm an (.ref c) ct),sl⟩/\PySem.W.codeIn K (.ref c) n=true/\PySem.W.keepIn K (.ref f)=true
def MD(K:PySem.W.Frag)(C:Addr)(n q:Str)(st:Stmt):Prop:=∃ (f:Addr) (oc:Value) (od an:Option Addr) (sl:Array (Option Value)) (kV dc pm cd ct:Value),PySem.W.findIn K (.ref C) n=some (some (.ref f))/\PySem.W.isFn K (.ref f)=true/\K.lookup f=some ⟨oc,od,.func (PySem.W.fnOf n q (cp st) (bq st) (aj st) .none kV dc pm an cd ct),sl⟩/\PySem.W.codeIn K cd q=true/\PySem.W.keepIn K (.ref f)=true
def MC(K:PySem.W.Frag)(C:Addr)(n q:Str)(st:Stmt)(c:Addr):Prop:=∃ (f:Addr) (oc:Value) (od an:Option Addr) (sl:Array (Option Value)) (kV dc pm ct:Value),PySem.W.findIn K (.ref C) n=some (some (.ref f))/\PySem.W.isFn K (.ref f)=true/\K.lookup f=some ⟨oc,od,.func (PySem.W.fnOf n q (cp st) (bq st) (aj st) .none kV dc pm an (.ref c) ct),sl⟩/\PySem.W.codeIn K (.ref c) q=true/\PySem.W.keepIn K (.ref f)=true
section
variable {P:Program} {w:World} {K:PySem.W.Frag} {mg:Str->Option Value} {base h:Heap} {n q:Str} {st:Stmt} {f c C:Addr} {oc kV dc pm cd ct:Value} {od an:Option Addr} {sl:Array (Option Value)} {CX:nU} {k:Nat} {ps:List Str} {sp:Sp}
theorem FD.mk(a:PySem.W.nsIn K mainGlobals n=some (some (.ref f)))(l:K.lookup f=some ⟨oc,od,.func (PySem.W.fnOf n n (cp st) (bq st) (aj st) .none kV dc pm an cd ct),sl⟩)(d:PySem.W.codeIn K cd n=true)(k:PySem.W.keepIn K (.ref f)=true):FD K n st:=⟨f,oc,od,an,sl,kV,dc,pm,cd,ct,a,l,d,k⟩
theorem FC.mk(a:PySem.W.nsIn K mainGlobals n=some (some (.ref f)))(l:K.lookup f=some ⟨oc,od,.func (PySem.W.fnOf n n (cp st) (bq st) (aj st) .none kV dc pm an (.ref c) ct),sl⟩)(d:PySem.W.codeIn K (.ref c) n=true)(k:PySem.W.keepIn K (.ref f)=true):FC K n st c:=⟨f,oc,od,an,sl,kV,dc,pm,ct,a,l,d,k⟩
theorem MD.mk(a:PySem.W.findIn K (.ref C) n=some (some (.ref f)))(i:PySem.W.isFn K (.ref f)=true)(l:K.lookup f=some ⟨oc,od,.func (PySem.W.fnOf n q (cp st) (bq st) (aj st) .none kV dc pm an cd ct),sl⟩)(d:PySem.W.codeIn K cd q=true)(k:PySem.W.keepIn K (.ref f)=true):MD K C n q st:=⟨f,oc,od,an,sl,kV,dc,pm,cd,ct,a,i,l,d,k⟩
theorem MC.mk(a:PySem.W.findIn K (.ref C) n=some (some (.ref f)))(i:PySem.W.isFn K (.ref f)=true)(l:K.lookup f=some ⟨oc,od,.func (PySem.W.fnOf n q (cp st) (bq st) (aj st) .none kV dc pm an (.ref c) ct),sl⟩)(d:PySem.W.codeIn K (.ref c) q=true)(k:PySem.W.keepIn K (.ref f)=true):MC K C n q st c:=⟨f,oc,od,an,sl,kV,dc,pm,ct,a,i,l,d,k⟩
def BD(n q:Str)(st:Stmt)(ps:List Str):Prop:=∀ (kV jm pm:Value) (an:Option Addr) (bL ct:Value) (us:List Value),us.length=ps.length->bindArgs (PySem.W.fnOf n q (cp st) (bq st) (aj st) .none kV jm pm an bL ct) ⟨us,[]⟩=pure (ps.zip us)
theorem FD.fK(X:K.In h)(G:h.Ns mainGlobals mg)(D:FD K n st)(b:BD n n st ps)(o:∀ {f fd},dR K n n st f fd->a9 P w K mg base CX k f fd ps sp):bJ P w K mg base CX k n ps sp:=by
 obtain⟨f,_,_,_,_,_,_,_,_,_,a,l,d,kp⟩:=D;have F:=l9 (x:=n) (qual:=n) (st:=st) l d kp;exact⟨⟨f,_,bQ X G a,kp,F.binds b,o F⟩⟩
theorem FD.Tr(X:K.In h)(G:h.Ns mainGlobals mg)(D:FD K n st)(b:BD n n st ps)(o:∀ {f fd},dR K n n st f fd->qw P w K mg base (eO P w) k f fd ps sp):Fn P w K mg base k n ps sp:=
 let ⟨f,_,_,_,_,_,_,_,_,_,a,l,d,kp⟩:=D
 have F:=l9 (x:=n) (qual:=n) (st:=st) l d kp
 ⟨⟨f,_,bQ X G a,kp,F.binds b,o F⟩⟩
theorem FC.fK(X:K.In h)(G:h.Ns mainGlobals mg)(D:FC K n st c)(b:BD n n st ps)(o:∀ {f fd},u7 K n n st f fd c->a9 P w K mg base CX k f fd ps sp):bJ P w K mg base CX k n ps sp:=by
 obtain⟨f,_,_,_,_,_,_,_,_,a,l,d,kp⟩:=D;have F:=Fx (x:=n) (qual:=n) (st:=st) l d kp;exact⟨⟨f,_,bQ X G a,kp,F.fun.binds b,o F⟩⟩
theorem MD.fK(D:MD K C n q st)(b:BD n q st ps)(o:∀ {f fd},dR K n q st f fd->a9 P w K mg base CX k f fd ps sp):ge P w K mg base CX k C n ps sp:=by
 obtain⟨f,_,_,_,_,_,_,_,_,_,a,i,l,d,kp⟩:=D;have F:=l9 (x:=n) (qual:=q) (st:=st) l d kp;exact⟨⟨f,_,⟨a,i,kp⟩,F.binds b,o F⟩⟩
end
theorem jf{α:Type}{P:List α->Prop}(h:∀a0,P [a0])(l:List α)(e:l.length=1):P l:=by
 cases l with
 |nil=>cases e
 |cons a t=>cases t with
  |nil=>exact h a
  |cons b t=>cases e
theorem d7{α:Type}{P:List α->Prop}(h:∀a0 a1,P [a0,a1])(l:List α)(e:l.length=2):P l:=by
 cases l with
 |nil=>cases e
 |cons a t=>exact jf (P:=fun t=>P (a::t)) (h a) t (rX e)
theorem fq{α:Type}{P:List α->Prop}(h:∀a0 a1 a2,P [a0,a1,a2])(l:List α)(e:l.length=3):P l:=by
 cases l with
 |nil=>cases e
 |cons a t=>exact d7 (P:=fun t=>P (a::t)) (h a) t (rX e)
theorem Ei{α:Type}{P:List α->Prop}(h:∀a0 a1 a2 a3,P [a0,a1,a2,a3])(l:List α)(e:l.length=4):P l:=by
 cases l with
 |nil=>cases e
 |cons a t=>exact fq (P:=fun t=>P (a::t)) (h a) t (rX e)
theorem Ii{α:Type}{P:List α->Prop}(h:∀a0 a1 a2 a3 a4,P [a0,a1,a2,a3,a4])(l:List α)(e:l.length=5):P l:=by
 cases l with
 |nil=>cases e
 |cons a t=>exact Ei (P:=fun t=>P (a::t)) (h a) t (rX e)
theorem KH{l:PySem.W.OpenLaw}{w:World}{K:PySem.W.Frag}{h:Heap}{mg:Str->Option Value}{fa:Addr}(X:K.In h)(G:h.Ns mainGlobals mg)(ZD:mg "law"=some (.ref fa)){C cO Pt cF Pb f8 uh fz lw pE dM mv mw dk jg pF mx ui bS:Addr}{nB p_ nC uj nE pG:Tok}(aC:PySem.W.nsIn K mainGlobals "Net"=some (some (.ref C)))(vG:PySem.W.nsIn K mainGlobals "BeatError"=some (some (.ref f8)))(GU:PySem.W.nsIn K mainGlobals "NoNet"=some (some (.ref uh)))(qZ:PySem.W.nsIn K mainGlobals "NoShape"=some (some (.ref fz)))(zA:PySem.W.nsIn K mainGlobals "NoTie"=some (some (.ref lw)))(Ej:PySem.W.nsIn K mainGlobals "NoText"=some (some (.ref pE)))(q0:PySem.W.nsIn K mainGlobals "NoHouse"=some (some (.ref dM)))(AO:PySem.W.nsIn K mainGlobals "NoRanks"=some (some (.ref mv)))(AQ:PySem.W.nsIn K mainGlobals "NoStand"=some (some (.ref mw)))(q9:PySem.W.nsIn K mainGlobals "NoBerth"=some (some (.ref dk)))(vH:PySem.W.nsIn K mainGlobals "NoHanding"=some (some (.ref jg)))(Ek:PySem.W.nsIn K mainGlobals "NoPlan"=some (some (.ref pF)))(AR:PySem.W.nsIn K mainGlobals "TooMany"=some (some (.ref mx)))(GV:PySem.W.nsIn K mainGlobals "NoRow"=some (some (.ref ui)))(Oy:PySem.W.nsIn K mainGlobals "Box"=some (some (.ref bS)))(GW:FD K "is_whole" xM)(El:FD K "is_whole_within" tG)(GX:FD K "is_house" xN)(Oz:FD K "is_row" Js)(OA:FD K "are_unlike_houses" Jy)(OB:FD K "is_tie" Jw)(GZ:FD K "check_ties" xP)(OC:FD K "check_balance" Jx)(KI:FC K "houses_out" vt cO)(KJ:FD K "distances_from" Dl)(G0:FD K "check_reached" xQ)(KL:FD K "product" Dr)(Em:FD K "pairs_net" tT)(En:FD K "check_sides" tU)(Eo:FD K "box_pairs" tV)(KM:FD K "box_net" Dq)(Tt:FD K "are_tied" Sg)(OD:FD K "_law_pot" J0)(Tv:FD K "_law_draw" Sl)(Tw:FD K "_law_sides" So)(Tx:FD K "_law_many" Sq)(Tz:FD K "_law_place" Sr)(TC:FD K "_law_step" Ss)(TF:FD K "_law_ties" Sv)(TH:FD K "_law_phase" Sw)(OE:FD K "came_by_at" P0)(TJ:FD K "is_berth" SD)(TK:FD K "is_berthed" SC)(TN:FD K "_law_houses" SG)(TQ:FD K "_law_kinds" Sz)(TR:FC K "free_berth" Lz cF)(TU:FD K "berth" SX)(TV:FD K "_law_drawn" Tb)(TW:FD K "_law_found" Ti)(TX:FD K "_law_crowded" Tj)(TY:FD K "_law_told" Qa)(TZ:FD K "_law_out" SH)(OF:FD K "law" yf)(KN:MD K C "__init__" "Net.__init__" y_)(G4:MD K C "check_house" "Net.check_house" xO)(OG:MD K C "out" "Net.out" Ju)(KO:MD K C "many" "Net.many" Df)(pg:PySem.W.plainGet K C Str.empty=true)(T4:PySem.W.hasDictIn K C=true)(po:PySem.W.plainOver K C=true)(sa:PySem.W.findIn K (.ref C) "__setattr__"=some (some (.builtin "object.__setattr__")))(mk:PySem.W.makesIn K C=true)(kc:PySem.W.keepIn K (.ref C)=true)(nH:PySem.W.findIn K (.ref C) "house_count"=some none)(nT:PySem.W.findIn K (.ref C) "tie_list"=some none)(nO:PySem.W.findIn K (.ref C) "out_lists"=some none)(nD:PySem.W.findIn K (.ref C) "distances"=some none)(uk:PySem.W.nsIn K mainGlobals "isinstance"=some none)(OH:PySem.W.nsIn K mainGlobals "int"=some none)(KP:PySem.W.nsIn K mainGlobals "bool"=some none)(G5:PySem.W.nsIn K mainGlobals "tuple"=some none)(KQ:PySem.W.nsIn K mainGlobals "list"=some none)(OI:PySem.W.nsIn K mainGlobals "str"=some none)(OJ:PySem.W.nsIn K mainGlobals "set"=some none)(OK:PySem.W.nsIn K mainGlobals "len"=some none)(G6:PySem.W.nsIn K mainGlobals "range"=some none)(Ep:PySem.W.nsIn K mainGlobals "sorted"=some none)(OL:PySem.W.nsIn K mainGlobals "any"=some none)(OM:PySem.W.nsIn K mainGlobals "max"=some none)(ON:PySem.W.nsIn K mainGlobals "min"=some none)(ul:PySem.W.nsIn K mainGlobals "ValueError"=some none)(OO:PySem.W.nsIn K mainGlobals "all"=some none)(OP:PySem.W.nsIn K mainGlobals "abs"=some none)(Es:PySem.W.nsIn K mainGlobals "divmod"=some none)(KR:PySem.W.nsIn K mainGlobals "dict"=some none)(OQ:PySem.W.nsIn K mainGlobals "zip"=some none)(KS:PySem.W.nsIn K mainGlobals "repr"=some none)(m4:PySem.W.nsIn K mainGlobals "enumerate"=some none)(nF:PySem.W.nsIn K mainGlobals "FEWEST_HOUSES"=some (some (.int 2 nB)))(jL:PySem.W.nsIn K mainGlobals "MOST_HOUSES"=some (some (.int 32 p_)))(nG:PySem.W.nsIn K mainGlobals "MOST_TIES_OUT"=some (some (.int 8 nC)))(um:PySem.W.nsIn K mainGlobals "MOST_SIDES"=some (some (.int 5 uj)))(nI:PySem.W.nsIn K mainGlobals "SHORTEST_SIDE"=some (some (.int 2 nE)))(pH:PySem.W.nsIn K mainGlobals "LONGEST_SIDE"=some (some (.int 8 pG)))(vI:iV K f8)(AS:iV K fz)(AU:iV K dM)(G7:iV K lw)(q_:iV K dk)(ZE:Pt≠Pb)(T5:PySem.W.plainGet K bS Str.empty=true)(T6:PySem.W.hasDictIn K bS=true)(T7:PySem.W.plainOver K bS=true)(T8:PySem.W.findIn K (.ref bS) "__setattr__"=some (some (.builtin "object.__setattr__")))(T9:PySem.W.makesIn K bS=true)(T_:PySem.W.keepIn K (.ref bS)=true)(Ua:PySem.W.findIn K (.ref bS) "tied_net"=some none)(Ub:PySem.W.findIn K (.ref bS) "side_row"=some none)(KT:MD K bS "__init__" "Box.__init__" Gg)(Uc:MD K bS "place" "Box.place" JP)(Ud:MD K bS "tied" "Box.tied" SB)(Ue:MD K bS "way" "Box.way" JQ)(Uf:MD K bS "phase" "Box.phase" JR)(kN:[uh,fz,lw,pE,dM,mv,mw,dk,jg,pF,mx,ui].map (fun y=>PySem.W.kitOne K (.ref dk) (.ref y))=[some false,some false,some false,some false,some false,some false,some false,some true,some false,some false,some false,some false])(vN:PySem.W.kitOne K (.ref dk) (.type "ValueError")=some true)(sN:PySem.W.subIn K (.ref dk) (.ref f8)=some true)(KU:PySem.W.codeHdIn K cO Pt=true)(Ug:PySem.W.codeHdIn K cF Pb=true):
  ∃fd:FuncData,(∀ (s:Shared) (v:Value),BindsTo s fd ⟨[v],[]⟩ [("_law_script",v)])/\∀base:Heap,K.In base->base.Ns mainGlobals mg->pV mg base->a9 l.prog w K mg base a_ 13 fa fd ["_law_script"] (zz K Pt Pb):=by
 obtain⟨WA,oc,od,an,sl,kV,dc,pm,cd,ct,OR,OS,OT,OV⟩:=OF;have e:=ZD.symm.trans (bQ X G OR);cases e;have OW:=l9 (x:="law") (qual:="law") (st:=yf) OS OT OV;obtain⟨WB,oci,odi,ani,sli,kVi,dci,pmi,cdi,cti,ZF,ZG,ZH,ZI,ZJ⟩:=KN;have vJ:=l9 (x:="__init__") (qual:="Net.__init__") (st:=y_) ZH ZI ZJ;have Et:=vJ.binds (ps:=["self","many","ties"]) fun _ _ _ _ _ _=>fq fun _ _ _=>rfl;have MK:Mk K C WB:=⟨mk,ZF,ZG,kc⟩
 have B:Bl mg:=⟨dq X G uk,dq X G OH,dq X G KP,dq X G G5,dq X G KQ,dq X G OI,dq X G OJ,dq X G OK,dq X G G6,dq X G Ep,dq X G OL,dq X G OM,dq X G ON,dq X G ul,dq X G OO⟩
 have T:NT K mg C:=⟨⟨pg,T4,po,sa⟩,nH,nT,nO,nD,bQ X G aC⟩
 have B2:V9 mg:=⟨dq X G OP,dq X G Es,dq X G KR,dq X G OQ,dq X G KS⟩
 let c:Nat->Addr:=fun i=>[uh,fz,lw,pE,dM,mv,mw,dk,jg,pF,mx,ui].getD i 0
 have ZK:Wb mg c:=⟨bQ X G GU,bQ X G qZ,bQ X G zA,bQ X G Ej,bQ X G q0,bQ X G AO,bQ X G AQ,bQ X G q9,bQ X G vH,bQ X G Ek,bQ X G AR,bQ X G GV⟩
 simp only[f9,List.map_nil,List.cons.injEq,oK] at kN;obtain⟨t0,t1,t2,t3,t4,t5,t6,t7,t8,t9,ZL,ZM⟩:=kN;have R:Rf K mg c f8 dk:=⟨⟨bQ X G vG,vI⟩,⟨q_,by decide,vN,t0,t1,t2,t3,t4,t5,t6,t7,t8,t9,ZL,ZM⟩,sN⟩
 have TB:Gh K mg bS:=⟨⟨T5,T6,T7,T8⟩,Ua,Ub,bQ X G Oy⟩
 obtain⟨OX,oc9,od9,an9,sl9,kV9,dc9,pm9,cd9,ct9,Uh,Ui,Uj,Uk,Ul⟩:=KT;have OY:=l9 (x:="__init__") (qual:="Box.__init__") (st:=Gg) Uj Uk Ul;have Um:=OY.binds (ps:=["self","sides"]) fun _ _ _ _ _ _=>d7 fun _ _=>rfl;have MB:Mk K bS OX:=⟨T9,Uh,Ui,T_⟩
 refine⟨PySem.W.fnOf "law" "law" (cp yf) (bq yf) (aj yf) .none kV dc pm an cd ct,fun s v=>.of_eq rfl,fun base kb nb hb=>?_⟩;have zB:bJ l.prog w K mg base a_ 1 "is_whole" ["thing"] (n4 K):=FD.fK X G GW (fun _ _ _ _ _ _=>jf fun _=>rfl) fun G8=>C9 G8 B;have pI:bJ l.prog w K mg base a_ 2 "is_whole_within" ["thing","least","most"] (i9 K):=FD.fK X G El (fun _ _ _ _ _ _=>fq fun _ _ _=>rfl) fun Eu=>Ar Eu zB;have uo:bJ l.prog w K mg base a_ 3 "is_house" ["many","thing"] (k_ K):=FD.fK X G GX (fun _ _ _ _ _ _=>d7 fun _ _=>rfl) fun G9=>Da G9 pI;have Ev:bJ l.prog w K mg base a_ 1 "is_row" ["thing","length"] (vp K):=FD.fK X G Oz (fun _ _ _ _ _ _=>d7 fun _ _=>rfl) fun OZ=>Jt OZ B;have O0:bJ l.prog w K mg base a_ 4 "are_unlike_houses" ["many","one","other"] Dh:=FD.fK X G OA (fun _ _ _ _ _ _=>fq fun _ _ _=>rfl) fun O1=>Jz O1 uo;have O2:bJ l.prog w K mg base a_ 5 "is_tie" ["many","thing"] Di:=FD.fK X G OB (fun _ _ _ _ _ _=>d7 fun _ _=>rfl) fun O4=>JA O4 Ev O0;have G_:bJ l.prog w K mg base a_ 6 "check_ties" ["many","ties"] jr:=FD.fK X G GZ (fun _ _ _ _ _ _=>d7 fun _ _=>rfl) fun Ha=>Dj Ha B ⟨_,bQ X G nF⟩ ⟨_,bQ X G jL⟩ pI O2;have O5:bJ l.prog w K mg base a_ 1 "check_balance" ["many","ties"] jr:=FD.fK X G OC (fun _ _ _ _ _ _=>d7 fun _ _=>rfl) fun O6=>JB O6 B ⟨_,bQ X G nG⟩;have KW:bJ l.prog w K mg base a_ 1 "houses_out" ["many","ties","house"] (tP Pt):=FC.fK X G KI (fun _ _ _ _ _ _=>fq fun _ _ _=>rfl) fun KY=>F4 KY B kb hb KU;have KZ:bJ l.prog w K mg base a_ 1 "distances_from" ["out_lists","start"] tQ:=FD.fK X G KJ (fun _ _ _ _ _ _=>d7 fun _ _=>rfl) fun K0=>F5 K0 B;have Hb:bJ l.prog w K mg base a_ 1 "check_reached" ["distances"] tR:=FD.fK X G G0 (fun _ _ _ _ _ _=>jf fun _=>rfl) fun Hd=>Do Hd B;have K1:a9 l.prog w K mg base a_ 7 WB _ ["self","many","ties"] (xS C Pt):=F9 vJ T B G_ O5 KW KZ Hb;have zC:ge l.prog w K mg base (eO l.prog w) 4 C "check_house" ["self","thing"] (n5 K C dM):=MD.fK G4 (fun _ _ _ _ _ _=>d7 fun _ _=>rfl) fun AV=>Dg AV T ⟨bQ X G q0,AU⟩ uo;have Ij:ge l.prog w K mg base (eO l.prog w) 5 C "out" ["self","house"] (zd K C dM FY):=MD.fK OG (fun _ _ _ _ _ _=>d7 fun _ _=>rfl) fun He=>Jv He T B zC;have K2:ge l.prog w K mg base a_ 1 C "many" ["self"] (xT C):=MD.fK KO (fun _ _ _ _ _ _=>jf fun _=>rfl) fun Ew=>Ga Ew T;have yg:bJ l.prog w K mg base a_ 1 "product" ["numbers"] (pf K):=FD.fK X G KL (fun _ _ _ _ _ _=>jf fun _=>rfl) fun K3=>Gb K3;have Ey:bJ l.prog w K mg base a_ 9 "pairs_net" ["many","pairs"] (pc C Pt):=FD.fK X G Em (fun _ _ _ _ _ _=>d7 fun _ _=>rfl) fun Ez=>Aw Ez B T MK Et K1 Ev;have EA:bJ l.prog w K mg base (eO l.prog w) 3 "check_sides" ["sides"] (pi K fz):=FD.fK X G En (fun _ _ _ _ _ _=>jf fun _=>rfl) fun EB=>Ax EB B ⟨bQ X G qZ,AS⟩ ⟨_,bQ X G um⟩ ⟨_,bQ X G nI⟩ ⟨_,bQ X G pH⟩ ⟨_,bQ X G jL⟩ pI yg;have EC:bJ l.prog w K mg base a_ 2 "box_pairs" ["sides"] pk:=FD.fK X G Eo (fun _ _ _ _ _ _=>jf fun _=>rfl) fun ED=>Ay ED B yg;have K4:bJ l.prog w K mg base (eO l.prog w) 10 "box_net" ["sides"] (xV K C Pt fz):=FD.fK X G KM (fun _ _ _ _ _ _=>jf fun _=>rfl) fun K5=>Gc K5 EA Ey yg EC;have Uo:bJ l.prog w K mg base a_ 6 "are_tied" ["net","one","other"] (JX K C):=FD.fK X G Tt (fun _ _ _ _ _ _=>fq fun _ _ _=>rfl) fun Up=>NG Up T uo K2 Ij;have Uq:a9 l.prog w K mg base a_ 11 OX _ ["self","sides"] (DE C bS Pt):=JT OY B TB K4;have O7:ge l.prog w K mg base (eO l.prog w) 5 bS "place" ["self","house"] (DI K C bS dM):=MD.fK Uc (fun _ _ _ _ _ _=>d7 fun _ _=>rfl) fun F=>JU F B T TB zC;have Ik:ge l.prog w K mg base a_ 6 bS "tied" ["self","house"] (Gw C bS):=MD.fK Ud (fun _ _ _ _ _ _=>d7 fun _ _=>rfl) fun F=>NZ F T TB Ij;have EE:ge l.prog w K mg base (eO l.prog w) 6 bS "phase" ["self","house","home"] (vz K C bS dM):=MD.fK Uf (fun _ _ _ _ _ _=>fq fun _ _ _=>rfl) fun F=>JY F B TB O7;have Il:ge l.prog w K mg base (eO l.prog w) 7 bS "way" ["self","one","other"] (qR K C bS lw):=MD.fK Ue (fun _ _ _ _ _ _=>fq fun _ _ _=>rfl) fun F=>JZ F TB ⟨bQ X G zA,G7⟩ Uo EE;have Ur:bJ l.prog w K mg base a_ 1 "came_by_at" ["stand","came","house"] Kb:=FD.fK X G OE (fun _ _ _ _ _ _=>fq fun _ _ _=>rfl) fun K6=>N2 K6 B;have O8:bJ l.prog w K mg base a_ 1 "came_by_at" ["stand","came","house"] Eb:=FD.fK X G OE (fun _ _ _ _ _ _=>fq fun _ _ _=>rfl) fun K6=>Kr K6 B;have Us:bJ l.prog w K mg base a_ 8 "is_berth" ["box","homes","stand","came","letter"] (Kc K C bS):=FD.fK X G TJ (fun _ _ _ _ _ _=>Ii fun _ _ _ _ _=>rfl) fun Ut=>N4 Ut TB zB Ik Il EE Ur;have Uu:bJ l.prog w K mg base a_ 9 "is_berthed" ["box","homes","stand","came"] (Kd K C bS):=FD.fK X G TK (fun _ _ _ _ _ _=>Ei fun _ _ _ _=>rfl) fun Uv=>N9 Uv B Ev Us;have Uw:bJ l.prog w K mg base a_ 10 "free_berth" ["box","homes","stand","came","letter"] (Ks C bS Pb):=FC.fK X G TR (fun _ _ _ _ _ _=>Ii fun _ _ _ _ _=>rfl) fun Ux=>Oh Ux B kb hb Ug TB EE Il Ik O8;have Uy:bJ l.prog w K mg base (eO l.prog w) 11 "berth" ["box","homes","stand"] (GF C bS Pb dk):=FD.fK X G TU (fun _ _ _ _ _ _=>fq fun _ _ _=>rfl) fun Uz=>Oi Uz B (dq X G m4) ⟨bQ X G q9,q_⟩ Uw;have O9:bJ l.prog w K mg base a_ 1 "_law_pot" ["_law_script","_law_k"] (DL K):=FD.fK X G OD (fun _ _ _ _ _ _=>d7 fun _ _=>rfl) fun O_=>J7 O_ B;have K7:bJ l.prog w K mg base a_ 1 "_law_draw" ["_law_pot_here","_law_many_here"] AC:=FD.fK X G Tv (fun _ _ _ _ _ _=>d7 fun _ _=>rfl) fun UA=>NK UA B2;have UB:bJ l.prog w K mg base a_ 2 "_law_sides" ["_law_pot_here"] J8:=FD.fK X G Tw (fun _ _ _ _ _ _=>jf fun _=>rfl) fun UC=>NL UC B K7;have K8:bJ l.prog w K mg base a_ 1 "_law_many" ["_law_sides_here"] AE:=FD.fK X G Tx (fun _ _ _ _ _ _=>jf fun _=>rfl) fun UD=>NM UD;have Pa:bJ l.prog w K mg base a_ 1 "_law_place" ["_law_sides_here","_law_house"] AF:=FD.fK X G Tz (fun _ _ _ _ _ _=>d7 fun _ _=>rfl) fun UE=>NN UE;have UF:bJ l.prog w K mg base a_ 2 "_law_step" ["_law_sides_here","_law_house","_law_k","_law_by"] J9:=FD.fK X G TC (fun _ _ _ _ _ _=>Ei fun _ _ _ _=>rfl) fun UG=>NP UG Pa K8;have K9:bJ l.prog w K mg base a_ 3 "_law_ties" ["_law_sides_here","_law_house","_law_k"] DP:=FD.fK X G TF (fun _ _ _ _ _ _=>fq fun _ _ _=>rfl) fun UH=>NQ UH UF;have Pc:bJ l.prog w K mg base a_ 2 "_law_phase" ["_law_sides_here","_law_house","_law_home"] DQ:=FD.fK X G TH (fun _ _ _ _ _ _=>fq fun _ _ _=>rfl) fun UI=>NS UI B Pa;have UJ:bJ l.prog w K mg base a_ 2 "_law_houses" ["_law_pot_here","_law_many_here"] Kh:=FD.fK X G TN (fun _ _ _ _ _ _=>d7 fun _ _=>rfl) fun UK=>Oa UK B K7;have UL:Fn l.prog w K mg base 1 "_law_kinds" ["_law_e"] (Gq K c):=FD.Tr X G TQ (fun _ _ _ _ _ _=>jf fun _=>rfl) fun UM=>NX UM B ZK;have UN:bJ l.prog w K mg base a_ 4 "_law_out" ["_law_sides_here","_law_house"] Ki:=FD.fK X G TZ (fun _ _ _ _ _ _=>d7 fun _ _=>rfl) fun UO=>Ob UO B K9;have UP:bJ l.prog w K mg base a_ 5 "_law_drawn" ["_law_pot_here","_law_sides_here"] Kv:=FD.fK X G TV (fun _ _ _ _ _ _=>d7 fun _ _=>rfl) fun UQ=>Om UQ B K8 K7 UJ UN;have UR:bJ l.prog w K mg base a_ 4 "_law_found" ["_law_sides_here","_law_homes","_law_stand"] Kx:=FD.fK X G TW (fun _ _ _ _ _ _=>fq fun _ _ _=>rfl) fun US=>Op US B (dq X G m4) Pc K9;have UT:bJ l.prog w K mg base a_ 4 "_law_crowded" ["_law_sides_here","_law_homes","_law_stand"] Kz:=FD.fK X G TX (fun _ _ _ _ _ _=>fq fun _ _ _=>rfl) fun UU=>Os UU B K8 Pc K9;have UV:bJ l.prog w K mg base a_ 12 "_law_told" ["_law_box","_law_homes","_law_stand"] (KA C bS Pb):=FD.fK X G TY (fun _ _ _ _ _ _=>fq fun _ _ _=>rfl) fun UW=>Ou UW B R UL Uy;exact KC OW B ZE TB MB Um Uq O9 UB UP UR UT UV Uu
theorem Im(h:((List.range 2000).any fun c=>PySem.W.codeHdIn K c P)=true):∃c,PySem.W.codeHdIn K c P=true:=
 let ⟨c,_,e⟩:=wI.mp h;⟨c,e⟩
theorem K_(hO:yQ ts H)(h:bn K H a xs):A_ K H a xs:=by
 rcases h with h|h
 .rcases h with h|⟨o,h⟩
  .rcases hO.2 a with z|⟨_,z⟩|⟨o,ys,z⟩ <;> · rw[h] at z;cases z
  .exact .inl ⟨o,h⟩
 .exact .inr fun H'=>.inr h
theorem walk{l:PySem.W.OpenLaw}{q:Program}{qr:List Str}{XP:(Str->Option Value)->Heap->Prop}{YP:World->Heap->Prop}{d:DefRec}{K:Params->PySem.W.Frag}{Pb Pt:Addr}(hn:l.most=some 63)(Mo:d.params.defaults=[])(hY:∀ (w:World) (h:Heap),YP w h->(K w.params).In h)(hT:∀ (w:World) (h:Heap),YP w h->∀P∈[Pb,Pt],h.get? P=some (PySem.W.tabObj #[]))(UX:∀ (w:World),((List.range 2000).any fun c=>PySem.W.codeHdIn (K w.params) c Pb)=true)(UY:∀ (w:World),(K w.params).lookup Pb=none)(UZ:∀ (w:World),((List.range 2000).any fun c=>PySem.W.codeHdIn (K w.params) c Pt)=true)(U0:∀ (w:World),(K w.params).lookup Pt=none)(F:∀ (w:World) (mg:Str->Option Value) (fa:Addr) (h:Heap),(K w.params).In h->h.Ns mainGlobals mg->mg d.name=some (.ref fa)->
   ∃fd:FuncData,(∀ (s:Shared) (u:Value),BindsTo s fd ⟨[u],[]⟩ [("_law_script",u)])/\∀base:Heap,(K w.params).In base->base.Ns mainGlobals mg->pV mg base->a9 l.prog w (K w.params) mg base a_ 13 fa fd ["_law_script"] (zz (K w.params) Pt Pb)):
  PySem.W.WalkO q qr XP YP l.row.toRowW d [] (fun f vs=>PySem.call f vs):=
 CO (n:=63) (k:=13) (x:="_law_script") (ts:=[Pb,Pt]) (K:=K) (CX:=fun _=>a_) (sp:=fun w=>(zz (K w.params) Pt Pb)) hn (by decide) Mo ⟨rfl,by decide,by decide,rfl⟩ hY hT
  (fun w P=>fun e=>(bo.mp e).elim (fun e=>by rw[e];exact Im (UX w)) (fun e=>by rw[cJ.mp e];exact Im (UZ w))) (fun w P=>fun e=>(bo.mp e).elim (fun e=>by rw[e];exact UY w) (fun e=>by rw[cJ.mp e];exact U0 w)) F
  (fun w H a ns hl hO hS=>⟨a,ns,rfl,K_ hO hS,hl,.inl (hO.1 _ (by simp)),.inl (hO.1 _ (by simp)),fun _=>rfl⟩) fun _ _ _ _ _ z=>z
end nz
open PySem PySem.W PyProof.Rows
namespace PySem.W.Fast
def tw211445717889133843:=trivial
def tw4885243003804129087:=trivial
def tw3771996082053662252:=trivial
def tw7217190427622898630:=trivial
def tw5579698930237014301:=trivial
def tw2428015344822502791:=trivial
def tw18389326863189655597:=trivial
def tw6015866738822912728:=trivial
def tw6214805390323537604:=trivial
def tw4247805343092611070:=trivial
def tw13651133680808321059:=trivial
def tw17922316846564540967:=trivial
def tw3561052421468556370:=trivial
def tw2749071884769034191:=trivial
def tw3022282998927251167:=trivial
def tw2681705368474996309:=trivial
def tw12092551542986807117:=trivial
def tw1691803839075749308:=trivial
def tw7461291542490866340:=trivial
def tw5116085154492132301:=trivial
def tw6542762555501533764:=trivial
def tw14432051464706733278:=trivial
def tw1718529944009830914:=trivial
def tw1544645221939374184:=trivial
def tw7119633869269372238:=trivial
def tw16352383657895270914:=trivial
def tw16926493714992049840:=trivial
def tw13742787692146693333:=trivial
def tw3440514203644409917:=trivial
def tw8279940211371743246:=trivial
def tw4807844161378113153:=trivial
def tw9603880193057550908:=trivial
def tw10056735406581802215:=trivial
def tw3759695065232894602:=trivial
def tw103269827073983064:=trivial
def tw5194044995542177455:=trivial
def tw1966033727833206912:=trivial
def tw11573797390277146756:=trivial
def tw12859358561306182035:=trivial
def tw16918207538621072912:=trivial
def tw12102297567874166394:=trivial
def tw4022439630357649385:=trivial
def tw9597082185241572585:=trivial
def tw12394892115201401902:=trivial
def tw9322834044308826128:=trivial
def tw842597437239699657:=trivial
def tw15954923878688214004:=trivial
def tw1826060484128859679:=trivial
def tw10905164929817853104:=trivial
def tw9207957753949949545:=trivial
def tw11966226080622128505:=trivial
def tw10291789108824337930:=trivial
def tw12658657511139649028:=trivial
def tw3466357809533703185:=trivial
def tw1003116148095625755:=trivial
def tw1621533477414555762:=trivial
def tw17000998240435788728:=trivial
def tw8740370030528869490:=trivial
def tw9626048725895299836:=trivial
def tw6271135776508218906:=trivial
def tw14516983307016477879:=trivial
def tw6673383870053445123:=trivial
def tw4800935804787256710:=trivial
def tw15082118787968341892:=trivial
def tw7183533001226152906:=trivial
def tw8182168394605457495:=trivial
def tw13682090308417344357:=trivial
def tw7951051226989480324:=trivial
def tw10712126106628985555:=trivial
def tw17215846249810395563:=trivial
def tw18392751886645963815:=trivial
def tw337430373469724511:=trivial
def tw4435690751369806948:=trivial
def tw18397596388622660747:=trivial
def tw6550370544342578102:=trivial
def tw11516692370358700631:=trivial
def tw1972503195883415145:=trivial
def tw3945236651923088256:=trivial
def tw12146994036366106857:=trivial
def tw5431261078089832363:=trivial
def tw1056059327304213723:=trivial
def tw15390231747476070471:=trivial
def tw2492462677819080334:=trivial
def tw17659133258067664863:=trivial
def tw172018954328138390:=trivial
def tw11647843678793948311:=trivial
def tw5675470849665872747:=trivial
def tw9672171995432903949:=trivial
def tw7672838784552776434:=trivial
def tw1154823090834756719:=trivial
def tw13956847250989387789:=trivial
def tw7802372099092888763:=trivial
def tw16813777662474443713:=trivial
def tw7104553595676302373:=trivial
def tw2700848490620014332:=trivial
def tw6627724415893151554:=trivial
def tw18147536435712701435:=trivial
def tw16124863073319034013:=trivial
def tw16619783415981480117:=trivial
def tw3813612697013405761:=trivial
def tw467053790098069239:=trivial
def tw13452466694315244369:=trivial
def tw5571360034338103000:=trivial
def tw12522381536144366796:=trivial
def tw15095668395656920625:=trivial
def tw2256172072900882250:=trivial
def tw68569591022188214:=trivial
def tw3694634742561615022:=trivial
def tw17901168326129780230:=trivial
def tw17999026751967599509:=trivial
def tw10596071960738793577:=trivial
def tw13557229781893720317:=trivial
def tw2456315959615766886:=trivial
def tw16821394035158146943:=trivial
def tw6045045651585517901:=trivial
def tw10021547839188454591:=trivial
def tw14358546543301583185:=trivial
def tw3923492272202776966:=trivial
def tw7235036882525837505:=trivial
def tw13419609093500266066:=trivial
def tw14397187490820902957:=trivial
def tw12945114277864281739:=trivial
def tw3441615218269306558:=trivial
def tw3487172398986089335:=trivial
def tw2263492244518246694:=trivial
def tw13524813432017931983:=trivial
def tw8934610180526392588:=trivial
def tw15056260244277671541:=trivial
def tw16471881901410939807:=trivial
def tw4513223162379753721:=trivial
def tw3615218963720444310:=trivial
def tw13102900533386857342:=trivial
def tw13292067551671715264:=trivial
def tw15340677349757896943:=trivial
def tw5708505914835060831:=trivial
def tw6698074217568840185:=trivial
def tw1788301417622852347:=trivial
def tw10017386752314337545:=trivial
def tw4217001152398234968:=trivial
def tw13567288961481587507:=trivial
def tw2367842157973217453:=trivial
def tw10391722818797556184:=trivial
def tw20329358644578989:=trivial
def tw12365218860220805639:=trivial
def tw9122408011422580711:=trivial
def tw16364594909219942510:=trivial
def tw12131143052768593283:=trivial
def tw4993235509994186034:=trivial
def tw1915748642474843578:=trivial
def tw18268263408840726203:=trivial
def tw13661879634470787992:=trivial
def tw467692281825854477:=trivial
def tw13523941264932784860:=trivial
def tw1427241450414868535:=trivial
def tw140305671116118976:=trivial
def tw6534465757175776161:=trivial
def tw8435355029528353758:=trivial
def tw17183669363669713928:=trivial
def tw3743131237746038298:=trivial
def tw14088778086775801586:=trivial
def tw4483159133991291315:=trivial
def tw7375696533466217333:=trivial
def tw9934424245968643771:=trivial
def tw4465047806237547543:=trivial
def tw13859206319324604310:=trivial
def tw4783693045575379762:=trivial
def tw7160578490604908084:=trivial
def tw15383003756329666555:=trivial
def tw1688155482152414860:=trivial
def tw6568845863732351062:=trivial
def tw134232554088216510:=trivial
def tw6252161563821192835:=trivial
def tw13035120526032576944:=trivial
def tw7464581228907575576:=trivial
def tw8567434979389880535:=trivial
def tw13394444700985558471:=trivial
def tw4010781260505055929:=trivial
def tw15788416835511547438:=trivial
def tw10902408023818967126:=trivial
def tw3157372978090305673:=trivial
def tw6461865495972965967:=trivial
def tw16511488588743077702:=trivial
def tw1093888724372894920:=trivial
def tw9187768712333201127:=trivial
def tw15448341912684263276:=trivial
def tw8965271875684968143:=trivial
def tw6181414605217779927:=trivial
def tw4589849367960404323:=trivial
def tw13721352064822651684:=trivial
def tw11074845927287212272:=trivial
def tw3133659049003806870:=trivial
def tw11856420701169777307:=trivial
def tw4116347872233736430:=trivial
def tw12795218130980532774:=trivial
def tw13438900120336272067:=trivial
def tw16055422932353426497:=trivial
def tw9529013372804969661:=trivial
def tw7858495303929459866:=trivial
def tw1599721074534303968:=trivial
def tw1528761439096334416:=trivial
def tw16436243127637192462:=trivial
def tw7339356743847637187:=trivial
def tw16314322853839050693:=trivial
def tw17432478776301966420:=trivial
def tw7567916601287883349:=trivial
def tw5874058873151531268:=trivial
def tw5162827113818837981:=trivial
def tw1156039496889439059:=trivial
def tw14524723272351558533:=trivial
def tw2709494292003088920:=trivial
def tw11145796581270278296:=trivial
def tw2554810833100129702:=trivial
def tw17322118001161254308:=trivial
def tw6325322001241857054:=trivial
def tw10799315330399592569:=trivial
def tw11288675319289844685:=trivial
def tw6978570421070405943:=trivial
def tw17736642765334041035:=trivial
def tw2901998895543017411:=trivial
def tw4175592127745574119:=trivial
def tw1500530994061859295:=trivial
def tw7662571244994546351:=trivial
def tw10145381828318874499:=trivial
def tw4317256463332650567:=trivial
def tw15021652925874593755:=trivial
def tw15197794741263790713:=trivial
def tw10423959902252042363:=trivial
def tw6470682473602437953:=trivial
def tw10134095957668902277:=trivial
def tw17199013310659147538:=trivial
def tw2830359954749643323:=trivial
def tw9140784229263734770:=trivial
def tw15899651166596096646:=trivial
def tw8746085854994495694:=trivial
def tw7956431514061943332:=trivial
def tw11550484758612279048:=trivial
def tw10484661882315964326:=trivial
def tw11784597460271414320:=trivial
def tw14563559886462367054:=trivial
def tw4935757689580798164:=trivial
def tw10938287824282837224:=trivial
def tw14852462185982802105:=trivial
def tw4825044353152320363:=trivial
def tw10547263183708520166:=trivial
def tw14637895581301738885:=trivial
def tw5370825410417974665:=trivial
def tw4991844377158519691:=trivial
def tw10275930019650210244:=trivial
def tw1741003521204186035:=trivial
def tw6070686999867275421:=trivial
def tw3031392770913994447:=trivial
def tw1556130218109623008:=trivial
def tw15481491747715621794:=trivial
def tw12405085849637399247:=trivial
def tw3420465476122877805:=trivial
def tw14220280178676065454:=trivial
def tw3205587448876537014:=trivial
def tw16664712441740230224:=trivial
def tw2240225369912916919:=trivial
def tw4319561933048890102:=trivial
def tw16812521048321737305:=trivial
def tw8911353340563056675:=trivial
def tw4744079069712876384:=trivial
def tw13493549035742466023:=trivial
def tw9959172294200414022:=trivial
def tw6511390684593963032:=trivial
def tw8731786493286380486:=trivial
def tw6145429432724595178:=trivial
def tw3167486057689866520:=trivial
def tw2317793007119528198:=trivial
def tw6952371590929336584:=trivial
def tw5516134442328481792:=trivial
def tw3858994293130256397:=trivial
def tw2711511978780696997:=trivial
def tw1563651318502401694:=trivial
def tw13785140551879954063:=trivial
def tw16753235914050200942:=trivial
def tw10398491210294621464:=trivial
def tw11154087994675003492:=trivial
def tw7885973433341259099:=trivial
def tw12153609783333099786:=trivial
def tw14031618763255467826:=trivial
def tw17818349627380057370:=trivial
def tw15189877058753251445:=trivial
def tw18261311072667228524:=trivial
def tw8058436300191058597:=trivial
def tw12371472290813801050:=trivial
def tw10669333461431022138:=trivial
def tw1115405546857467754:=trivial
def tw16480736676947688513:=trivial
def tw5213282252957358751:=trivial
def tw12830556281655969124:=trivial
def tw1447308535637990521:=trivial
def tw10320423126048879572:=trivial
def tw9960097965668657697:=trivial
def tw1480667015570846994:=trivial
def tw18093737610891690037:=trivial
def tw12552224978090698455:=trivial
def tw14499489923819684224:=trivial
def tw2583974769765176441:=trivial
def tw647402278168424829:=trivial
def tw6699464848036715282:=trivial
def tw18384052996268482026:=trivial
def tw6127184625762614918:=trivial
def tw8745243501609809347:=trivial
def tw16325850685726328045:=trivial
def tw4713616245959523305:=trivial
def tw7509571136269174022:=trivial
def tw10650059349698834868:=trivial
def tw17016903663939274577:=trivial
def tw15965095188148477797:=trivial
def tw13583466838519412549:=trivial
def tw14377851885300103073:=trivial
def tw9432421055178532668:=trivial
def tw14263066469794839831:=trivial
def tw6198288931032179911:=trivial
def tw4392764522793086840:=trivial
def tw6090094140336893522:=trivial
def tw6486998049009436440:=trivial
def tw15920678516555539152:=trivial
def tw3183346977665627276:=trivial
def tw6811202768130955424:=trivial
def tw4437629443920929756:=trivial
def tw16315166077757540716:=trivial
def tw8424049045705985542:=trivial
def tw4501650645347109025:=trivial
def tw11397916104098965043:=trivial
def tw4532913657227908132:=trivial
def tw508691929780244052:=trivial
def tw12220151658690910407:=trivial
def tw13480389010635526717:=trivial
def tw12858370500958947778:=trivial
def tw937418798105126081:=trivial
def tw12458089921986938857:=trivial
def tw4008361124110440796:=trivial
def tw13288604642198894974:=trivial
def tw12749194651210210118:=trivial
def tw12266647455220298712:=trivial
def tw10893707604973339824:=trivial
def tw17970686734897800679:=trivial
def tw469080576107768931:=trivial
def tw10628619500826405357:=trivial
def tw6057094340480008116:=trivial
def tw15862389852650521830:=trivial
def tw17256933192316556845:=trivial
def tw5321948227703438811:=trivial
def tw7959665909762297245:=trivial
def tw17544994520091465470:=trivial
def tw8176592512314191051:=trivial
def tw10542404321240199957:=trivial
def tw5779725834305166766:=trivial
def tw1426465773767595354:=trivial
def tw11181192285124874541:=trivial
def tw17800166648845887078:=trivial
def tw16607073204815963479:=trivial
def tw1608490707755407026:=trivial
def tw6985786822032483345:=trivial
def tw13320600388223233864:=trivial
def tw9272493839972696424:=trivial
def tw10152065572178036615:=trivial
def tw6547251274479041151:=trivial
def tw7408064419712071880:=trivial
def tw3056086165903071453:=trivial
def tw16366564086629217407:=trivial
def tw16121846579242170784:=trivial
def tw16345843737633997529:=trivial
def tw1794635773553805771:=trivial
def tw16335560840399412518:=trivial
def tw6216306961024889224:=trivial
def tw13692195120210659022:=trivial
def tw1876511042730366807:=trivial
def tw12924910068352671835:=trivial
def tw15136524157692708407:=trivial
def tw12577303943055726573:=trivial
def tw9419204789396847260:=trivial
def tw12518410480645329958:=trivial
def tw12516454325345984495:=trivial
def tw9491405641191805347:=trivial
def tw12584334174553374878:=trivial
def tw14843201762020116886:=trivial
def tw11983208142486600239:=trivial
def tw13617971014531577277:=trivial
def tw5931896197098628763:=trivial
def tw2414102503084755739:=trivial
def tw7153948667241829169:=trivial
def tw5868383216924919325:=trivial
def tw14327947488641436786:=trivial
def tw6894820682764591185:=trivial
def tw2737812940349727511:=trivial
def tw15074106985201331910:=trivial
def tw5206525298260451110:=trivial
def tw16043507708836943588:=trivial
def tw14340494825917091631:=trivial
def tw13528964374587248802:=trivial
def tw1632976014413105939:=trivial
def tw9426566832413928925:=trivial
def tw846518418830163333:=trivial
def tw8788313565748863832:=trivial
def tw16294479135305278978:=trivial
def tw13639556419397130169:=trivial
def tw15558412741216665569:=trivial
def tw4089087192100833061:=trivial
def tw2634033795872438617:=trivial
def tw2635711879283028216:=trivial
def tw8621924444520956642:=trivial
def tw14824277082448853228:=trivial
def tw6342242805424617433:=trivial
def tw13396201320132587134:=trivial
def tw17808967825075022695:=trivial
def tw5028131808339609707:=trivial
def tw16372258799696808345:=trivial
def tw9055763076003698843:=trivial
def tw17503357631050146117:=trivial
def tw17365655406381377502:=trivial
def tw6102102883852899787:=trivial
def tw15591105675732745445:=trivial
def tw10653382066888271899:=trivial
def tw2030630836443527824:=trivial
def tw7793024418049124257:=trivial
def tw854325964567643273:=trivial
def tw5389521662521152052:=trivial
def tw9333449535038435334:=trivial
def tw7663272187241484619:=trivial
def tw17271577741551857537:=trivial
def tw4782143665975217947:=trivial
def tw3194414931932541173:=trivial
def tw8146757977425950571:=trivial
def tw6033669412228704379:=trivial
def tw9577581828936452563:=trivial
def tw10165489644036815201:=trivial
def tw7174864442265408472:=trivial
def tw3473495466670087282:=trivial
def tw17998279770398838786:=trivial
def tw6296627346192636997:=trivial
def tw9919589711651883118:=trivial
def tw12255260161180571660:=trivial
def tw169052129009486031:=trivial
def tw12303438974331874363:=trivial
def tw12544231867695081569:=trivial
def tw13915537871612144639:=trivial
def tw6558777353291417736:=trivial
def tw15865096808204684552:=trivial
def tw273974961349535417:=trivial
def tw16437328778016394463:=trivial
def tw3921504112411658453:=trivial
def tw7784302949120061480:=trivial
def tw15698310951971607603:=trivial
def tw3918575804586255040:=trivial
def tw17915001165009731916:=trivial
def tw11120362691107897187:=trivial
def tw1273065205205847418:=trivial
def tw17799815166648320203:=trivial
def tw1997558321809965810:=trivial
def tw8089404968523223810:=trivial
def tw7683124384385847319:=trivial
def tw17441585336093579322:=trivial
def tw18176713304234498878:=trivial
def tw16102482789113010353:=trivial
def tw14767270501033765752:=trivial
def tw16484031664339809107:=trivial
def tw9272580523040361806:=trivial
def tw10189123023610244281:=trivial
def tw1335634141432594034:=trivial
def tw8770694553528380436:=trivial
def tw8374677173669194086:=trivial
def tw17510215402003059240:=trivial
def tw14717479904820266630:=trivial
def tw12917575154630147339:=trivial
def tw12887215541639972085:=trivial
def tw2822272495649380896:=trivial
def tw4089632003265302856:=trivial
def tw10668280884205125970:=trivial
def tw9973474927548373956:=trivial
def tw4601568278162401029:=trivial
def tw13563424251213498701:=trivial
def tw7546912757947811426:=trivial
def tw4334207938303856032:=trivial
def tw16216299968822300664:=trivial
def tw17025497572287923901:=trivial
def tw18076903252869494318:=trivial
def tw9905120025984427239:=trivial
def tw11267857021063002033:=trivial
def tw16471811228071029853:=trivial
def tw8510041237704824450:=trivial
def tw17398708905795683735:=trivial
def tw1338868673734508523:=trivial
def tw14577732099324930861:=trivial
def tw5167164361279053426:=trivial
def tw1550761843096361302:=trivial
def tw11677309186139494128:=trivial
def tw13169598549708754862:=trivial
def tw145795271190240939:=trivial
def tw9377037685594467224:=trivial
def tw15959687659409776616:=trivial
def tw10138145900577441382:=trivial
def tw9154311285117961327:=trivial
def tw8981770410198887972:=trivial
def tw15131402804814076587:=trivial
def tw9053711228099072207:=trivial
def tw6917453998312479307:=trivial
def tw16787370319114796711:=trivial
def tw16557249696810645223:=trivial
def tw9461570591086086749:=trivial
def tw11173935219449323621:=trivial
def tw7632458738759775665:=trivial
def tw16343651037430187777:=trivial
def tw3865932493119988698:=trivial
def tw2778944694706283979:=trivial
def tw5455685713179696692:=trivial
def tw5854298357285730226:=trivial
def tw3738547155212170236:=trivial
def tw10561152228139325942:=trivial
def tw13685658759944841192:=trivial
def tw2159969254126551310:=trivial
def tw17415353245482345077:=trivial
def tw10345251446318285750:=trivial
def tw7315349280566419586:=trivial
def tw4184359429900214645:=trivial
def tw12505273932481983120:=trivial
def tw159333590789275965:=trivial
def tw16282245139243355014:=trivial
def tw18428257580851157792:=trivial
def tw16820593012954397958:=trivial
def tw111521909177074789:=trivial
def tw12620413655469967024:=trivial
def tw5161364326031681234:=trivial
def tw5686659930397390490:=trivial
def tw3395720395314564874:=trivial
def tw10871518773828902182:=trivial
def tw13128959142578404619:=trivial
def tw18227902007483546963:=trivial
def tw5729952656014628521:=trivial
def tw2475507714778802689:=trivial
def tw1523827573919515942:=trivial
def tw17406043361662507755:=trivial
def tw14424229754183365313:=trivial
def tw435482979444674168:=trivial
def tw14951563777747949364:=trivial
def tw14457074874488316429:=trivial
def tw7560886890698861028:=trivial
def tw11139193047959641967:=trivial
def tw15418311160604754175:=trivial
def tw7296856680638488929:=trivial
def tw4774350085321788239:=trivial
def tw7707216570245064501:=trivial
def tw13791701366198781907:=trivial
def tw15944723504386038078:=trivial
def tw16579411845758917302:=trivial
def tw16772063069622510075:=trivial
def tw4435472009973810184:=trivial
def tw15496695423734046963:=trivial
def tw5734416650995499822:=trivial
def tw4676675961333359594:=trivial
def tw12335826000068032137:=trivial
def tw10557030357214834039:=trivial
def tw18421036699942715243:=trivial
def tw536249835352441768:=trivial
def tw5347319078631015984:=trivial
def tw14770626978302075134:=trivial
def tw4284320487217429912:=trivial
def tw10478643526707572900:=trivial
def tw12849254834643476428:=trivial
def tw2548742969988514182:=trivial
def tw12717646130479844483:=trivial
def tw11729984222795313025:=trivial
def tw13862347672054137608:=trivial
def tw18364388987340006181:=trivial
def tw15899016081823551015:=trivial
def tw3962360962862898809:=trivial
def tw16846943781803560602:=trivial
def tw13015273382915048991:=trivial
def tw10536390136853386183:=trivial
end PySem.W.Fast
set_option maxRecDepth 100000 in
set_option maxHeartbeats 0 in
theorem PySem.Challenge.cw_neverwait_k43_berths_holds : PySem.Challenge.rw_neverwait_k43_berths.Holds := by
 w_on; o_law; k_head; (case hw=>w_witness2)
 k_fill
 refine nz.walk (l:=PySem.Challenge.rw_neverwait_k43_berths) (Pb:=_) (Pt:=_) rfl rfl (fun w h Y=>PySem.W.km_in_of Y) (fun w h Y=>PySem.W.km_tabs_of Y) ?ZN ?ZO ?ZP ?ZQ ?F;case F =>
  intro w mg fa h KX G Mp;refine' nz.KH (Pb:=_) (Pt:=_) KX G Mp ?_ ?_ ?_ ?_ ?_ ?_ ?_ ?_ ?_ ?_ ?_ ?_ ?_ ?_ ?_ ?_ ?_ ?_ ?_ ?_ ?_ ?_ ?_ ?_ ?_ ?_ ?_ ?_ ?_ ?_ ?_ ?_ ?_ ?_ ?_ ?_ ?_ ?_ ?_ ?_ ?_ ?_ ?_ ?_ ?_ ?_ ?_ ?_ ?_ ?_ ?_ ?_ ?_ ?_ ?_ ?_ ?_ ?_ ?_ ?_ ?_ ?_ ?_ ?_ ?_ ?_ ?_ ?_ ?_ ?_ ?_ ?_ ?_ ?_ ?_ ?_ ?_ ?_ ?_ ?_ ?_ ?_ ?_ ?_ ?_ ?_ ?_ ?_ ?_ ?_ ?_ ?_ ?_ ?_ ?_ ?_ ?_ ?_ ?_ ?_ ?_ ?_ ?_ ?_ ?_ ?_ ?_ ?_ ?_ ?_ ?_ ?_ ?_ ?_ ?_ ?_ ?_ ?_;all_goals first
   | (refine' nz.FD.mk ?a ?l ?d ?k; (case a=>k_is); (case l=>k_is); (case d=>k_is); (case k=>k_is))
   | (refine' nz.FC.mk ?a ?l ?d ?k; (case a=>k_is); (case l=>k_is); (case d=>k_is); (case k=>k_is))
   | (refine' nz.MD.mk ?a ?i ?l ?d ?k; (case a=>k_is); (case i=>k_is); (case l=>k_is); (case d=>k_is); (case k=>k_is))
   | (refine' nz.MC.mk ?a ?i ?l ?d ?k; (case a=>k_is); (case i=>k_is); (case l=>k_is); (case d=>k_is); (case k=>k_is))
   | k_is
   | kernel_rfl
   | decide
   | exact ⟨by kernel_rfl,by k_is,by k_is,by k_is,by k_is,by k_is,by k_is,by kernel_rfl⟩
   | skip
 case ZO=>intro w; kernel_rfl
 case ZN=>intro w; kernel_rfl
 case ZQ=>intro w; kernel_rfl
 case ZP=>intro w; kernel_rfl
