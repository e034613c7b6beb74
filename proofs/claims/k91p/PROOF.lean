import PyProof.Rows.All
import Wide.All
import OpenK.AllK
import Wide.FinOn
import Lean
import PyProof.EqAt
import PyProof.EqKinds
import PyProof.TupleCall
import PySem.Challenge.RW_neverwait_k91_mirrored_houses
set_option Elab.async false
set_option linter.all false
set_option maxRecDepth 100000
set_option maxHeartbeats 8000000
def ai:=@PySem.wpAny_bind
def ba:=@PySem.Heap.get?_push_of_some
def ce:=@List.getD_eq_getElem?_getD
def bA:=@List.mem_cons_of_mem
def a_:=@List.length_map
def cu:=@List.getElem?_eq_getElem
def aU:=@PySem.Heap.lt_size
def bX:=@List.mem_cons_self
def aB:=@PyProof.Rows.wpS_bind
def bG:=@Option.some.inj
def aI:=@Nat.le_refl
def cj:=@List.getElem?_eq_some_iff
def aL:=@Nat.ne_of_lt
def bj:=@Nat.lt_of_lt_of_le
def bv:=@PySem.Heap.get?_push_size
def bq:=@Bool.false_ne_true
def am:=@if_neg
def ap:=@if_pos
def aY:=@List.mem_cons
def bJ:=@List.getElem?_map
def bQ:=@Nat.lt_succ_of_lt
def aE:=@PyProof.Rows.wpS_pure
def bg:=@List.mem_map
def cQ:=@List.mem_of_getElem?
def cp:=@List.size_toArray
def cq:=@List.append_assoc
def bn:=@Nat.le_trans
def cX:=@PySem.W.mg_none_of
def cf:=@decide_eq_true
def dt:=@Array.toList_append
def cR:=@List.length_cons
def br:=@PySem.wpAny_field
def cY:=@List.mem_append
def dH:=@List.mem_singleton
def c_:=@List.map_append
def dI:=@List.take_add_one
def cr:=@getElem?_pos
def dJ:=@PySem.Heap.get?_push_ne
def dL:=@List.not_mem_nil
def eC:=@PySem.wpAny_setField_rec
def gT:=@PyProof.Rows.boot_tuple
def eD:=@List.lookup_cons
def cK:=@Nat.zero_le
def dX:=@PySem.PassesOwn.never
def fL:=@Nat.lt_of_le_of_lt
def jC:=@Array.perm_iff_toList_perm
def gU:=@List.perm_append_comm
def eM:=@PySem.Heap.size_update
def eN:=@decide_eq_false
def kR:=@PyProof.Rows.boot_isinstance
def e_:=@List.take_length
def eE:=@List.mem_range
def iP:=@List.mem_append_right
def gW:=@Nat.mul_le_mul_left
def eF:=@Nat.lt_irrefl
def jD:=@PySem.wpAny_callSpecial?_slot
def dY:=@List.map_map
def dM:=@PyProof.Rows.wpS_forRange
def fc:=@PySem.boot_len
def fQ:=@List.nodup_cons
def fR:=@List.mem_filter
def eO:=@PySem.W.mg_of
def iQ:=@List.length_append
def gG:=@PySem.W.kia_one
def ff:=@Int.ofNat.inj
def gX:=@List.length_take
def gY:=@Bool.and_eq_true
def fT:=@PySem.wpAny_seqItems
def fU:=@PySem.Heap.size_push
def jE:=@List.map_congr_left
def kS:=@List.Perm.append_left
def lY:=@PySem.F.type_list_append
def lZ:=@PySem.F.slot_list_append
def l0:=@PySem.F.plainAttrs_list
def iR:=@Nat.lt_succ_self
def kT:=@Nat.div_lt_of_lt_mul
def kU:=@List.mem_append_left
def oW:=@PyProof.Rows.callWith_type1
def iS:=@PySem.wpAny_call_entry
def eG:=@beq_iff_eq
def eH:=@Nat.mod_lt
def jF:=@List.pairwise_map
def oX:=@List.nodup_iff_pairwise_ne
def kW:=@PySem.mem_of_lookup
def gI:=@PySem.wpAny_holding
def l3:=@List.length_replicate
def kX:=@PySem.Heap.get?_update_ne
def kY:=@PySem.F.called_set
def jG:=@List.getElem_mem
def jH:=@List.all_eq_true
def kZ:=@Bool.false_eq_true
def gJ:=@Nat.ne_of_gt
def jI:=@Nat.div_add_mod
def dN:=@or_false
def oY:=@Nat.div_div_eq_div_mul
def oZ:=@List.range_succ_eq_map
def iT:=@List.map_cons
def fg:=@PySem.wpAny_rule
def l4:=@List.mem_filterMap
def jJ:=@Array.size_map
def l6:=@Array.getElem?_eq_some_iff
def j4:=@List.take_append_drop
def j5:=@List.getElem?_eq_none
def l7:=@List.getElem?_append_left
def l8:=@List.drop_eq_getElem_cons
def gZ:=@List.forIn_cons
def i_:=@of_decide_eq_true
def ja:=@List.length_range
def fz:=@Int.zero_add
def cG:=@PyProof.Rows.wpS_mono
def j6:=@beq_eq_false_iff_ne
def j7:=@Array.length_toList
def jb:=@PySem.wpAny_newObj_type
def jc:=@Nat.mod_eq_of_lt
def g7:=@List.forIn_nil
def jd:=@List.filter_cons
def cS:=@Ne.symm
def l9:=@List.getElem?_set_self
def j8:=@Int.emod_lt_of_pos
def je:=@Bool.eq_iff_iff
def l_:=@Array.getElem?_toList
def eh:=@PyProof.Rows.wpS_modify
def j9:=@decide_eq_true_eq
def j_:=@Array.toList_push
def pS:=@Array.getD_eq_getD_getElem?
def me:=@PySem.Heap.get?_update_other
def jf:=@PySem.wpAny_passesOwn
def mf:=@List.mem_of_mem_take
def mh:=@List.mem_of_mem_drop
def gb:=@List.map_id
def g8:=@Nat.le_of_lt
def mj:=@PySem.Heap.get?_update_self
def pT:=@Classical.byContradiction
def tW:=@PyProof.Rows.F.plain_set_update_loop
def eQ:=@PyProof.Rows.size_push'
def ei:=@if_false
def pU:=@PyProof.Rows.boot_sorted
def kd:=@ne_of_beq_false
def ke:=@Int.emod_nonneg
def mm:=@Option.toList_some
def pV:=@Array.toList_filterMap
def mn:=@PySem.wpAny_Call_Name_kw
def mq:=@PySem.Obj.data_mapFields
def g9:=@PySem.sizeLine_eq
def pW:=@List.length_filter_le
def mr:=@List.zipIdx_cons
def mv:=@PySem.wpAny_truthy_bool
def mw:=@PySem.wpAny_pyIter_list
def pX:=@List.mem_iff_getElem
def pY:=@List.getElem?_set_ne
def mx:=@Nat.not_lt_zero
def my:=@List.of_mem_zip
def mz:=@List.length_set
def pZ:=@PySem.W.hideAll_get
def kg:=@PySem.wpAny_standAt
def kh:=@PySem.wpAny_onRaise
def ki:=@PySem.wpAny_attempt
def p7:=@PySem.wpAny_updateSeq_pair
def mB:=@List.nodup_nil
def tX:=@List.getElem?_append_right
def tY:=@Int.fmod_eq_emod_of_nonneg
def tZ:=@Int.fdiv_eq_ediv_of_nonneg
def p_:=@PySem.Heap.get?_none_of_le
def mC:=@PySem.codeAny_builtin
def t3:=@Array.getElem?_eq_getElem
def qa:=@Nat.succ_le_of_lt
def kj:=@Nat.mul_pos
def kl:=@Nat.mul_one
def qb:=@List.nodup_append
def qc:=@Int.toNat_natCast
def qd:=@Bool.eq_false_iff
def km:=@PySem.codeAny_mono
def t4:=@PySem.F.args_tuple_add_2
def t_:=@Option.isSome_iff_exists
def mD:=@List.all_cons
def mE:=@PySem.wpAny_setField
def mG:=@PySem.wpAny_newTuple
def jg:=@PySem.wpAny_mono
def ua:=@PySem.F.entry_tuple_add
def qe:=@Nat.le_add_right
def qg:=@Array.toList_map
def ub:=@PySem.F.slot_tuple_add
def uc:=@PyProof.noPylong_small
def ue:=@PyProof.Rows.boot_list
def mI:=@Nat.succ.inj
def uf:=@Nat.lt_of_succ_lt_succ
def mJ:=@Nat.le_of_eq
def ug:=@List.take_of_length_le
def uh:=@List.Perm.append_right
def qh:=@PySem.wpAny_setState_of
def mK:=@PyProof.Rows.get?_update_seq
def qi:=@Nat.mod_add_div
def qj:=@List.zipIdx_nil
def qk:=@List.foldl_cons
def ql:=@List.Perm.of_eq
def eR:=@PyProof.Rows.wpS_get
def qm:=@PySem.wpAny_pyIter_zip
def mL:=@Nat.mul_add
def mQ:=@Nat.div_one
def ui:=@List.replicate_succ'
def uj:=@Array.toList_reverse
def uk:=@Array.toList_extract
def kn:=@PySem.wpAny_Name
def um:=@PySem.W.plainGet_of
def y9:=@PyProof.Rows.F.entry_set_update_loop
def uo:=@List.getElem?_range
def uq:=@List.filter_sublist
def ur:=@List.filterMap_cons
def qo:=@PySem.wpAny_execs_nil
def qp:=@Nat.mul_assoc
def qr:=@List.any_cons
def qu:=@Bool.not_true
def ut:=@decide_eq_true_iff
def uv:=@PySem.W.callWith_K
def uw:=@PySem.Obj.isFreed_of_fields
def ux:=@Nat.eq_zero_or_pos
def uy:=@List.filter_append
def uz:=@PySem.wpAny_loadName_local
def mR:=@PySem.wpAny_letGo
def jh:=@if_true
def uA:=@PySem.codeAny_call_builtin
def kq:=@Prod.ext
def qv:=@Nat.succ_pos
def qw:=@Nat.mul_succ
def uB:=@List.reverse_perm
def uC:=@List.ext_getElem?
def uD:=@List.any_eq_false
def uE:=@PySem.Around.under_plainId
def uF:=@PySem.wpAny_loadName_free
def g_:=@not_or
def uG:=@Nat.div_eq_of_lt
def uH:=@List.nodup_range
def uI:=@List.mem_flatMap
def uJ:=@List.length_drop
def uK:=@List.countP_cons
def uL:=@List.any_eq_true
def qx:=@Nat.one_mul
def y_:=@Int.mul_le_mul_of_nonneg_left
def uM:=@List.range_succ
def uN:=@List.append_nil
def zc:=@PySem.F.typeOf_object_class
def uO:=@PySem.wpAny_loadPart_at
def zd:=@PySem.F.excBase_ValueError
def uP:=@PySem.Obj.cls_mapFields
def ze:=@Nat.mul_lt_mul_of_pos_left
def uQ:=@Nat.mul_le_mul
def uR:=@List.take_zero
def zf:=@Array.toList_setIfInBounds
def ji:=@PyProof.Rows.wpS_lift
def zg:=@Nat.add_mul_mod_self_left
def uS:=@PySem.wpAny_isInstance
def uT:=@PySem.wpAny_eqBool_int
def uU:=@PySem.noFill_tuple_add
def uV:=@Nat.add_assoc
def zh:=@List.length_erase_of_mem
def zi:=@List.filterMap_cons_some
namespace L2
open PySem PySem.Spec PyProof.Rows
def Fw(h:Heap)(e:Addr)(cls:Value)(tb:Value):Prop:=∃o vs,h.get? e=some o/\o.cls=cls/\o.data=.fields vs/\vs[1]?=some tb/\vs[2]?=some .none
def Jg(h:Heap)(T:Addr)(fl:Value):Prop:=∃o vs,h.get? T=some o/\o.data=.fields vs/\vs[3]?=some fl
structure v4(B:Heap)(l:List Env)(e:Addr)(cls fl:Value)(h:Heap):Prop where
 stays:B.StaysIn h
 new:B.get? e=none
 frames:h.FunFrames B l
 rc:∃T,Fw h e cls (.ref T)/\B.get? T=none/\T≠e/\Jg h T fl
abbrev xy(B:Heap)(l:List Env)(e:Addr)(cls:Value)(h:Heap):Prop:=v4 B l e cls .none h
section
variable {M:Model} {A:Around} {E:Value->Shared->Prop} {s:Shared} {B:Heap} {l outer:List Env} {env:Env} {e L:Addr} {cls:Value}
theorem qy{h:Heap}{T:Addr}{o:Obj}{vs:Array Value}{f:Array Value->Array Value}(hT:h.get? T=some o)(hd:o.data=.fields vs):
  (∀b,b≠T->(h.update T (Obj.mapFields f)).get? b=h.get? b)/\(h.update T (Obj.mapFields f)).get? T=some (Obj.mapFields f o)/\(Obj.mapFields f o).data=.fields (f vs)/\(Obj.mapFields f o).cls=o.cls/\h.UpToSlots (h.update T (Obj.mapFields f)):=by
 have o1:∀b,b≠T->(h.update T (Obj.mapFields f)).get? b=h.get? b:=fun b n=>me _ _ (cS n);refine⟨o1,mj _ hT (uw (mq hd _)),mq hd _,uP _ _,fun b u q nf=>⟨u.slots,?_⟩⟩;by_cases c:b=T
 .subst c;rw[hT] at q;cases q;exact absurd hd (nf vs)
 .rw[o1 b c];exact q
theorem iC{h h':Heap}(F:h.FunFrames B l)(u:h.UpToSlots h'):h'.FunFrames B l:=F.of_keeps fun b o q nf=>let ⟨sl,z⟩:=u b o q nf;⟨_,z,rfl⟩
theorem k4{fl:Value}{Q:Unit->Shared->Prop}(x:v4 B l e cls fl s.heap)(q:∀h',xy B l e cls h'->s.heap.UpToSlots h'->Q () { s with heap:=h' }):wpAny M A (setFlight (.ref e) none) Q E s:=by
 obtain⟨T,⟨o,vs,he,hc,hd,h1,h2⟩,nT,Te,oT,ts,hT,IE,h3⟩:=x.rc;have z3:3<ts.size:=(l6.mp h3).1;unfold setFlight;refine ai (br he hd h1 ?_);rw[ap (show (Value.ref T != Value.none)=true from by simp)];refine mE hT IE z3 ?_;obtain⟨p1,p2,p3,_,p5⟩:=qy (f:=(·.setIfInBounds 3 ((none:Option Addr).elim Value.none fun f=>rawInt f))) hT IE;exact q _ ⟨fun b u z=>(p1 b fun c=>by rw[c,nT] at z;cases z).trans (x.stays b u z),x.new,iC x.frames p5,T,⟨o,vs,(p1 e (cS Te)).trans he,hc,hd,h1,h2⟩,nT,Te,_,_,p2,p3,by simp[z3]⟩ p5
theorem o3{o:Obj}{vs:Array Value}{Jh:Value}{Cg:Bool}{Q:Unit->Shared->Prop}(Fx:A.frames=some (env::outer))(F:s.heap.FunFrames B (env::outer))(hf:env.frame=some L)(st:B.StaysIn s.heap)(nw:B.get? e=none)(he:s.heap.get? e=some o)(hd:o.data=.fields vs)(z1:1<vs.size)(h2:vs[2]?=some .none)(q:∀h',v4 B (env::outer) e o.cls (rawInt L) h'->s.heap.UpToSlots h'->Q () { s with heap:=h' }):
  wpAny M A (do let a <- frameOf env;let pl <- entryPlaceOf L Cg;let b <- EntryCells.newEntry Jh a .none (rawInt L) .none pl;setField (.ref e) 1 b) Q E s:=by
 have ne:e∉(env::outer).filterMap (·.frame):=fun m=>by
  obtain⟨_,u,hu,nf⟩:=F.mem m;rw[he] at hu;cases hu;exact nf vs hd
 refine ai (wpAny_frameOf_fun Fx F hf fun h1 so=>?_);refine ai (wpAny_entryPlaceOf fun pl o4=>?_);unfold EntryCells.newEntry newFields;refine ai (jb ?_ (o4.sizeOk5 _ _ _ _ _));have e1:h1.get? e=some o:=(so.2.1 e ne).trans he;have xz:B.StaysIn h1:=fun b u z=>(so.2.1 b fun m=>by rw[(F.mem m).1] at z;cases z).trans (st b u z);have up1:s.heap.UpToSlots h1:=fun b u z _=>so.2.2 b u z;generalize Sq:({ cls:=.type "traceback",dict:=none,data:=.fields ([Jh,.ref L,.none,rawInt L,.none]++(if pl.isEmpty then List.replicate 6 Value.none else pl)).toArray }:Obj)=To;have e2:=ba (h:=h1) To e1;refine mE e2 hd z1 ?_;obtain⟨p1,p2,p3,p4,p5⟩:=qy (f:=(·.setIfInBounds 1 (Value.ref h1.objs.size))) e2 hd;have Te:h1.objs.size≠e:=gJ (aU e1);have Sr:h1.UpToSlots (h1.push To):=Heap.UpToSlots.of_keeps fun b u z=>ba _ z;refine q _ ⟨fun b u z=>(p1 b fun c=>by rw[c,nw] at z;cases z).trans (ba _ (xz b u z)),nw,iC F ((up1.trans Sr).trans p5),h1.objs.size,⟨_,_,p2,p4,p3,by simp[z1],by rw[Array.getElem?_setIfInBounds_ne (by decide)];exact h2⟩,?_,Te,To,_,(p1 _ Te).trans (bv h1 (by rw[<-Sq];rfl)),by rw[<-Sq],?_⟩ ((up1.trans Sr).trans p5)
 .cases z:B.get? h1.objs.size with
  |none=>rfl
  |some u=>exact absurd (aU (xz _ u z)) (eF _)
 .first|(simp;done)|(rcases o4 with rfl|⟨_,_,_,_,_,_,_,rfl⟩ <;> simp)
theorem Ch{Q:Unit->Shared->Prop}(Fx:A.frames=some (env::outer))(hf:env.frame=some L)(x:xy B (env::outer) e cls s.heap)(q:∀h',v4 B (env::outer) e cls (rawInt L) h'->s.heap.UpToSlots h'->Q () { s with heap:=h' }):wpAny M A (noteFrame (.ref e) env) Q E s:=by
 obtain⟨T,⟨o,vs,he,hc,hd,h1,h2⟩,nT,Te,oT,ts,hT,IE,h3⟩:=x.rc;subst hc;unfold noteFrame;simp only[hf];refine ai (br he hd h1 ?_);rw[ap (show (Value.ref T != Value.none)=true from by simp)];refine ai (br hT IE h3 ?_);rw[am (show ¬ ((Value.none==rawInt L)=true) from by simp[rawInt])];refine ai (mE hT IE (l6.mp h3).1 ?_);obtain⟨p1,p2,p3,p4,p5⟩:=qy (f:=(·.setIfInBounds 3 Value.none)) hT IE;exact o3 Fx (iC x.frames p5) hf (fun b u z=>(p1 b fun c=>by rw[c,nT] at z;cases z).trans (x.stays b u z)) x.new ((p1 e (cS Te)).trans he) hd (l6.mp h1).1 h2 fun h' y u=>q h' y (p5.trans u)
theorem zj{Q:Unit->Shared->Prop}(Fx:A.frames=some (env::outer))(hf:env.frame=some L)(x:xy B (env::outer) e cls s.heap)(q:∀h',xy B outer e cls h'->s.heap.UpToSlots h'->Q () { s with heap:=h' }):wpAny M A (leaving env (.ref e)) Q E s:=by
 unfold leaving;refine ai (Ch Fx hf x fun h1 y u=>?_);refine k4 (s:={ s with heap:=h1 }) y fun h2 z v=>q h2 ⟨z.stays,z.new,z.frames.2.2,z.rc⟩ (u.trans v)
theorem uW{h:Heap}{args:List Value}{Q:Unit->Shared->Prop}(Fx:A.frames=some (env::outer))(hf:env.frame=some L)(st:B.StaysIn h)(F:h.FunFrames B (env::outer))(x:Heap.MadeExcOf h s.heap e cls args)(q:∀h',xy B outer e cls h'->s.heap.UpToSlots h'->Q () { s with heap:=h' }):wpAny M A (leaving env (.ref e)) Q E s:=by
 obtain⟨t,he,_,_⟩:=x.there;have nw:B.get? e=none:=by
  cases z:B.get? e with
  |none=>rfl
  |some u=>have:=st e u z;rw[x.new] at this;cases this
 unfold leaving noteFrame;simp only[hf];refine ai (ai (br he rfl (x:=.none) rfl ?_));rw[am (by decide)];refine o3 Fx (iC F (Heap.UpToSlots.of_keeps x.keeps)) hf (fun b u z=>x.keeps b u (st b u z)) nw he rfl (by simp) rfl fun h1 y u=>?_;exact k4 (s:={ s with heap:=h1 }) y fun h2 z v=>q h2 ⟨z.stays,z.new,z.frames.2.2,z.rc⟩ (u.trans v)
end
theorem ow:plainId "proto.unchain"=true:=by decide +kernel
theorem oy:entryFor table "proto.unchain"=some Builtin.«proto.unchain»:=PySem.entryFor_of_fast (by kernel_rfl)
def v5(p:Addr)(h:Heap):Prop:=∃o vs,h.get? p=some o/\o.data=.fields vs/\vs[2]?=some .none
theorem zk{α:Type}{prog:Program}{w:World}{A:Around}{Q:α->Shared->Prop}{E:Value->Shared->Prop}{s:Shared}{a p:Addr}{o:Obj}{vs:Array Value}(hh:A.handled=some (.ref p))(hp:v5 p s.heap)(ne:p≠a)(ha:s.heap.get? a=some o)(hd:o.data=.fields vs)(z2:2<vs.size)(q:E (.ref a) { s with heap:=s.heap.update a (Obj.mapFields (·.setIfInBounds 2 (.ref p))) }):wpAny (model prog w) A (raiseNew (.ref a):Sem α) Q E s:=by
 obtain⟨op,ws,h1,h2,h3⟩:=hp;unfold raiseNew;refine ai (wpAny_handled ?_);rw[hh];dsimp only;rw[ap (show (Value.ref p != Value.ref a)=true from by simp[ne])];refine ai (gI (wpAny_runValue (mC oy ?_)));rw[uE ow _];show wpAny _ _ (field (.ref p) 2 >>= _) _ _ s;refine ai (br h1 h2 h3 ?_);rw[ap (by decide)];refine wpAny_pure ?_;show wpAny (model prog w) A (updateField a 2 (Value.ref p) >>= fun _=>throw (Value.ref a)) Q E s;unfold updateField;refine ai (ai (wpAny_load ha ?_));rw[hd];dsimp only;rw[ap z2];exact wpAny_update (by rw[ha]) (wpAny_throw q)
theorem uX{prog:Program}{w:World}{A:Around}{E:Value->Shared->Prop}{s:Shared}{it p:Addr}{x left step:Int}{Q:Option Value->Shared->Prop}(hh:A.handled=some (.ref p))(hp:v5 p s.heap)(mT:IsRangeIter s.heap it x left step)(hl:left<=0)(hQ:∀h',(∀b o,s.heap.get? b=some o->h'.get? b=some o)->Q none { s with heap:=h' }):wpAny (model prog w) A (pyNext (.ref it)) Q E s:=by
 have hT:s.TypeIs (.ref it) "range_iterator":=⟨_,mT,rfl⟩
 unfold pyNext;refine ai (ki (jD (name:=Str.ofString "__next__") hT F.slot_range_iterator_next
  (iS F.slot_range_iterator_next hT F.entry_range_iterator_next ?_ (F.args_range_iterator_next_1 _))))
 show wpAny _ _ (field (.ref it) 0 >>= _) _ _ s;refine ai (br mT rfl (x:=rawInt x) rfl ?_);refine ai (br mT rfl (x:=rawInt left) rfl ?_);refine ai (br mT rfl (x:=rawInt step) rfl ?_);dsimp only[rawInt];rw[ap hl];refine ai (fg ?_);refine ai ?_;show wpAny _ _ (newExc (.type "StopIteration") [] >>= _) _ _ _;refine ai ?_;simp only[newExc,newTuple];refine ai (jb ?_ (by size_fits));refine ai (m:=firstArgMember _ _) (wpAny_of_eq (a:=Value.none) (by first|rfl|(simp only[firstArgMember];rfl)) ?_);refine jb ?_ (by size_fits);generalize XR:({ cls:=.type "tuple",data:=.seq ([]:List Value).toArray }:Obj)=Tu;generalize NP:({ cls:=.type "StopIteration",data:=.fields (#[Value.ref s.heap.objs.size,Value.none,Value.none,Value.none,Value.bool false,Value.none]++ownMembersOf (Value.type "StopIteration") []) }:Obj)=Ex;have Ss:Ex.data=.fields (#[Value.ref s.heap.objs.size,Value.none,Value.none,Value.none,Value.bool false,Value.none]++ownMembersOf (Value.type "StopIteration") []):=by rw[<-NP]
 have UF:Ex.cls=.type "StopIteration":=by rw[<-NP]
 have k1:∀b o,s.heap.get? b=some o->((s.heap.push Tu).push Ex).get? b=some o:=fun b o e=>ba _ (ba _ e);have gE:((s.heap.push Tu).push Ex).get? (s.heap.push Tu).objs.size=some Ex:=bv _ (by rw[<-NP];rfl);have gR:∀b o,s.heap.get? b=some o->b≠(s.heap.push Tu).objs.size:=fun b o e=>aL (aU (ba Tu e));obtain⟨op,ws,n1,n2,n3⟩:=id hp;refine zk (A:=A.in1) (p:=p) hh ⟨op,ws,k1 _ _ n1,n2,n3⟩ (gR _ _ n1) gE Ss (by simp;lia) ?_;refine ai (uS (T:="StopIteration") (b:=true) ⟨_,mj _ gE (uw (mq Ss _)),(uP _ _).trans UF⟩ isSubtype_stop ?_);exact wpAny_pure (hQ _ fun b o e=>(me _ _ (cS (gR b o e))).trans (k1 b o e))
abbrev oz:=Sum Int Str
def EA:oz->Value->Bool
 |.inl k,v=>Value.isInt k v
 |.inr x,v=>Value.isStrOf x v
def NQ(w:World):oz->Int
 |.inl k=>hashInt k
 |.inr x=>hashStr w x
theorem bZ:∀ {k:oz} {v:Value},EA k v=true->(∃i t,k=Sum.inl i/\v=Value.int i t)\/(∃x t,k=Sum.inr x/\v=Value.str x t)
 |.inl i,v,h=>by
  obtain⟨t,e⟩:=Value.isInt_shape (k:=i) (v:=v) h;exact .inl ⟨i,t,rfl,e⟩
 |.inr x,v,h=>by
  obtain⟨t,e⟩:=Value.isStrOf_shape (x:=x) (v:=v) h;exact .inr ⟨x,t,rfl,e⟩
theorem Fy(a b:Int):decide ((Sum.inl a:oz)=Sum.inl b)=(a==b):=by
 by_cases e:a=b
 .subst e;simp
 .have h:¬ (Sum.inl a:oz)=Sum.inl b:=fun q=>e (Sum.inl.inj q);rw[eN h];exact(j6.mpr e).symm
theorem Fz(a b:Str):decide ((Sum.inr a:oz)=Sum.inr b)=decide (a=b):=by
 by_cases e:a=b
 .subst e;simp
 .have h:¬ (Sum.inr a:oz)=Sum.inr b:=fun q=>e (Sum.inr.inj q);rw[eN h,eN e]
theorem FA(a:Int)(b:Str):decide ((Sum.inl a:oz)=Sum.inr b)=false:=eN (fun q=>nomatch q)
theorem FB(a:Str)(b:Int):decide ((Sum.inr a:oz)=Sum.inl b)=false:=eN (fun q=>nomatch q)
def v6(prog:Program)(w:World):PySem.KeyKind prog w oz where
 is:=EA
 hash:=NQ w
 inj:=fun v a b ha hb=>by
  rcases bZ ha with ⟨i,t,rfl,rfl⟩|⟨x,t,rfl,rfl⟩
  .rcases bZ hb with ⟨j,u,rfl,e⟩|⟨y,u,rfl,e⟩
   .injection e with e1 _;rw[e1]
   .exact nomatch e
  .rcases bZ hb with ⟨j,u,rfl,e⟩|⟨y,u,rfl,e⟩
   .exact nomatch e
   .injection e with e1 _;rw[e1]
 byValue:=fun k v h=>by
  rcases bZ h with ⟨i,t,rfl,rfl⟩|⟨x,t,rfl,rfl⟩ <;> rfl
 pyHash:=fun hv h=>by
  rcases bZ hv with ⟨i,t,rfl,rfl⟩|⟨x,t,rfl,rfl⟩
  .exact wpAny_pyHash_int h
  .exact wpAny_pyHash_str h
 eqBool:=fun hu hv h=>by
  rcases bZ hu with ⟨i,t,rfl,rfl⟩|⟨x,t,rfl,rfl⟩
  .rcases bZ hv with ⟨j,u,rfl,rfl⟩|⟨y,u,rfl,rfl⟩
   .rw[Fy] at h;exact uT h
   .rw[FA] at h;exact SeqAt.EqAt.int_str i t y u _ _ _ _ h
  .rcases bZ hv with ⟨j,u,rfl,rfl⟩|⟨y,u,rfl,rfl⟩
   .rw[FB] at h;exact SeqAt.EqAt.str_int x t j u _ _ _ _ h
   .rw[Fz] at h;exact wpAny_eqBool_str h
 «strs»:=fun k x t v h=>by
  rcases bZ h with ⟨i,u,rfl,e⟩|⟨y,u,rfl,e⟩
  .exact nomatch e
  .injection e with e1 _
   subst e1
   cases v <;> rfl
inductive V where
 |bV|bl (b:Bool)|int (i:Int)|str (x:Str)|yU (b:Array UInt8)|FE (b:UInt64)|ref (a:Addr)|ty (n:String)
 deriving DecidableEq
def bh:V->Value->Prop
 |.bV,u=>u=Value.none
 |.bl b,u=>u=Value.bool b
 |.int i,u=>∃t,u=Value.int i t
 |.str x,u=>∃t,u=Value.str x t
 |.yU b,u=>∃t,u=Value.bytes b t
 |.FE b,u=>∃t,u=Value.float b t
 |.ref a,u=>u=Value.ref a
 |.ty n,u=>u=Value.type n
abbrev aS:List V->List Value->Prop:=Paired bh
theorem aS.length(r:aS xs us):xs.length=us.length:=Paired.length r
theorem aS.get:∀ {xs:List V} {us:List Value} {i:Nat} {x:V},aS xs us->xs[i]?=some x->∃u,us[i]?=some u/\bh x u
 |_,_,_,_,.nil,e=>by simp at e
 |_,_,0,_,.cons r _,e=>by simp at e;subst e;exact⟨_,rfl,r⟩
 |_,_,i+1,x,.cons _ t,e=>by
  obtain⟨u,h1,h2⟩:=aS.get (i:=i) (x:=x) t (by simpa using e);exact⟨u,by simpa using h1,h2⟩
theorem aS.set(r:bh x u):∀ {xs:List V} {us:List Value} (i:Nat),aS xs us->aS (xs.set i x) (us.set i u)
 |_,_,_,.nil=>.nil
 |_,_,0,.cons _ t=>.cons r t
 |_,_,i+1,.cons q t=>.cons q (aS.set r i t)
theorem aS.append:∀ {xs ys:List V} {us ws:List Value},aS xs us->aS ys ws->aS (xs++ys) (us++ws)
 |_,_,_,_,.nil,s=>s
 |_,_,_,_,.cons r t,s=>.cons r (aS.append t s)
def oA:Option V->Option Value->Prop
 |some v,some u=>bh v u
 |none,none=>True
 |_,_=>False
def KV{κ:Type}:List (κ×V)->List (κ×Value)->Prop:=Paired fun (p:κ×V) (q:κ×Value)=>p.1=q.1/\bh p.2 q.2
def kV:oz->V
 |.inl i=>.int i
 |.inr x=>.str x
inductive HO where
 |lst (xs:List V)
 |tup (xs:List V)
 |dK (jK:List (oz×V))|dT (jK:List (List oz×V))
 |set (S:Int->Bool) (n:Nat)
 |ins (C dx:Addr) (fs:List (Str×V))
 |own (x:Addr)
 |xd (fs:List (Str×V))
 |met (f x:Addr)
 |M0 (lo hi:Int)
 |o5 (o:Obj) (u:HO)
 |lq (ps:Array Value)
 |ext (φ:Heap->Prop)
abbrev Hp:=Addr->Option HO
def upd(H:Hp)(a:Addr)(o:HO):Hp:=fun b=>if b=a then some o else H b
theorem ah:upd H a o a=some o:=by unfold upd;rw[ap rfl]
theorem ao(h:b≠a):upd H a o b=H b:=by unfold upd;rw[am h]
theorem lJ:upd (upd H a o) a u=upd H a u:=by
 funext b;unfold upd;split <;> rfl
theorem du{H:Hp}{a b:Addr}{o u:HO}(h:H a=some o)(h':H b=some u)(d:o≠u):a≠b:=by
 intro e;subst e;rw[h] at h';exact d (bG h')
theorem aq{H:Hp}{a b:Addr}{o:HO}(h:H a=some o)(h':H b=none):a≠b:=by
 intro e;subst e;rw[h] at h';cases h'
section
variable (P:Program) (w:World)
def jj(h:Heap)(a:Addr)(items:Array Value):Prop:=∃o,h.get? a=some o/\o.cls=.type "tuple"/\∃n,o.data=.seq items n/\o.dict=none
theorem jj.tup(p:jj h a items):IsTup h a items:=let ⟨o,e,c,n,d,_⟩:=p;⟨o,e,c,n,d⟩
theorem jj.new(h:Heap)(items:Array Value):jj (h.push { cls:=.type "tuple",data:=.seq items }) h.objs.size items:=⟨_,bv _ rfl,rfl,_,rfl,rfl⟩
def ck(H:Hp)(h:Heap)(a:Addr):HO->Prop
 |.lst xs=>xs.length<=sizeLine/\∃ (its:List Value) (n:Nat),aS xs its/\h.get? a=some { cls:=.type "list",data:=.seq its.toArray n }
 |.tup xs=>xs.length<=sizeLine/\∃its:List Value,aS xs its/\jj h a its.toArray
 |.dK jK=>jK.length<=sizeLine/\(a==sysModules)=false/\∃vs,KV jK vs/\h.DictOf (v6 P w) a vs
 |.dT jK=>jK.length<=sizeLine/\(a==sysModules)=false/\∃xs:List (List oz×Addr×Value),
   Paired (fun (p:List oz×V) (q:List oz×Addr×Value)=>p.1=q.1/\H q.2.1=some (.tup (p.1.map kV))/\bh p.2 q.2.2) jK xs/\
   ∃o es ep,h.get? a=some o/\o.ExactDict/\o.data=.dict es ep/\es.toList=xs.map (entryOfKey (tupleKind (v6 P w)))/\(xs.map (·.1)).Nodup
 |.set S n=>h.SetOf (intKind P w) a S n
 |.ins C dx fs=>H dx=some (.own a)/\fs.length<=1000/\dx≠a/\h.get? a=some (PySem.W.instObj C dx)/\
   ∃mA,h.Ns1 dx mA/\(∀f,oA (fs.lookup f) (mA f))/\PySem.Within mA (fs.map (·.1))
 |.own _=>∃o,h.get? a=some o
 |.xd fs=>∃mA,h.Ns1 a mA/\∀f,oA (fs.lookup f) (mA f)
 |.M0 lo hi=>∃t u v,h.get? a=some { cls:=.type "range",data:=.fields #[.int lo t,.int hi u,.int 1 v] }
 |.o5 o u=>h.get? a=some o/\ck H h a u
 |.lq ps=>h.get? a=some { cls:=.none,data:=.fields ps }
 |.met f x=>h.get? a=some (PySem.W.methodObj (.ref f) (.ref x))
 |.ext φ=>φ h/\(∃o,h.get? a=some o)/\∀h1 h2:Heap,φ h1->(∀o,h1.get? a=some o->h2.get? a=some o)->φ h2
def jL(H:Hp)(h:Heap):Prop:=∀a o,H a=some o->ck P w H h a o
end
section
variable {P:Program} {w:World} {H H':Hp} {h h':Heap} {a:Addr} {o:HO}
theorem ck.lt(x:ck P w H h a o):a<h.objs.size:=by
 cases o with
 |lst xs=>obtain⟨_,_,_,_,e⟩:=x;exact aU e
 |tup xs=>obtain⟨_,_,_,p⟩:=x;exact p.tup.lt
 |dK jK=>obtain⟨_,_,_,_,o,_,_,e,_⟩:=x;exact aU e
 |dT jK=>obtain⟨_,_,_,_,o,_,_,e,_⟩:=x;exact aU e
 |set S n=>obtain⟨o,_,_,_,e,_⟩:=x;exact aU e
 |ins C dx fs=>obtain⟨_,_,_,e,_⟩:=x;exact aU e
 |own y=>obtain⟨_,e⟩:=x;exact aU e
 |xd fs=>obtain⟨_,⟨_,_,_,e,_⟩,_⟩:=x;exact aU e
 |M0 lo hi=>obtain⟨_,_,_,e⟩:=x;exact aU e
 |o5 ob u=>obtain⟨e,_⟩:=x;exact aU e
 |lq ps=>exact aU (show h.get? a=some _ from x)
 |met f y=>exact aU (show h.get? a=some _ from x)
 |ext φ=>obtain⟨_,⟨_,e⟩,_⟩:=x;exact aU e
theorem Paired.Ji:∀ {l₁:List α} {l₂:List β},Paired F l₁ l₂->(∀a b,F a b->G a b)->Paired G l₁ l₂
 |_,_,.nil,_=>.nil
 |_,_,.cons r t,f=>.cons (f _ _ r) (Paired.Ji t f)
theorem ck.lr(x:ck P w H h a o)(k:∀b u,(b=a\/H b=some (.own a))->h.get? b=some u->h'.get? b=some u)(ho:∀b,H b=some (.own a)->H' b=some (.own a))(ht:∀b xs,H b=some (.tup xs)->H' b=some (.tup xs)):ck P w H' h' a o:=by
 induction o with
 |lst xs=>obtain⟨z,its,n,r,e⟩:=x;exact⟨z,its,n,r,k _ _ (.inl rfl) e⟩
 |tup xs=>obtain⟨z,its,r,ob,e,c⟩:=x;exact⟨z,its,r,ob,k _ _ (.inl rfl) e,c⟩
 |dK jK=>obtain⟨z,y,vs,r,ob,es,ep,e,c⟩:=x;exact⟨z,y,vs,r,ob,es,ep,k _ _ (.inl rfl) e,c⟩
 |dT jK=>
  obtain⟨z,y,xs,r,ob,es,ep,e,c⟩:=x;exact⟨z,y,xs,Paired.Ji r fun p q z=>⟨z.1,ht _ _ z.2.1,z.2.2⟩,ob,es,ep,k _ _ (.inl rfl) e,c⟩
 |set S n=>obtain⟨ob,es,ep,t,e,c⟩:=x;exact⟨ob,es,ep,t,k _ _ (.inl rfl) e,c⟩
 |ins C dx fs=>
  obtain⟨d,z,ne,e,mA,⟨od,es,ep,e2,c⟩,r⟩:=x;exact⟨ho _ d,z,ne,k _ _ (.inl rfl) e,mA,⟨od,es,ep,k _ _ (.inr d) e2,c⟩,r⟩
 |own y=>obtain⟨ob,e⟩:=x;exact⟨ob,k _ _ (.inl rfl) e⟩
 |xd fs=>obtain⟨mA,⟨od,es,ep,e,c⟩,r⟩:=x;exact⟨mA,⟨od,es,ep,k _ _ (.inl rfl) e,c⟩,r⟩
 |M0 lo hi=>obtain⟨t,u,v,e⟩:=x;exact⟨t,u,v,k _ _ (.inl rfl) e⟩
 |o5 ob u ih=>obtain⟨e,q⟩:=x;exact⟨k _ _ (.inl rfl) e,ih q⟩
 |lq ps=>
  have e:h.get? a=some { cls:=.none,data:=.fields ps }:=x;show h'.get? a=some { cls:=.none,data:=.fields ps };exact k a _ (.inl rfl) e
 |met f y=>
  have e:h.get? a=some (PySem.W.methodObj (.ref f) (.ref y)):=x;show h'.get? a=some (PySem.W.methodObj (.ref f) (.ref y));exact k a _ (.inl rfl) e
 |ext φ=>obtain⟨p,⟨o,e⟩,st⟩:=x;exact⟨st _ _ p fun o q=>k _ _ (.inl rfl) q,⟨o,k _ _ (.inl rfl) e⟩,st⟩
theorem jL.lt(x:jL P w H h)(e:H a=some o):a<h.objs.size:=(x a o e).lt
theorem jL.fresh(x:jL P w H h)(e:h.objs.size<=a):H a=none:=by
 cases q:H a with
 |none=>rfl
 |some u=>exact absurd (bj (x.lt q) e) (eF _)
theorem jL.kept(x:jL P w H h)(k:∀b u,h.get? b=some u->h'.get? b=some u):jL P w H h':=fun a o e=>
 (x a o e).lr (fun b u _ q=>k b u q) (fun _ q=>q) fun _ _ q=>q
theorem jL.laid(x:jL P w H h)(k:∀b u,h.get? b=some u->h'.get? b=some u)(hp:h.objs.size<=a)(new:ck P w (upd H a o) h' a o):jL P w (upd H a o) h':=fun b u e=>by
 have hn:=x.fresh hp;by_cases hb:b=a
 .subst hb;rw[ah] at e;cases e;exact new
 .rw[ao hb] at e;exact(x b u e).lr (fun c v _ q=>k c v q) (fun c q=>by rw[ao (aq q hn)];exact q) fun c xs q=>by rw[ao (aq q hn)];exact q
end
def Rd(H:Hp)(a:Addr)(u:HO):Prop:=H a=some u\/∃o,H a=some (.o5 o u)
theorem Rd.ok(r:Rd H a u)(x:jL P w H h):ck P w H h a u:=by
 rcases r with r|⟨o,r⟩
 .exact x a u r
 .obtain⟨_,q⟩:=x a _ r;exact q
def M1:Option HO->Prop
 |some (.lst _)=>True
 |some (.dK _)=>True
 |some (.dT _)=>True
 |some (.set _ _)=>True
 |some (.ins _ _ _)=>True
 |some (.ext _)=>True
 |_=>False
section
variable {P:Program} {w:World} {H:Hp} {h h':Heap} {x e:Addr} {o':HO}
theorem jL.write(ok:jL P w H h)(mu:M1 (H x))(he:e=x\/H e=some (.own x))(k:∀b u,b≠e->h.get? b=some u->h'.get? b=some u)(IF:∃u,h'.get? e=some u)(new:ck P w (upd H x o') h' x o'):jL P w (upd H x o') h':=fun b u q=>by
 have Jj:∀c y,H c=some (.own y)->c≠x:=fun c y r z=>by subst z;rw[r] at mu;exact mu
 have NR:∀c xs,H c=some (.tup xs)->c≠x:=fun c xs r z=>by subst z;rw[r] at mu;exact mu
 by_cases hb:b=x
 .subst hb;rw[ah] at q;cases q;exact new
 .rw[ao hb] at q;by_cases B7:b=e
  .have q':H b=some (.own x):=by
    rcases he with z|z
    .exact absurd (B7.trans z) hb
    .rw[B7];exact z
   rw[q] at q';cases q';obtain⟨v,hv⟩:=IF;exact⟨v,by rw[B7];exact hv⟩
  .refine(ok b u q).lr (fun c v hc r=>k c v ?_ r) (fun c r=>by rw[ao (Jj c b r)];exact r) fun c xs r=>by rw[ao (NR c xs r)];exact r
   rcases hc with rfl|hc
   .exact B7
   .rintro rfl;rcases he with z|z
    .exact Jj c b hc z
    .rw[hc] at z;cases z;exact hb rfl
end
structure Un(fs ex:List Addr)(H H':Hp)(h h':Heap):Prop where
 keep:∀b o,h.get? b=some o->H b=none->b∉fs->b∉ex->h'.get? b=some o
 slot:∀b o,h.get? b=some o->H b=none->b∈fs->b∉ex->∃sl,h'.get? b=some { o with slots:=sl }
 free:∀b o,h.get? b=some o->H b=none->b∉ex->H' b=none
 there:∀b o,h.get? b=some o->b∉ex->∃o',h'.get? b=some o'
 jk:∀b xs,H b=some (.tup xs)->H' b=some (.tup xs)
 kr:∀b o u,H b=some (.o5 o u)->H' b=some (.o5 o u)
 ku:∀b ps,H b=some (.lq ps)->∃more,H' b=some (.lq (ps++more))
section
variable {fs UG ex XS:List Addr} {H H1 H2:Hp} {h h1 h2 h':Heap} {a x e:Addr} {o:HO}
theorem Un.any(u:Un fs ex H H1 h h1)(q:h.get? b=some ob)(n:H b=none)(hx:b∉ex):∃sl,h1.get? b=some { ob with slots:=sl }:=by
 by_cases hb:b∈fs
 .exact u.slot b ob q n hb hx
 .exact⟨ob.slots,u.keep b ob q n hb hx⟩
theorem Un.kept(k:∀b u,h.get? b=some u->h'.get? b=some u):Un fs ex H H h h':=
 ⟨fun b ob q _ _ _=>k b ob q,fun b ob q _ _ _=>⟨ob.slots,k b ob q⟩,fun _ _ _ n _=>n,fun b ob q _=>⟨ob,k b ob q⟩,fun _ _ q=>q,fun _ _ _ q=>q,fun _ ps q=>⟨#[],by rw[q];simp⟩⟩
theorem Un.refl:Un fs ex H H h h:=Un.kept fun _ _ q=>q
theorem Un.laid(k:∀b u,h.get? b=some u->h'.get? b=some u)(hp:h.objs.size<=a)(hn:H a=none):Un fs ex H (upd H a o) h h' where
 keep:=fun b u q _ _ _=>k b u q
 slot:=fun b u q _ _ _=>⟨u.slots,k b u q⟩
 free:=fun b u q n _=>by rw[ao (aL (bj (aU q) hp))];exact n
 there:=fun b u q _=>⟨u,k b u q⟩
 jk:=fun b xs q=>by rw[ao (aq q hn)];exact q
 kr:=fun b u xs q=>by rw[ao (aq q hn)];exact q
 ku:=fun b ps q=>⟨#[],by rw[ao (aq q hn),q];simp⟩
theorem Un.write(mu:M1 (H x))(he:e=x\/H e=some (.own x))(k:∀b u,b≠e->h.get? b=some u->h'.get? b=some u)(IF:∃u,h'.get? e=some u):Un fs ex H (upd H x o) h h':=by
 have hx:∀b,H b=none->b≠x:=fun b n z=>by subst z;rw[n] at mu;exact mu
 have hb:∀b,H b=none->b≠e:=fun b n z=>by
  subst z;rcases he with r|r
  .exact hx b n r
  .rw[n] at r;cases r
 have hm:∀b u,H b=some u->¬ M1 (some u)->b≠x:=fun b u q nm z=>by subst z;rw[q] at mu;exact nm mu
 refine⟨fun b u q n _ _=>k b u (hb b n) q,fun b u q n _ _=>⟨u.slots,k b u (hb b n) q⟩,fun b u q n _=>by rw[ao (hx b n)];exact n,fun b u q _=>?_,
  fun b xs q=>by rw[ao (hm b _ q fun z=>z)];exact q,fun b u xs q=>by rw[ao (hm b _ q fun z=>z)];exact q,fun b ps q=>⟨#[],by rw[ao (hm b _ q fun z=>z),q];simp⟩⟩
 by_cases B7:b=e
 .subst B7;exact IF
 .exact⟨u,k b u B7 q⟩
end
def M2(h:Heap)(H:Hp):List Addr:=(List.range h.objs.size).filter fun a=>(H a).isSome
def oB(h:Heap)(H:Hp):Heap:=PySem.W.hideAll h (M2 h H)
theorem xA(h:Heap)(H:Hp):(oB h H).objs.size=h.objs.size:=PySem.W.hideAll_size _ _
theorem zm(e:h.get? b=some o)(n:H b=none):(oB h H).get? b=some o:=
 pZ _ e fun hm=>by
  have q:(H b).isSome=true:=(fR.mp hm).2;rw[n] at q;simp at q
theorem Ci(e:(oB h H).get? b=some o):h.get? b=some o/\H b=none:=by
 have e':h.get? b=some o:=PySem.W.of_hideAll (M2 h H) e;refine⟨e',?_⟩;cases q:H b with
 |none=>rfl
 |some x=>
  have hm:b∈M2 h H:=fR.mpr ⟨eE.mpr (aU e'),by simp[q]⟩;have z:(oB h H).get? b=none:=PySem.W.hideAll_none (M2 h H) hm;rw[z] at e;cases e
def fh(g h:Heap)(L:Addr):List (Addr×Obj):=(List.range h.objs.size).filterMap fun a=>if a=L\/(g.get? a).isSome=true then none else (h.get? a).map fun o=>(a,o)
theorem fj(h1:a≠L)(h2:g.get? a=none)(h3:h.get? a=some o):(a,o)∈fh g h L:=
 l4.mpr ⟨a,eE.mpr (aU h3),by simp[h1,h2,h3]⟩
theorem mU(hp:p∈fh g h L):p.1≠L/\g.get? p.1=none/\h.get? p.1=some p.2:=by
 obtain⟨b,_,e⟩:=l4.mp hp;split at e
 .cases e
 .rename_i hn;cases q:h.get? b with
  |none=>rw[q] at e;simp at e
  |some u=>
   rw[q] at e;simp only[Option.map_some,Option.some.injEq] at e;subst e;refine⟨fun z=>hn (.inl z),?_,q⟩;show g.get? b=none;cases r:g.get? b with
   |none=>rfl
   |some v=>exact(hn (.inr (by simp[r]))).elim
theorem rQ:News g L h (fh g h L):=fun p hp=>let ⟨a,b,c⟩:=mU hp;⟨c,a,b⟩
structure Mod(K:PySem.W.Frag)(mg:Str->Option Value)(base:Heap):Prop where
 IG:K.In base
 glob:base.Ns mainGlobals mg
 blt:∃mb,base.Ns builtinsNs mb/\∀x:Str,x≠"__name__"->mb x=bootBuiltins x
 nolimit:base.NoLimit
structure Cx where
 prog:Program
 w:World
 K:PySem.W.Frag
 mg:Str->Option Value
 base:Heap
 A:Around
 N:List Str
 s₀:Shared
 H₀:Hp
 env:Env
 outer:List Env
 stack:List Env
 ex:List Addr
 fn:Str->Bool
 calm:Bool
 pn:List (Addr×Obj)
 xe:Value->Shared->Prop
def kv(l:List Env):List Addr:=l.filterMap (·.frame)
abbrev Cx.fs(X:Cx):List Addr:=kv X.outer
def Jk(sc:Scope)(x:Str):Prop:=sc.names.lookup x=some .local\/sc.names.lookup x=some .cell\/sc.names.lookup x=some .free
def Jl(sc:Scope)(x:Str):Prop:=sc.names.lookup x=some .local\/sc.names.lookup x=some .cell
def NS(env:Env)(h:Heap)(m:Str->Option Value)(x:Str)(u:Value):Prop:=
 (env.kindOf x=some .local/\m x=some u)\/((env.kindOf x=some .cell\/env.kindOf x=some .free)/\∃c,env.cells.lookup x=some c/\h.IsCell c (some u))
structure Cx.Ok(X:Cx):Prop where
 mod:Mod X.K X.mg X.base
 kind:X.env.scope.kind=.function
 glob:X.env.globals=mainGlobals
 blt:X.env.builtins=builtinsNs
 above:X.s₀.heap.objs.size<=X.env.locals
 inj:∀x y c,X.env.cells.lookup x=some c->X.env.cells.lookup y=some c->x=y
 has:∀x,(X.env.kindOf x=some .cell\/X.env.kindOf x=some .free)->∃c,X.env.cells.lookup x=some c
 Jm:∀x c,X.fn x=true->X.env.cells.lookup x=some c->X.s₀.heap.objs.size<=c
 hd:X.calm=true->X.A.handled=none
 frames:X.A.frames=some X.stack
 B8:X.stack=X.outer\/(X.stack=X.env::X.outer/\X.env.frame=some X.env.locals)
 NU:∀b∈X.ex,b≠X.env.locals/\∀x c,X.env.cells.lookup x=some c->c≠b
 bs:∀b o,X.base.get? b=some o->X.s₀.heap.get? b=some o/\X.H₀ b=none
 B9:X.base.objs.size<=X.s₀.heap.objs.size
 mV:∀b o,X.base.get? b=some o->b∉X.ex
 Cj:∀b∈X.ex,b∉X.fs
 jM:X.s₀.heap.FunFrames X.base X.outer
 Ck:∀b∈X.fs,X.H₀ b=none
structure aD(X:Cx)(ae:List (Addr×Obj))(σ:List (Option V))(H:Hp)(s:Shared):Prop where
 ok:X.Ok
 os:s.os=X.s₀.os
 bare:AllBare s.gens
 base:Un X.fs X.ex X.H₀ H X.s₀.heap s.heap
 loc:∃m,s.heap.Ns X.env.locals m/\∀ (i:Nat) (x:Str) (v:V),X.N[i]?=some x->σ[i]?=some (some v)->Jk X.env.scope x->∃u,bh v u/\NS X.env s.heap m x u
 cell:∀x c,X.env.cells.lookup x=some c->∃v,s.heap.IsCell c v
 free:H X.env.locals=none
 iU:∀x c,X.env.cells.lookup x=some c->H c=none
 pin:∀p∈X.pn++ae,s.heap.get? p.1=some p.2/\H p.1=none/\p.1≠X.env.locals/\p.1∉X.fs/\∀v,p.2.data≠.cell v
 bD:jL X.prog X.w H s.heap
 len:σ.length=X.N.length
section
variable {X:Cx} {ae:List (Addr×Obj)} {σ:List (Option V)} {H H':Hp} {s:Shared} {h':Heap}
theorem Cx.Ok.NW(ok:X.Ok)(e:X.base.get? b=some o):b∉X.fs:=fun hb=>by
 have:=(ok.jM.mem hb).1;rw[e] at this;cases this
theorem aD.bs(I:aD X ae σ H s):∀b o,X.base.get? b=some o->s.heap.get? b=some o/\H b=none:=fun b o e=>
 ⟨I.base.keep b o (I.ok.bs b o e).1 (I.ok.bs b o e).2 (I.ok.NW e) (I.ok.mV b o e),I.base.free b o (I.ok.bs b o e).1 (I.ok.bs b o e).2 (I.ok.mV b o e)⟩
theorem aD.bk(I:aD X ae σ H s):∀b o,X.base.get? b=some o->s.heap.get? b=some o:=fun b o e=>(I.bs b o e).1
theorem aD.mod(I:aD X ae σ H s):Mod X.K X.mg X.base:=I.ok.mod
theorem aD.k6(I:aD X ae σ H s):X.K.In s.heap:=I.ok.mod.IG.keeps I.bk
theorem aD.fr(I:aD X ae σ H s):∃m,Fr X.base X.env.locals s.heap m:=
 let ⟨m,hn,_⟩:=I.loc
 ⟨m,hn,I.bk,bn I.ok.B9 I.ok.above⟩
theorem aD.lt(I:aD X ae σ H s):X.env.locals<s.heap.objs.size:=let ⟨_,hn,_⟩:=I.loc;hn.lt
theorem aD.sz(I:aD X ae σ H s):X.s₀.heap.objs.size<=s.heap.objs.size:=bn I.ok.above (g8 I.lt)
theorem aD.NX(I:aD X ae σ H s)(h:s.heap.objs.size<=a):a∉X.fs:=fun hb=>by
 obtain⟨_,o,ho,_⟩:=I.ok.jM.mem hb;exact absurd (bj (aU ho) (bn I.sz h)) (eF _)
theorem aD.FF(I:aD X ae σ H s):∀x c,X.env.cells.lookup x=some c->c≠X.env.locals:=fun x c e z=>by
 obtain⟨v,o,ho,hd⟩:=I.cell x c e;obtain⟨m,⟨o',es,ep,xB,Jn,_⟩,_⟩:=I.loc;rw[z,xB] at ho;cases ho;rw[Jn] at hd;cases hd
theorem aD.jM(I:aD X ae σ H s):s.heap.FunFrames X.base X.outer:=by
 have all:∀ (l:List Env),(∀b∈kv l,b∈X.fs)->X.s₀.heap.FunFrames X.base l->s.heap.FunFrames X.base l:=by
  intro l;induction l with
  |nil=>intro _ _;trivial
  |cons env r ih=>
   intro hs hl;obtain⟨hk,⟨L,o,hf,hn,ho,hd⟩,hr⟩:=hl;have hL:L∈X.fs:=hs L (by unfold kv;rw[ur,hf];exact bX);obtain⟨sl,e⟩:=I.base.slot L o ho (I.ok.Ck L hL) hL fun z=>I.ok.Cj L z hL;exact⟨hk,⟨L,_,hf,hn,e,hd⟩,ih (fun b hb=>hs b (by unfold kv;rw[ur,hf];exact bA _ hb)) hr⟩
 exact all X.outer (fun _ hb=>hb) I.ok.jM
theorem aD.stack(I:aD X ae σ H s):s.heap.FunFrames X.base X.stack:=by
 rcases I.ok.B8 with e|⟨e,hf⟩
 .rw[e];exact I.jM
 .rw[e];obtain⟨m,hn,_⟩:=I.loc;refine .cons (by rw[I.ok.kind];decide) hf hn ?_ I.jM;exact p_ (bn I.ok.B9 I.ok.above)
theorem aD.qz(I:aD X ae σ H s):∀b∈kv X.stack,b∈X.env.locals::X.fs:=fun b hb=>by
 rcases I.ok.B8 with e|⟨e,hf⟩
 .rw[e] at hb;exact bA _ hb
 .rw[e] at hb;unfold kv at hb;rw[ur,hf] at hb;exact hb
theorem aD.qA(I:aD X ae σ H s):∀b∈kv X.stack,H b=none:=fun b hb=>by
 rcases aY.mp (I.qz b hb) with e|hb
 .rw[e];exact I.free
 .obtain⟨_,o,ho,_⟩:=I.ok.jM.mem hb;exact I.base.free b o ho (I.ok.Ck b hb) fun z=>I.ok.Cj b z hb
theorem aD.step{g':Array GenState}{t':Nat}{d':Drawn}{ch:List Addr}(I:aD X ae σ H s)(B_:∀b∈ch,(b∈X.ex\/X.s₀.heap.objs.size<=b)/\b≠X.env.locals/\(∀x c,X.env.cells.lookup x=some c->c≠b)/\∀p∈X.pn++ae,p.1≠b)(keep:∀b o,b≠X.env.locals->b∉X.fs->b∉ch->s.heap.get? b=some o->H b=none->h'.get? b=some o)(slot:∀b o,b≠X.env.locals->b∈X.fs->b∉ch->s.heap.get? b=some o->H b=none->∃sl,h'.get? b=some { o with slots:=sl })(free:∀b o,b∉ch->s.heap.get? b=some o->H b=none->H' b=none)(there:∀b o,b∉ch->s.heap.get? b=some o->∃o',h'.get? b=some o')(jk:∀b xs,H b=some (.tup xs)->H' b=some (.tup xs))(kr:∀b o u,H b=some (.o5 o u)->H' b=some (.o5 o u))(ku:∀b ps,H b=some (.lq ps)->∃more,H' b=some (.lq (ps++more)))(ns:∀m,s.heap.Ns X.env.locals m->h'.Ns X.env.locals m)(bD:jL X.prog X.w H' h')(hg:AllBare g'):
  aD X ae σ H' { s with heap:=h',gens:=g',drawn:=d',toks:=t' }:=by
 have Su:∀b o,X.s₀.heap.get? b=some o->b≠X.env.locals:=fun b o e=>aL (bj (aU e) I.ok.above);have M3:∀b o,X.s₀.heap.get? b=some o->b∉X.ex->b∉ch:=fun b o e hx hb=>by
  rcases(B_ b hb).1 with z|z
  .exact hx z
  .exact absurd (bj (aU e) z) (eF _)
 have EB:∀x c,X.env.cells.lookup x=some c->∀v,s.heap.IsCell c v->h'.IsCell c v:=fun x c e v ⟨o,ho,hd⟩=>by
  have Jo:c∉ch:=fun z=>(B_ c z).2.2.1 x c e rfl;by_cases hc:c∈X.fs
  .obtain⟨sl,q⟩:=slot c o (I.FF x c e) hc Jo ho (I.iU x c e);exact⟨_,q,hd⟩
  .exact⟨o,keep c o (I.FF x c e) hc Jo ho (I.iU x c e),hd⟩
 refine⟨I.ok,I.os,hg,⟨fun b o e n hb hx=>?_,fun b o e n hb hx=>?_,fun b o e n hx=>?_,fun b o e hx=>?_,fun b xs e=>jk b xs (I.base.jk b xs e),fun b o xs e=>kr b o xs (I.base.kr b o xs e),fun b ps e=>?_⟩,?_,fun x c e=>?_,?_,fun x c e=>?_,fun p hp=>?_,bD,I.len⟩
 .exact keep b o (Su b o e) hb (M3 b o e hx) (I.base.keep b o e n hb hx) (I.base.free b o e n hx)
 .obtain⟨sl,e1⟩:=I.base.slot b o e n hb hx;obtain⟨NY,e2⟩:=slot b _ (Su b o e) hb (M3 b o e hx) e1 (I.base.free b o e n hx);exact⟨NY,e2⟩
 .obtain⟨o',e1⟩:=I.base.there b o e hx;exact free b o' (M3 b o e hx) e1 (I.base.free b o e n hx)
 .obtain⟨o',e1⟩:=I.base.there b o e hx;exact there b o' (M3 b o e hx) e1
 .obtain⟨m1,e1⟩:=I.base.ku b ps e;obtain⟨m2,e2⟩:=ku b _ e1;exact⟨m1++m2,by rw[e2,Array.append_assoc]⟩
 .obtain⟨m,hn,hl⟩:=I.loc;refine⟨m,ns m hn,fun i x v e1 e2 e3=>?_⟩;obtain⟨u,r,l⟩:=hl i x v e1 e2 e3;refine⟨u,r,?_⟩;rcases l with l|⟨k,c,e,z⟩
  .exact .inl l
  .exact .inr ⟨k,c,e,EB x c e _ z⟩
 .obtain⟨v,z⟩:=I.cell x c e;exact⟨v,EB x c e v z⟩
 .obtain⟨m,⟨o,_,_,ho,_⟩,_⟩:=I.loc;exact free _ o (fun z=>(B_ _ z).2.1 rfl) ho I.free
 .obtain⟨v,o,ho,hd⟩:=I.cell x c e;exact free c o (fun z=>(B_ c z).2.2.1 x c e rfl) ho (I.iU x c e)
 .obtain⟨e,n,ne,nf,d⟩:=I.pin p hp;have Jo:p.1∉ch:=fun z=>(B_ p.1 z).2.2.2 p hp rfl;exact⟨keep p.1 p.2 ne nf Jo e n,free p.1 p.2 Jo e n,ne,nf,d⟩
theorem aD.un{t':Nat}(I:aD X ae σ H s)(u:Un X.fs [] H H' s.heap h')(bD:jL X.prog X.w H' h'):aD X ae σ H' { s with heap:=h',toks:=t' }:=by
 obtain⟨m,⟨o,es,ep,ho,r⟩,_⟩:=id I.loc;obtain⟨sl,hL⟩:=u.any ho I.free (by simp);exact I.step (g':=s.gens) (d':=s.drawn) (ch:=[]) (fun _ z=>nomatch z) (fun b o _ hb _ e n=>u.keep b o e n hb (by simp)) (fun b o _ hb _ e n=>u.slot b o e n hb (by simp)) (fun b o _ e n=>u.free b o e n (by simp)) (fun b o _ e=>u.there b o e (by simp)) u.jk u.kr u.ku (fun m' hm=>by
  obtain⟨o',tT,M4,xB,r'⟩:=hm;rw[ho] at xB;cases xB;exact⟨_,tT,M4,hL,r'⟩) bD I.bare
theorem aD.call{g':Array GenState}{t':Nat}{d':Drawn}{ch:List Addr}(I:aD X ae σ H s)(u:Un (kv X.stack) ch H H' s.heap h')(bD:jL X.prog X.w H' h')(hg:AllBare g')(B_:∀b∈ch,(b∈X.ex\/X.s₀.heap.objs.size<=b)/\b≠X.env.locals/\(∀x c,X.env.cells.lookup x=some c->c≠b)/\∀p∈X.pn++ae,p.1≠b):
  aD X ae σ H' { s with heap:=h',gens:=g',drawn:=d',toks:=t' }:=by
 obtain⟨m,⟨o,es,ep,ho,r⟩,_⟩:=id I.loc;obtain⟨sl,hL⟩:=u.any ho I.free fun z=>(B_ _ z).2.1 rfl;exact I.step (ch:=ch) B_ (fun b o hL hb hc e n=>u.keep b o e n (fun z=>(aY.mp (I.qz b z)).elim hL hb) hc) (fun b o _ _ hc e n=>u.any e n hc) (fun b o hc e n=>u.free b o e n hc) (fun b o hc e=>u.there b o e hc) u.jk u.kr u.ku (fun m' hm=>by
  obtain⟨o',tT,M4,xB,r'⟩:=hm;rw[ho] at xB;cases xB;exact⟨_,tT,M4,hL,r'⟩) bD hg
theorem aD.turned{t':Nat}{it:Addr}(I:aD X ae σ H s)(k:∀b o,b≠it->s.heap.get? b=some o->h'.get? b=some o)(hn:H it=none)(hL:it≠X.env.locals)(h1:it∈X.ex\/X.s₀.heap.objs.size<=it)(h2:∀x c,X.env.cells.lookup x=some c->c≠it)(h3:∀p∈X.pn++ae,p.1≠it):aD X ae σ H { s with heap:=h',toks:=t' }:=by
 have EC:∀b u,H b=some u->b≠it:=fun b u e z=>by rw[z,hn] at e;cases e
 refine I.step (g':=s.gens) (d':=s.drawn) (ch:=[it]) (fun b hb=>?_) (fun b o _ _ hc e _=>k b o (fun z=>hc (by simp[z])) e) (fun b o _ _ hc e _=>⟨o.slots,k b o (fun z=>hc (by simp[z])) e⟩) (fun _ _ _ _ n=>n)
  (fun b o hc e=>⟨o,k b o (fun z=>hc (by simp[z])) e⟩) (fun _ _ e=>e) (fun _ _ _ e=>e) (fun b ps e=>⟨#[],by rw[e];simp⟩) (fun m hm=>?_) (fun b u e=>?_) I.bare
 .have e:b=it:=by simpa using hb
  subst e;exact⟨h1,hL,h2,h3⟩
 .obtain⟨o,es,ep,ho,r⟩:=hm;exact⟨o,es,ep,k _ o (cS hL) ho,r⟩
 .refine(I.bD b u e).lr (fun c v hc q=>k c v ?_ q) (fun _ q=>q) fun _ _ q=>q;rcases hc with z|z
  .rw[z];exact EC b u e
  .exact EC c _ z
theorem aD.tok(I:aD X ae σ H s)(t:Nat):aD X ae σ H { s with toks:=t }:=I.un (h':=s.heap) (t':=t) Un.refl I.bD
theorem aD.kept(I:aD X ae σ H s)(k:∀b u,s.heap.get? b=some u->h'.get? b=some u):aD X ae σ H { s with heap:=h',toks:=t' }:=I.un (Un.kept k) (I.bD.kept k)
theorem aD.laid(I:aD X ae σ H s)(k:∀b u,s.heap.get? b=some u->h'.get? b=some u)(hp:s.heap.objs.size<=a)(new:ck X.prog X.w (upd H a o) h' a o):
  aD X ae σ (upd H a o) { s with heap:=h',toks:=t' }:=I.un (Un.laid k hp (I.bD.fresh hp)) (I.bD.laid k hp new)
theorem aD.write(I:aD X ae σ H s)(mu:M1 (H x))(he:e=x\/H e=some (.own x))(k:∀b u,b≠e->s.heap.get? b=some u->h'.get? b=some u)(IF:∃u,h'.get? e=some u)(new:ck X.prog X.w (upd H x o) h' x o):aD X ae σ (upd H x o) { s with heap:=h',toks:=t' }:=I.un (Un.write mu he k IF) (I.bD.write mu he k IF new)
theorem aD.v7(I:aD X ae σ H s)(h:∀p∈Jp,s.heap.get? p.1=some p.2/\H p.1=none/\p.1≠X.env.locals/\p.1∉X.fs/\∀v,p.2.data≠.cell v):aD X Jp σ H s:=
 ⟨I.ok,I.os,I.bare,I.base,I.loc,I.cell,I.free,I.iU,fun p hp=>(cY.mp hp).elim (fun z=>I.pin p (kU _ z)) (h p),I.bD,I.len⟩
theorem rR{N:List Str}(hN:N.Nodup){i j:Nat}{x:Str}(a:N[i]?=some x)(b:N[j]?=some x):i=j:=by
 obtain⟨h1,e1⟩:=cj.mp a;obtain⟨h2,e2⟩:=cj.mp b;exact(List.getElem_inj hN).mp (e1.trans e2.symm)
theorem o6{M:Model}{A:Around}{E:Value->Shared->Prop}{i:Nat}{x:Str}{v:V}{u:Value}{Q:Unit->Shared->Prop}(I:aD X ae σ H s)(hN:X.N.Nodup)(hi:X.N[i]?=some x)(hx:Jl X.env.scope x)(r:bh v u)(h:∀s',aD X ae (σ.set i (some v)) H s'->(∃a,Heap.SameBut a s.heap s'.heap/\(a=X.env.locals\/X.env.cells.lookup x=some a))->Q () s')(hf:X.fn x=true\/X.env.scope.names.lookup x=some .local:=by first|exact .inl rfl|exact .inr rfl|assumption):wpAny M A (storeName X.env x u) Q E s:=by
 obtain⟨m,hn,hl⟩:=id I.loc;have NZ:(X.env.scope.kind==.class||(X.env.scope.kind==.module&&X.env.locals != X.env.globals))=false:=by rw[I.ok.kind];rfl
 have hiσ:i<σ.length:=by rw[I.len];exact(cj.mp hi).1
 have FF:=I.FF;have v8:∀ {a:Addr} {h':Heap},(∃o,s.heap.get? a=some o/\H a=none)->Heap.SameBut a s.heap h'->jL X.prog X.w H h':=fun {a h'} ha hs b ob e=>by
  obtain⟨_,_,ED⟩:=ha;refine(I.bD b ob e).lr (fun c w' hc q=>(hs.2 c ?_).trans q) (fun _ q=>q) fun _ _ q=>q;rintro rfl;rcases hc with rfl|hc
  .rw[ED] at e;cases e
  .rw[ED] at hc;cases hc
 rcases hx with hk|hk
 .refine wpAny_storeName_local hk hn (fun h' M5 hs=>?_) NZ;obtain⟨oL,_,_,yV,_⟩:=id hn;refine h _ ⟨I.ok,I.os,I.bare,⟨fun b o e n hb hx=>?_,fun b o e n hb hx=>?_,I.base.free,fun b o e hx=>?_,I.base.jk,I.base.kr,I.base.ku⟩,⟨_,M5,fun j y v' e1 e2 e3=>?_⟩,fun y c e=>?_,I.free,I.iU,fun p hp=>?_,v8 ⟨oL,yV,I.free⟩ hs,by simpa using I.len⟩ ⟨_,hs,.inl rfl⟩
  .exact(hs.2 b (aL (bj (aU e) I.ok.above))).trans (I.base.keep b o e n hb hx)
  .obtain⟨sl,e1⟩:=I.base.slot b o e n hb hx;exact⟨sl,(hs.2 b (aL (bj (aU e) I.ok.above))).trans e1⟩
  .obtain⟨o',e1⟩:=I.base.there b o e hx;exact⟨o',(hs.2 b (aL (bj (aU e) I.ok.above))).trans e1⟩
  .by_cases hj:j=i
   .subst hj;rw[hi] at e1;cases e1;rw[l9 hiσ] at e2;cases e2;exact⟨u,r,.inl ⟨hk,by simp⟩⟩
   .rw[pY (cS hj)] at e2;obtain⟨u',r',q⟩:=hl j y v' e1 e2 e3;refine⟨u',r',?_⟩;rcases q with ⟨k,e⟩|⟨k,c,e,z⟩
    .refine .inl ⟨k,?_⟩;have:y≠x:=fun e=>hj (rR hN e1 (e ▸ hi));simp[this,e]
    .exact .inr ⟨k,c,e,z.sameBut hs (FF y c e)⟩
  .obtain⟨w',z⟩:=I.cell y c e;exact⟨w',z.sameBut hs (FF y c e)⟩
  .obtain⟨e,n,ne,nf,d⟩:=I.pin p hp;exact⟨(hs.2 p.1 ne).trans e,n,ne,nf,d⟩
 .have N0:X.fn x=true:=by
   rcases hf with z|z
   .exact z
   .rw[z] at hk;cases hk
  obtain⟨c,hc⟩:=I.ok.has x (.inl hk);obtain⟨w',z⟩:=I.cell x c hc;refine wpAny_storeName_cell I.ok.kind hk hc z (fun h' FG hs=>?_);obtain⟨oc,M6,N2⟩:=id z;refine h { s with heap:=h' } ⟨I.ok,I.os,I.bare,⟨fun b o e n hb hx=>?_,fun b o e n hb hx=>?_,I.base.free,fun b o e hx=>?_,I.base.jk,I.base.kr,I.base.ku⟩,⟨m,hn.sameBut hs (cS (FF x c hc)),fun j y v' e1 e2 e3=>?_⟩,fun y c' e=>?_,I.free,I.iU,fun p hp=>?_,v8 ⟨oc,M6,I.iU x c hc⟩ hs,by simpa using I.len⟩ ⟨c,hs,.inr hc⟩
  .exact(hs.2 b (aL (bj (aU e) (I.ok.Jm x c N0 hc)))).trans (I.base.keep b o e n hb hx)
  .obtain⟨sl,e1⟩:=I.base.slot b o e n hb hx;exact⟨sl,(hs.2 b (aL (bj (aU e) (I.ok.Jm x c N0 hc)))).trans e1⟩
  .obtain⟨o',e1⟩:=I.base.there b o e hx;exact⟨o',(hs.2 b (aL (bj (aU e) (I.ok.Jm x c N0 hc)))).trans e1⟩
  .by_cases hj:j=i
   .subst hj;rw[hi] at e1;cases e1;rw[l9 hiσ] at e2;cases e2;exact⟨u,r,.inr ⟨.inl hk,c,hc,FG⟩⟩
   .rw[pY (cS hj)] at e2;obtain⟨u',r',q⟩:=hl j y v' e1 e2 e3;refine⟨u',r',?_⟩;rcases q with q|⟨k,c',e,z'⟩
    .exact .inl q
    .refine .inr ⟨k,c',e,z'.sameBut hs ?_⟩;rintro rfl;exact hj (rR hN e1 (I.ok.inj _ _ _ e hc ▸ hi))
  .by_cases Sv:c'=c
   .subst Sv;exact⟨_,FG⟩
   .obtain⟨w2,z2⟩:=I.cell y c' e;exact⟨w2,z2.sameBut hs Sv⟩
  .obtain⟨e,n,ne,nf,d⟩:=I.pin p hp;refine⟨(hs.2 p.1 ?_).trans e,n,ne,nf,d⟩;intro q;rw[q,M6] at e;have q':oc=p.2:=bG e;exact d w' (by rw[<-q'];exact N2)
theorem hU(I:aD X ae σ H s)(hN:X.N.Nodup)(hi:X.N[i]?=some x)(hx:Jl X.env.scope x)(r:bh v u)(h:∀s',aD X ae (σ.set i (some v)) H s'->Q () s')(hf:X.fn x=true\/X.env.scope.names.lookup x=some .local:=by first|exact .inl rfl|exact .inr rfl|assumption):wpAny M A (storeName X.env x u) Q E s:=
 o6 I hN hi hx r (fun s' I' _=>h s' I') hf
theorem aD.Jq(I:aD X ae σ H s)(ho:s'.os=s.os)(u:Un (kv X.stack) ch H H' s.heap s'.heap)(bD:jL X.prog X.w H' s'.heap)(hg:AllBare s'.gens)(B_:∀b∈ch,(b∈X.ex\/X.s₀.heap.objs.size<=b)/\b≠X.env.locals/\(∀x c,X.env.cells.lookup x=some c->c≠b)/\∀p∈X.pn++ae,p.1≠b):aD X ae σ H' s':=by
 obtain⟨h',g',d',t',o'⟩:=s';have e:o'=s.os:=ho;subst e;exact I.call (g':=g') (t':=t') (d':=d') u bD hg B_
end
abbrev XK:=Value->Option Addr->Hp->Prop
abbrev St:=List (Option V)
abbrev VK:=V->Hp->Prop
abbrev TE:=St->Hp->VK->Prop
abbrev TT:=St->Hp->(Bool->Hp->Prop)->Prop
abbrev TA:=St->Hp->(List V->Hp->Prop)->Prop
structure oC where
 nx:St->Hp->Prop
 rt:VK
 bk:St->Hp->Prop:=fun _ _=>False
 ct:St->Hp->Prop:=fun _ _=>False
abbrev TS:=oC->St->Hp->Prop
def EP(X:Cx)(ae:List (Addr×Obj))(σ:St)(Q:VK)(u:Value)(s':Shared):Prop:=∃v H',aD X ae σ H' s'/\bh v u/\Q v H'
def TP(X:Cx)(ae:List (Addr×Obj))(σ:St)(Q:Bool->Hp->Prop)(b:Bool)(s':Shared):Prop:=∃H',aD X ae σ H' s'/\Q b H'
def AP(X:Cx)(ae:List (Addr×Obj))(σ:St)(Q:List V->Hp->Prop)(us:List Value)(s':Shared):Prop:=∃vs H',aD X ae σ H' s'/\aS vs us/\Q vs H'
def SP(X:Cx)(ae:List (Addr×Obj))(D:oC)(f:Flow)(s':Shared):Prop:=
 match f with
 |.next=>∃σ' H',aD X ae σ' H' s'/\D.nx σ' H'
 |.brk=>∃σ' H',aD X ae σ' H' s'/\D.bk σ' H'
 |.cont=>∃σ' H',aD X ae σ' H' s'/\D.ct σ' H'
 |.ret u=>∃v σ' H',aD X ae σ' H' s'/\bh v u/\D.rt v H'
def PE(X:Cx)(e:Expr)(t:TE):Prop:=
 ∀ (ae:List (Addr×Obj)) (s:Shared) (σ:St) (H:Hp) (Q:VK),aD X ae σ H s->t σ H Q->wpAny (model X.prog X.w) X.A (eval e X.env) (EP X ae σ Q) X.xe s
def PT(X:Cx)(e:Expr)(t:TT):Prop:=
 ∀ (ae:List (Addr×Obj)) (s:Shared) (σ:St) (H:Hp) (Q:Bool->Hp->Prop),aD X ae σ H s->t σ H Q->wpAny (model X.prog X.w) X.A (isTrue e X.env (eval e X.env)) (TP X ae σ Q) X.xe s
def PW(X:Cx)(e:Expr)(t:TT):Prop:=
 ∀ (v9:Sem Value) (ae:List (Addr×Obj)) (s:Shared) (σ:St) (H:Hp) (Q:Bool->Hp->Prop),aD X ae σ H s->t σ H Q->wpAny (model X.prog X.w) X.A (isTrue e X.env v9) (TP X ae σ Q) X.xe s
theorem PW.pt(h:PW X e t):PT X e t:=h _
def PA(X:Cx)(es:List Expr)(t:TA):Prop:=
 ∀ (pos:Pos) (ae:List (Addr×Obj)) (s:Shared) (σ:St) (H:Hp) (Q:List V->Hp->Prop),aD X ae σ H s->t σ H Q->wpAny (model X.prog X.w) X.A (spliced (backTo pos (starEach es X.env))) (AP X ae σ Q) X.xe s
def PS(X:Cx)(st:Stmt)(t:TS):Prop:=
 ∀ (ae:List (Addr×Obj)) (s:Shared) (σ:St) (H:Hp) (D:oC),aD X ae σ H s->t D σ H->wpAny (model X.prog X.w) X.A (exec st X.env) (SP X ae D) X.xe s
def tU(X:Cx)(st:List Stmt)(t:TS):Prop:=
 ∀ (ae:List (Addr×Obj)) (s:Shared) (σ:St) (H:Hp) (D:oC),aD X ae σ H s->t D σ H->wpAny (model X.prog X.w) X.A (execs st X.env) (SP X ae D) X.xe s
theorem cC(h:wpAny M A t Q E s)(hQ:∀a s,Q a s->Q' a s):wpAny M A t Q' E s:=jg h hQ fun _ _ x=>x
section
variable {X:Cx}
def cN(i:Nat):TE:=fun σ H Q=>∃v,σ[i]?=some (some v)/\Q v H
def tC(v:V):TE:=fun _ H Q=>Q v H
theorem FH(hN:X.N[i]?=some x)(hv:Jk X.env.scope x)(hd:(x==("__debug__":Str))=false:=by decide)(ot:(x==("__classdict__":Str))=false:=by decide):PE X (.Name x pos) (cN i):=by
 intro ae s σ H Q I h;obtain⟨v,e,h⟩:=h;obtain⟨m,hn,hl⟩:=I.loc;obtain⟨u,r,l⟩:=hl i x v hN e hv;have dz:EP X ae σ Q u s:=⟨v,H,I,r,h⟩
 rcases l with ⟨hk,hm⟩|⟨hk,c,hc,v_⟩
 .exact kn (uz I.ok.kind hk hn hm dz) hd
 .rcases hk with hk|hk
  .exact kn (wpAny_loadName_cell I.ok.kind hk hc v_ dz) hd
  .exact kn (uF I.ok.kind hk hc v_ dz ot) hd
theorem av{i j pos}:PE X (.Constant (.int i) j pos) (tC (.int i)):=fun _ _ _ H _ I h=>wpAny_Constant_int ⟨.int i,H,I.tok _,⟨_,rfl⟩,h⟩
theorem iV{b j pos}:PE X (.Constant (.bool b) j pos) (tC (.bl b)):=fun _ _ _ H _ I h=>Constant_bool ⟨.bl b,H,I,rfl,h⟩
theorem gc{j pos}:PE X (.Constant .none j pos) (tC .bV):=fun _ _ _ H _ I h=>Constant_none ⟨.bV,H,I,rfl,h⟩
theorem mW{x j pos}:PE X (.Constant (.str x) j pos) (tC (.str x)):=fun _ _ _ H _ I h=>Calls.Constant_str ⟨.str x,H,I.tok _,⟨_,rfl⟩,h⟩
def Gl(X:Cx)(x:Str):Prop:=X.env.kindOf x=some .globalImplicit
theorem lK(I:aD X ae σ H s)(hg:Gl X x)(hm:X.mg x=some u)(h:Q u s)(hd:(x==("__debug__":Str))=false:=by decide):wpAny (model X.prog X.w) X.A (eval (.Name x pos) X.env) Q E s:=
 Calls.Name_function_global I.ok.kind hg (Calls.loadGlobal_global (by rw[I.ok.glob];exact I.mod.glob.keeps I.bk) hm h) hd
theorem ge(I:aD X ae σ H s)(hg:Gl X x)(hm:X.mg x=none)(hv:bootBuiltins x=some u)(h:Q u s)(hn:x≠"__name__":=by decide)(hd:(x==("__debug__":Str))=false:=by decide):wpAny (model X.prog X.w) X.A (eval (.Name x pos) X.env) Q E s:=by
 obtain⟨mb,h1,h2⟩:=I.mod.blt;exact Calls.Name_function_global I.ok.kind hg (Calls.loadGlobal_builtin (by rw[I.ok.glob];exact I.mod.glob.keeps I.bk) hm (by rw[I.ok.blt];exact h1.keeps I.bk) ((h2 x hn).trans hv) h) hd
theorem gf(hg:Gl X x)(hm:X.mg x=some u)(r:bh v u)(hd:(x==("__debug__":Str))=false:=by decide):PE X (.Name x pos) (tC v):=
 fun _ _ _ H _ I h=>lK I hg hm ⟨v,H,I,r,h⟩ hd
theorem fk(hg:Gl X x)(hm:X.mg x=none)(hv:bootBuiltins x=some u)(r:bh v u)(hn:x≠"__name__":=by decide)(hd:(x==("__debug__":Str))=false:=by decide):PE X (.Name x pos) (tC v):=
 fun _ _ _ H _ I h=>ge I hg hm hv ⟨v,H,I,r,h⟩ hn hd
variable {a b:Expr} {ta tb:TE} {pos:Pos}
def tB(t:TE):TT:=fun σ H Q=>t σ H fun x H1=>∃c,x=.bl c/\Q c H1
theorem cw(h:PE X e t)(he:∀v9,isTrue e X.env v9=(do let v <- v9;standAt e.pos;holding [v] (truthy v)):=by intro _;rfl):PT X e (tB t):=by
 intro ae s σ H Q I hw;refine isTrue_plain (cC (h ae s σ H _ I hw) fun v s1 ⟨x,H1,I1,r1,q1⟩=>?_) (he _);obtain⟨d,rfl,q⟩:=q1;cases r1;exact mv ⟨H1,I1,q⟩
variable {tA Sw:TT} {oE:List Expr}
def UH(t u:TT):TT:=fun σ H Q=>t σ H fun c H1=>if c=true then Q true H1 else u σ H1 Q
def N3(t:TT):TT:=fun σ H Q=>t σ H fun c H1=>Q (!c) H1
theorem jl(ha:PT X a tA):PW X (.BoolOp .Or [a] pos) tA:=by
 intro wh ae s σ H Q I h;refine isTrue_or (cC (ha ae s σ H Q I h) fun c s1 e=>?_);cases c with
 |false=>exact isTrue_or_nil e
 |true=>exact e
theorem mX(ha:PT X a tA)(hb:PW X (.BoolOp .Or (b::oE) pos) Sw):PW X (.BoolOp .Or (a::b::oE) pos) (UH tA Sw):=by
 intro wh ae s σ H Q I h;refine isTrue_or (cC (ha ae s σ H _ I h) fun c s1 ⟨H1,I1,q1⟩=>?_);cases c with
 |true=>exact⟨H1,I1,q1⟩
 |false=>exact hb wh ae s1 σ H1 Q I1 q1
theorem cH(ha:PT X a tA):PT X (.UnaryOp .Not a pos) (N3 tA):=by
 intro ae s σ H Q I h;exact isTrue_not (ha ae s σ H (fun c H1=>Q (!c) H1) I h)
def Jr(ta tb:TE):TE:=fun σ H Q=>ta σ H fun x H1=>∃c,x=.bl c/\if c=true then tb σ H1 Q else Q (.bl false) H1
def Js(ta:TE):TE:=fun σ H Q=>ta σ H fun x H1=>∃c,x=.bl c/\Q (.bl (!c)) H1
theorem ky{op}(h:PE X a t):PE X (.BoolOp op [a] pos) t:=fun ae s σ H Q I hw=>BoolOp_one (h ae s σ H Q I hw)
theorem jm(ha:PE X a ta)(hb:PE X (.BoolOp .And (b::oE) pos) tb):PE X (.BoolOp .And (a::b::oE) pos) (Jr ta tb):=by
 intro ae s σ H Q I h;refine BoolOp_and (cC (ha ae s σ H _ I h) fun v s1 ⟨x,H1,I1,r1,q1⟩=>?_);obtain⟨c,rfl,q1⟩:=q1;cases r1;refine mv ?_;cases c with
 |true=>exact hb ae s1 σ H1 Q I1 q1
 |false=>exact⟨.bl false,H1,I1,rfl,q1⟩
theorem FJ(ha:PE X a ta):PE X (.UnaryOp .Not a pos) (Js ta):=by
 intro ae s σ H Q I h;refine UnaryOp_ (cC (ha ae s σ H _ I h) fun v s1 ⟨x,H1,I1,r1,q1⟩=>?_);obtain⟨c,rfl,q1⟩:=q1;cases r1;exact not_of (mv ⟨.bl (!c),H1,I1,rfl,q1⟩)
def Sx(t:TT)(ta tb:TE):TE:=fun σ H Q=>t σ H fun c H1=>if c=true then ta σ H1 Q else tb σ H1 Q
theorem rS(hc:PT X c tA)(ha:PE X a ta)(hb:PE X b tb):PE X (.IfExp c a b pos) (Sx tA ta tb):=by
 intro ae s σ H Q I h;refine wpAny_IfExp (cC (hc ae s σ H _ I h) fun d s1 ⟨H1,I1,q1⟩=>?_);cases d with
 |true=>exact ha ae s1 σ H1 Q I1 q1
 |false=>exact hb ae s1 σ H1 Q I1 q1
end
def bo(K:PySem.W.Frag)(H:Hp)(a:Addr)(xs:List V):Prop:=
 Rd H a (.lst xs)\/
  ∃ (o:Obj) (its:Array Value) (n:Nat),K.lookup a=some o/\o.cls=.type "list"/\o.dict=none/\o.data=.seq its n/\its.size<=sizeLine/\aS xs its.toList
def bL(K:PySem.W.Frag)(H:Hp)(a:Addr)(xs:List V):Prop:=
 Rd H a (.tup xs)\/
  ∃ (o:Obj) (its:Array Value) (n:Nat),K.lookup a=some o/\o.cls=.type "tuple"/\o.data=.seq its n/\its.size<=sizeLine/\aS xs its.toList
def N4:Value->Option V
 |.none=>some .bV
 |.bool b=>some (.bl b)
 |.int i _=>some (.int i)
 |.str x _=>some (.str x)
 |.bytes b _=>some (.yU b)
 |.float b _=>some (.FE b)
 |.ref a=>some (.ref a)
 |.type n=>some (.ty n)
 |_=>none
theorem bh.abs(r:bh x u):N4 u=some x:=by
 cases x with
 |bV=>cases r;rfl
 |bl _=>cases r;rfl
 |int _=>obtain⟨t,rfl⟩:=r;rfl
 |str _=>obtain⟨t,rfl⟩:=r;rfl
 |yU _=>obtain⟨t,rfl⟩:=r;rfl
 |FE _=>obtain⟨t,rfl⟩:=r;rfl
 |ref _=>cases r;rfl
 |ty _=>cases r;rfl
theorem bh.inj(r:bh x u)(q:bh y u):x=y:=bG (r.abs.symm.trans q.abs)
theorem aS.inj:∀ {xs ys:List V} {us:List Value},aS xs us->aS ys us->xs=ys
 |_,_,_,.nil,.nil=>rfl
 |_,_,_,.cons r t,.cons r' t'=>by rw[r.inj r',aS.inj t t']
section
variable {X:Cx} {ae:List (Addr×Obj)} {σ:St} {H:Hp} {s:Shared} {a:Addr} {xs ys:List V}
theorem bo.of{K:PySem.W.Frag}(h:H a=some (.lst xs)):bo K H a xs:=.inl (.inl h)
theorem bL.of{K:PySem.W.Frag}(h:H a=some (.tup xs)):bL K H a xs:=.inl (.inl h)
theorem aD.list(I:aD X ae σ H s)(h:bo X.K H a xs):∃its:List Value,aS xs its/\PlainL s.heap a its.toArray/\xs.length<=sizeLine:=by
 rcases h with h|⟨o,its,n,hk,hc,hd,hs,hz,r⟩
 .obtain⟨z,its,n,r,e⟩:=h.ok I.bD;exact⟨its,r,⟨_,n,e,rfl,rfl,rfl⟩,z⟩
 .refine⟨its.toList,r,⟨o,n,I.k6 a o hk,hc,hd,by simpa using hs⟩,?_⟩;have e:=r.length;simp only[j7] at e;lia
theorem aD.tuple(I:aD X ae σ H s)(h:bL X.K H a xs):∃its:List Value,aS xs its/\IsTup s.heap a its.toArray/\xs.length<=sizeLine:=by
 rcases h with h|⟨o,its,n,hk,hc,hs,hz,r⟩
 .obtain⟨z,its,r,p⟩:=h.ok I.bD;exact⟨its,r,p.tup,z⟩
 .refine⟨its.toList,r,⟨o,I.k6 a o hk,hc,n,by simpa using hs⟩,?_⟩;have e:=r.length;simp only[j7] at e;lia
theorem aD.rT(I:aD X ae σ H s)(h:bo X.K H a xs)(h':bo X.K H a ys):xs=ys:=by
 obtain⟨its,r,⟨o,n,e,_,_,d⟩,_⟩:=I.list h;obtain⟨its',r',⟨o',n',e',_,_,d'⟩,_⟩:=I.list h';rw[e] at e';cases e';rw[d] at d';injection d' with d1 _;have:its=its':=by simpa using congrArg Array.toList d1
 subst this;exact r.inj r'
theorem aD.o7(I:aD X ae σ H s)(h:bL X.K H a xs)(h':bL X.K H a ys):xs=ys:=by
 obtain⟨its,r,⟨o,e,_,n,d⟩,_⟩:=I.tuple h;obtain⟨its',r',⟨o',e',_,n',d'⟩,_⟩:=I.tuple h';rw[e] at e';cases e';rw[d] at d';injection d' with d1 _;have:its=its':=by simpa using congrArg Array.toList d1
 subst this;exact r.inj r'
end
abbrev Cx.oF(X:Cx)(E:Value->Shared->Prop):Cx:={ X with xe:=E }
abbrev Cx.EE(X:Cx):Cx:=X.oF fun _ _=>False
theorem Cx.Ok.oF{X:Cx}(ok:X.Ok)(E:Value->Shared->Prop):(X.oF E).Ok:=
 ⟨ok.mod,ok.kind,ok.glob,ok.blt,ok.above,ok.inj,ok.has,ok.Jm,ok.hd,ok.frames,ok.B8,ok.NU,ok.bs,ok.B9,ok.mV,ok.Cj,ok.jM,ok.Ck⟩
theorem Cx.Ok.hV{X:Cx}{E:Value->Shared->Prop}(ok:(X.oF E).Ok):X.Ok:=
 ⟨ok.mod,ok.kind,ok.glob,ok.blt,ok.above,ok.inj,ok.has,ok.Jm,ok.hd,ok.frames,ok.B8,ok.NU,ok.bs,ok.B9,ok.mV,ok.Cj,ok.jM,ok.Ck⟩
section
variable {X:Cx} {ae:List (Addr×Obj)} {σ:St} {H:Hp} {s:Shared} {E:Value->Shared->Prop}
theorem aD.oF(I:aD X ae σ H s)(E:Value->Shared->Prop):aD (X.oF E) ae σ H s:=⟨I.ok.oF E,I.os,I.bare,I.base,I.loc,I.cell,I.free,I.iU,I.pin,I.bD,I.len⟩
theorem aD.hV(I:aD (X.oF E) ae σ H s):aD X ae σ H s:=⟨I.ok.hV,I.os,I.bare,I.base,I.loc,I.cell,I.free,I.iU,I.pin,I.bD,I.len⟩
theorem SP.hV(h:SP (X.oF E) ae D f s'):SP X ae D f s':=by
 cases f with
 |next=>obtain⟨σ',H',I,q⟩:=h;exact⟨σ',H',I.hV,q⟩
 |brk=>obtain⟨σ',H',I,q⟩:=h;exact⟨σ',H',I.hV,q⟩
 |cont=>obtain⟨σ',H',I,q⟩:=h;exact⟨σ',H',I.hV,q⟩
 |ret u=>obtain⟨v,σ',H',I,r,q⟩:=h;exact⟨v,σ',H',I.hV,r,q⟩
theorem tU.EE{st:List Stmt}{t:TS}(h:tU X.EE st t):tU X st t:=fun ae s σ H D I hw=>
 jg (h ae s σ H D (I.oF _) hw) (fun _ _ q=>q.hV) fun _ _ z=>False.elim z
end
section
variable {X:Cx} {st:Stmt} {oE:List Stmt} {t u:TS} {e:Expr} {te:TE} {pos:Pos}
def Jt:TS:=fun D σ H=>D.nx σ H
def Ju(t u:TS):TS:=fun D σ H=>t { D with nx:=u D } σ H
theorem aN:tU X [] Jt:=fun _ _ σ H _ I h=>qo ⟨σ,H,I,h⟩
theorem ag(h1:PS X st t)(h2:tU X oE u):tU X (st::oE) (Ju t u):=by
 intro ae s σ H D I h;refine wpAny_execs_cons (cC (h1 ae s σ H { D with nx:=u D } I h) fun f s1 q=>?_);cases f with
 |next=>
  obtain⟨σ',H',I',q⟩:=q;exact h2 ae s1 σ' H' D I' q
 |ret v=>exact q
 |brk=>exact q
 |cont=>exact q
theorem aj(h1:PS X st t):tU X [st] t:=by
 intro ae s σ H D I h;refine wpAny_execs_cons (cC (h1 ae s σ H D I h) fun f s1 q=>?_);cases f with
 |next=>exact qo q
 |ret v=>exact q
 |brk=>exact q
 |cont=>exact q
theorem aD.quiet(I:aD X ae σ H s):interactive X.env=false:=by simp[interactive,I.ok.kind]
def Jv(te:TE):TS:=fun D σ H=>te σ H fun _ H1=>D.nx σ H1
theorem cx(he:PE X e te)(hs:swapsWith e none pos.line X.env=pure false:=by rfl):PS X (.Expr e pos) (Jv te):=by
 intro ae s σ H D I h;exact wpAny_Expr_any (cC (he ae s σ H _ I h) fun v s1 ⟨x,H1,I1,r1,q1⟩=>⟨σ,H1,I1,q1⟩) I.quiet hs
def N5(te:TE):TS:=fun D σ H=>te σ H D.rt
theorem aJ(he:PE X e te):PS X (.Return (some e) pos) (N5 te):=by
 intro ae s σ H D I h;exact wpAny_Return_some (cC (he ae s σ H _ I h) fun v s1 ⟨x,H1,I1,r1,q1⟩=>⟨x,σ,H1,I1,r1,q1⟩)
def N8(c:TT)(t u:TS):TS:=fun D σ H=>c σ H fun b H1=>if b=true then t D σ H1 else u D σ H1
theorem bw(hc:PT X c tc)(ha:tU X a t)(hb:tU X b u):PS X (.If c a b pos) (N8 tc t u):=by
 intro ae s σ H D I h;refine wpAny_If (cC (hc ae s σ H _ I h) fun d s1 ⟨H1,I1,q1⟩=>?_);cases d with
 |true=>exact ha ae s1 σ H1 D I1 q1
 |false=>exact hb ae s1 σ H1 D I1 q1
def FK:TS:=fun _ _ _=>False
theorem cm:tU X XT FK:=fun _ _ _ _ _ _ h=>h.elim
end
abbrev TG:=V->St->Hp->(St->Hp->Prop)->Prop
abbrev Jw:=List V->St->Hp->(St->Hp->Prop)->Prop
def PG(X:Cx)(FL:Expr)(t:TG):Prop:=
 ∀ (ae:List (Addr×Obj)) (s:Shared) (σ:St) (H:Hp) (v:V) (u:Value) (Q:St->Hp->Prop),aD X ae σ H s->bh v u->t v σ H Q->
  wpAny (model X.prog X.w) X.A (assign FL X.env u) (fun _ s'=>∃σ' H',aD X ae σ' H' s'/\Q σ' H') X.xe s
def M7(X:Cx)(ts:List Expr)(t:Jw):Prop:=
 ∀ (ae:List (Addr×Obj)) (s:Shared) (σ:St) (H:Hp) (vs:List V) (us:List Value) (Q:St->Hp->Prop),aD X ae σ H s->aS vs us->t vs σ H Q->
  wpAny (model X.prog X.w) X.A (assignInOrder ((assignEach ts X.env).map (·.2)) us) (fun _ s'=>∃σ' H',aD X ae σ' H' s'/\Q σ' H') X.xe s
abbrev Jx:=V->V->V->Hp->(Hp->Prop)->Prop
def Jy(X:Cx)(t:Jx):Prop:=
 ∀ (ae:List (Addr×Obj)) (s:Shared) (σ:St) (H:Hp) (o i v:V) (ov iv u:Value) (Q:Hp->Prop),aD X ae σ H s->bh o ov->bh i iv->bh v u->t o i v H Q->
  wpAny (model X.prog X.w) X.A (setItem ov iv u) (fun _ s'=>∃H',aD X ae σ H' s'/\Q H') X.xe s
abbrev N9:=V->V->Hp->VK->Prop
def M8(X:Cx)(op:Operator)(t:N9):Prop:=
 ∀ (ae:List (Addr×Obj)) (s:Shared) (σ:St) (H:Hp) (x y:V) (v u:Value) (Q:VK),aD X ae σ H s->bh x v->bh y u->t x y H Q->
  wpAny (model X.prog X.w) X.A (inplaceOp op v u) (EP X ae σ Q) X.xe s
section
variable {X:Cx} {pos:Pos}
def cD(i:Nat):TG:=fun v σ H Q=>Q (σ.set i (some v)) H
theorem aA(hN:X.N.Nodup)(hi:X.N[i]?=some x)(hx:Jl X.env.scope x)(hf:X.fn x=true\/X.env.scope.names.lookup x=some .local:=by first|exact .inl rfl|exact .inr rfl|assumption):PG X (.Name x pos) (cD i):=by
 intro ae s σ H v u Q I r h;exact wpAny_assign_Name (hU I hN hi hx r (fun s' I'=>⟨_,H,I',h⟩) hf)
def xC:Jw:=fun vs σ H Q=>vs=[]/\Q σ H
def hW(t:TG)(u:Jw):Jw:=fun vs σ H Q=>∃v r,vs=v::r/\t v σ H fun σ' H'=>u r σ' H' Q
theorem dA:M7 X [] xC:=by
 intro ae s σ H vs us Q I r h;obtain⟨e,h⟩:=h;subst e;cases r;exact assignInOrder_nil ⟨σ,H,I,h⟩
theorem aZ(h1:PG X e t)(h2:M7 X es u)(hs:(assignEach (e::es) X.env).map (·.2)=assign e X.env::(assignEach es X.env).map (·.2):=by rfl):M7 X (e::es) (hW t u):=by
 intro ae s σ H vs us Q I r h;obtain⟨v,vr,e1,h⟩:=h;subst e1;cases r with
 |cons r rr=>
  rw[hs];refine assignInOrder_cons (cC (h1 ae s σ H _ _ _ I r h) fun _ s1 ⟨σ1,H1,I1,q1⟩=>?_);exact h2 ae s1 σ1 H1 _ _ Q I1 rr q1
def xD(K:PySem.W.Frag)(n:Nat)(t:Jw):TG:=fun v σ H Q=>∃a xs,v=.ref a/\bL K H a xs/\xs.length=n/\t xs σ H Q
theorem eS(hc:X.calm=true)(h:M7 X es t)(hn:(assignEach es X.env).length=n:=by rfl)(gO:(assignEach es X.env).findIdx? (·.1)=none:=by rfl):PG X (.Tuple es k pos) (xD X.K n t):=by
 intro ae s σ H v u Q I r hw;obtain⟨a,xs,e1,hq,hl,hw⟩:=hw;subst e1;cases r;obtain⟨its,rv,ht,hz⟩:=I.tuple hq;refine assign_Tuple_tuple (I.ok.hd hc) ht (by simp[hn,<-hl,rv.length]) gO fun h' hx=>?_;have I1:aD X ae σ H { s with heap:=h' }:=I.kept (t':=s.toks) fun b o e=>hx b o (aL (aU e)) e;exact h ae _ σ H xs _ Q I1 (by simpa using rv) hw
def N_(to ti:TE)(t:Jx):TG:=fun v σ H Q=>to σ H fun o H1=>ti σ H1 fun i H2=>t o i v H2 fun H3=>Q σ H3
theorem mZ(ho:PE X o to)(hi:PE X i ti)(hs:Jy X t)(ha:∀v,assign (.Subscript o i pos) X.env v=(do
   let ov <- holding [v] (eval o X.env)
   let iv <- holding [v,ov] (eval i X.env)
   standAt pos
   holding [v,ov,iv] (setItem ov iv v)
   release [v,ov,iv] []):=by intro _;rfl):PG X (.Subscript o i pos) (N_ to ti t):=by
 intro ae s σ H v u Q I r h;rw[ha];refine ai (gI (cC (ho ae s σ H _ I h) fun ov s1 ⟨x,H1,I1,r1,q1⟩=>?_));refine ai (gI (cC (hi ae s1 σ H1 _ I1 q1) fun iv s2 ⟨y,H2,I2,r2,q2⟩=>?_));refine ai (kg (ai (gI (cC (hs ae s2 σ H2 x y v ov iv u _ I2 r1 r2 r q2) fun _ s3 ⟨H3,I3,q3⟩=>?_))));exact wpAny_release ⟨σ,H3,I3,q3⟩
def FM(te:TE)(g:TG):TS:=fun D σ H=>te σ H fun x H1=>g x σ H1 D.nx
theorem jn(he:PE X e te)(hg:PG X tg g)(hs:swapsWithSole [tg] e pos.line X.env=pure false:=by rfl)(hw:swappedStores [tg] e X.env=pure none:=by rfl)(h1:(assignEach [tg] X.env).map (·.2)=[assign tg X.env]:=by rfl):PS X (.Assign [tg] e pos) (FM te g):=by
 intro ae s σ H D I h;refine wpAny_Assign_stores (cC (he ae s σ H _ I h) fun v s1 ⟨x,H1,I1,r1,q1⟩=>?_) hs hw;rw[h1];exact cC (hg ae s1 σ H1 x v _ I1 r1 q1) fun _ s2 q=>q
theorem aP(hN:X.N.Nodup)(hi:X.N[i]?=some x)(hx:Jl X.env.scope x)(he:PE X e te)(hs:swapsWith e (some (.Name x xE)) pos.line X.env=pure false:=by rfl)(hf:X.fn x=true\/X.env.scope.names.lookup x=some .local:=by first|exact .inl rfl|exact .inr rfl|assumption):
  PS X (.Assign [.Name x xE] e pos) (FM te (cD i)):=by
 intro ae s σ H D I h;refine wpAny_Assign_Name (cC (he ae s σ H _ I h) fun v s1 ⟨y,H1,I1,r1,q1⟩=>?_) hs;exact hU I1 hN hi hx r1 (fun s2 I2=>⟨_,H1,I2,q1⟩) hf
def Oa(i j:Nat)(ta:TA):TS:=fun D σ H=>ta σ H fun vs H1=>∃v w,vs=[v,w]/\D.nx ((σ.set i (some v)).set j (some w)) H1
theorem zn{kt k2 Cm}(hc:X.calm=true)(hN:X.N.Nodup)(hi:X.N[i]?=some x)(hj:X.N[j]?=some y)(UI:i≠j)(hx:X.env.scope.names.lookup x=some .local)(hy:X.env.scope.names.lookup y=some .local)(ha:PA X [a,b] ta)(hw:swappedStores [.Tuple [.Name x px,.Name y py] kt pt] (.Tuple [a,b] k2 Cm) X.env=pure (some [x,y]))(hs:swapsWithSole [.Tuple [.Name x px,.Name y py] kt pt] (.Tuple [a,b] k2 Cm) pos.line X.env=pure false:=by rfl):
  PS X (.Assign [.Tuple [.Name x px,.Name y py] kt pt] (.Tuple [a,b] k2 Cm) pos) (Oa i j ta):=by
 intro ae s σ H D I h;rw[exec_Assign_arm];refine ai (kg ?_);rw[hs];refine ai (wpAny_pure ?_);rw[am (by decide)];refine ai (Tuple_ (cC (ha _ ae s σ H _ I h) fun us s1 ⟨vs,H1,I1,r1,q1⟩=>?_));obtain⟨v,w,e1,q1⟩:=q1;subst e1;obtain⟨u1,u2,rfl,rv,Jz⟩:∃u1 u2,us=[u1,u2]/\bh v u1/\bh w u2:=by
  cases r1 with
  |cons p q=>
   cases q with
   |cons p' q'=>
    cases q';exact⟨_,_,rfl,p,p'⟩
 refine jb ?_ (by show 2<=sizeLine;decide);have I2:aD X ae σ H1 { s1 with heap:=s1.heap.push { cls:=.type "tuple",data:=.seq [u1,u2].toArray } }:=I1.kept (t':=s1.toks) fun b o e=>ba _ e;rw[hw];refine ai (wpAny_pure ?_);show wpAny (model X.prog X.w) X.A (do rule "assign.swapped-stores";let items <- unpackItems (.ref s1.heap.objs.size) 2 none;assignInOrder [fun v=>bindName X.env y v,fun v=>bindName X.env x v] items.reverse;pure Flow.next) _ _ _;refine ai (fg (ai (unpackItems_tuple (items:=#[u1,u2]) (I.ok.hd hc) (IsTup.new s1.heap _) fun h' oG=>?_)));have I3:=I2.kept (h':=h') (t':=s1.toks) fun b o e=>oG b o (aL (aU e)) e;show wpAny _ _ (assignInOrder [fun v=>bindName X.env y v,fun v=>bindName X.env x v] [u2,u1] >>= fun _=>pure Flow.next) _ _ _;refine ai (assignInOrder_cons (wpAny_bindName (hU I3 hN hj (.inl hy) Jz (fun s2 I4=>?_) (.inr hy))));refine assignInOrder_cons (wpAny_bindName (hU I4 hN hi (.inl hx) rv (fun s3 I5=>assignInOrder_nil (wpAny_pure ?_)) (.inr hx)));rw[List.set_comm _ _ (cS UI)] at I5;exact⟨_,H1,I5,q1⟩
def Ob(i:Nat)(te:TE)(ti:N9):TS:=fun D σ H=>∃x,σ[i]?=some (some x)/\te σ H fun y H1=>ti x y H1 fun z H2=>D.nx (σ.set i (some z)) H2
theorem kA(hN:X.N.Nodup)(hi:X.N[i]?=some x)(hx:Jl X.env.scope x)(he:PE X e te)(ho:M8 X op ti)(hf:X.fn x=true\/X.env.scope.names.lookup x=some .local:=by first|exact .inl rfl|exact .inr rfl|assumption):
  PS X (.AugAssign (.Name x xE) op e pos) (Ob i te ti):=by
 intro ae s σ H D I h;obtain⟨v,e1,h⟩:=h;obtain⟨m,hn,hl⟩:=I.loc;have Oc:Jk X.env.scope x:=by rcases hx with k|k;exact .inl k;exact .inr (.inl k)
 obtain⟨u,r,l⟩:=hl i x v hi e1 Oc;refine wpAny_AugAssign_Name ?_;have go:wpAny (model X.prog X.w) X.A (eval e X.env) (fun w s₂=>wpAny (model X.prog X.w) X.A (inplaceOp op u w) (fun r s₃=>wpAny (model X.prog X.w) X.A (storeName X.env x r) (fun _=>SP X ae D .next) X.xe s₃) X.xe s₂) X.xe s:=by
  refine cC (he ae s σ H _ I h) fun w s1 ⟨y,H1,I1,r1,q1⟩=>?_;refine cC (ho ae s1 σ H1 v y u w _ I1 r r1 q1) fun z s2 ⟨zv,H2,I2,r2,q2⟩=>?_;exact hU I2 hN hi hx r2 (fun s3 I3=>⟨_,H2,I3,q2⟩) hf
 rcases l with ⟨hk,hm⟩|⟨hk,c,hc,v_⟩
 .exact uz I.ok.kind hk hn hm go
 .rcases hk with hk|hk
  .exact wpAny_loadName_cell I.ok.kind hk hc v_ go
  .rcases hx with k|k
   .have:X.env.scope.names.lookup x=some .free:=hk;rw[k] at this;cases this
   .have:X.env.scope.names.lookup x=some .free:=hk;rw[k] at this;cases this
def UJ(f:Int->Int->Int):N9:=fun x y H Q=>∃i j,x=.int i/\y=.int j/\Q (.int (f i j)) H
theorem zo:M8 X .Add (UJ fun i j=>i+j):=by
 intro ae s σ H x y v u Q I r1 r2 h;obtain⟨i,j,e1,e2,q⟩:=h;subst e1;subst e2;obtain⟨t,rfl⟩:=r1;obtain⟨t',rfl⟩:=r2;exact iadd_int ⟨.int _,H,I.tok _,⟨_,rfl⟩,q⟩
def zq(c:TT)(tb:TS):TS:=fun D σ H=>∃W:Nat->St->Hp->Prop,(∃m,W m σ H)/\∀m σ H,W m σ H->
 c σ H fun b H1=>if b=true then ∃N:St->Hp->Prop,(∀σ' H',N σ' H'->∃m',m'<m/\W m' σ' H')/\tb { D with nx:=N,ct:=N,bk:=D.nx } σ H1 else D.nx σ H1
theorem zu(hp:PassesOwn (model X.prog X.w) X.A X.env X.xe)(hc:PT X c tc)(hb:tU X body tb):PS X (.While c body [] pos) (zq tc tb):=by
 intro ae s σ H D I h;obtain⟨W,⟨m0,w0⟩,zw⟩:=h;refine wpAny_While (codeAny_whileLoop (fun n s'=>∃σ' H',aD X ae σ' H' s'/\W n σ' H') ?_ m0 ⟨σ,H,I,w0⟩);rintro n s1 ⟨σ1,H1,I1,w1⟩;refine jf hp (cC (hc ae s1 σ1 H1 _ I1 (zw n σ1 H1 w1)) fun b s2 ⟨H2,I2,q2⟩=>?_);cases b with
 |true=>
  obtain⟨N,hN,q2⟩:=q2;rw[ap rfl];refine jf hp (cC (hb ae s2 σ1 H2 _ I2 q2) fun f s3 q3=>?_);cases f with
  |next=>
   obtain⟨σ3,H3,I3,n3⟩:=q3;obtain⟨m',hm,w3⟩:=hN σ3 H3 n3;exact⟨m',hm,σ3,H3,I3,w3⟩
  |cont=>
   obtain⟨σ3,H3,I3,n3⟩:=q3;obtain⟨m',hm,w3⟩:=hN σ3 H3 n3;exact⟨m',hm,σ3,H3,I3,w3⟩
  |brk=>exact q3
  |ret v=>exact q3
 |false=>
  rw[am bq];exact qo ⟨σ1,H2,I2,q2⟩
end
structure It where
 go:Nat->Hp->Prop
 Ca:Nat->Hp->V->Hp->Prop
 stop:Nat->Hp->Prop
 M9:Around->Hp->Prop
def fA(X:Cx)(ae:List (Addr×Obj))(H:Hp)(b:Addr):Prop:=
 H b=none/\b≠X.env.locals/\b∉X.fs/\(b∈X.ex\/X.s₀.heap.objs.size<=b)/\(∀x c,X.env.cells.lookup x=some c->c≠b)/\∀p∈X.pn++ae,p.1≠b
theorem aD.uY(I:aD X ae σ H s)(hb:s.heap.objs.size<=b)(hn:H' b=none):fA X ae H' b:=by
 refine⟨hn,gJ (bj I.lt hb),I.NX hb,.inr (bn I.sz hb),fun x c e z=>?_,fun p hp z=>?_⟩
 .obtain⟨v,q⟩:=I.cell x c e;exact absurd (bj q.lt (by rw[z];exact hb)) (eF _)
 .exact absurd (bj (aU (I.pin p hp).1) (by rw[z];exact hb)) (eF _)
structure qB(P:Program)(w:World)(K:PySem.W.Frag)(tg:Expr)(J:It)(fp:List Addr)(it:Addr)(tn:Nat->Heap->Prop):Prop where
 mem:it∈fp
 obj:∀i h,tn i h->∀b∈fp,∃o,h.get? b=some o/\∀v,o.data≠.cell v
 keep:∀i h h',tn i h->(∀b∈fp,∀o,h.get? b=some o->h'.get? b=some o)->tn i h'
 item:∀ (X:Cx),X.prog=P->X.w=w->X.K=K->∀ (i:Nat) (ae:List (Addr×Obj)) (s:Shared) (σ:St) (H:Hp) (E:Value->Shared->Prop),(X.calm=true\/J.M9 X.A H)->aD X ae σ H s->(∀b∈fp,fA X ae H b)->tn i s.heap->J.go i H->
  wpAny (model P w) X.A (pyNext (.ref it)) (fun r s1=>∃u,r=some u/\
   wpAny (model P w) X.A (letOwnedTupleGo tg (.ref it) u) (fun _ s2=>∃x H',aD X ae σ H' s2/\bh x u/\J.Ca i H x H'/\tn (i+1) s2.heap/\∀b∈fp,H' b=none) E s1) E s
 done:∀ (X:Cx),X.prog=P->X.w=w->X.K=K->∀ (i:Nat) (ae:List (Addr×Obj)) (s:Shared) (σ:St) (H:Hp) (E:Value->Shared->Prop),(X.calm=true\/J.M9 X.A H)->aD X ae σ H s->(∀b∈fp,fA X ae H b)->tn i s.heap->J.stop i H->
  wpAny (model P w) X.A (pyNext (.ref it)) (fun r s1=>r=none/\aD X ae σ H s1) E s
 self:∀ (A:Around) (i:Nat) (s:Shared) (Q:Value->Shared->Prop) (E:Value->Shared->Prop),tn i s.heap->Q (.ref it) s->wpAny (model P w) A (pyIter (.ref it)) Q E s
abbrev TI:=St->Hp->(It->Hp->Prop)->Prop
def Sy(X:Cx)(ae:List (Addr×Obj))(σ:St)(tg:Expr)(R:It->Hp->Prop)(M_:Value)(s2:Shared):Prop:=
 ∃ (it:Addr) (fp:List Addr) (tn:Nat->Heap->Prop) (J:It) (H':Hp),M_=.ref it/\aD X ae σ H' s2/\qB X.prog X.w X.K tg J fp it tn/\tn 0 s2.heap/\(∀b∈fp,fA X ae H' b)/\R J H'
def PI(X:Cx)(tg gP:Expr)(wi:TI):Prop:=
 ∀ (ae:List (Addr×Obj)) (s:Shared) (σ:St) (H:Hp) (R:It->Hp->Prop),aD X ae σ H s->wi σ H R->
  wpAny (model X.prog X.w) X.A (eval gP X.env) (fun v s1=>wpAny (model X.prog X.w) X.A (pyIter v) (Sy X ae σ tg R) X.xe s1) X.xe s
theorem wb(ho:s.heap.get? it=some o)(hc:o.cls=.type n)(hd:o.data=.fields vs)(hn:["enumerate","zip","dict_itemiterator","dict_reverseitemiterator","odict_iterator","itertools.zip_longest","itertools.pairwise"].contains n=false)(hQ:Q () s):wpAny M A (letOwnedTupleGo tg (.ref it) u) Q E s:=by
 unfold letOwnedTupleGo;cases tg <;> first
  |exact wpAny_pure hQ
  |(cases u <;> first
    |exact wpAny_pure hQ
    |(refine ai (wpAny_load ho ?_);rw[hc,hd];show wpAny M A (if (["enumerate","zip","dict_itemiterator","dict_reverseitemiterator","odict_iterator","itertools.zip_longest","itertools.pairwise"].contains n&&vs[0]?==some (rawInt _))=true then _ else _) Q E s;rw[am (by intro h;rw[hn,Bool.false_and] at h;cases h)];exact wpAny_pure hQ))
def Cn(K:PySem.W.Frag)(a:Addr):It:=
 ⟨fun i H=>∃xs x,bo K H a xs/\xs[i]?=some x,fun i H x H'=>H'=H/\∀xs,bo K H a xs->xs[i]?=some x,fun i H=>∃xs,bo K H a xs/\xs.length<=i,fun _ _=>False⟩
def IH(K:PySem.W.Frag)(a:Addr):It:=
 ⟨fun i H=>∃xs x,bL K H a xs/\xs[i]?=some x,fun i H x H'=>H'=H/\∀xs,bL K H a xs->xs[i]?=some x,fun i H=>∃xs,bL K H a xs/\xs.length<=i,fun _ _=>False⟩
def FN(lo:Int)(n:Nat):It:=⟨fun i _=>i<n,fun i H x H'=>H'=H/\x=.int (lo+i),fun i _=>n<=i,fun A H=>A.handled=none\/∃p φ,A.handled=some (.ref p)/\H p=some (.ext φ)/\∀h,φ h->v5 p h⟩
theorem xF{P:Program}{w:World}{K:PySem.W.Frag}{tg:Expr}(a it:Addr):qB P w K tg (Cn K a) [it] it (fun i h=>h.IsListIter it a i) where
 mem:=by simp
 obj:=fun i h st b hb=>by
  have e:b=it:=by simpa using hb
  subst e;obtain⟨o,e,c,d⟩:=st;exact⟨o,e,fun v z=>by rw[d] at z;cases z⟩
 keep:=fun i h h' st k=>st.at fun o e=>k it (by simp) o e
 item:=by
  intro X hP hw hK i ae s σ H E rV I hf st hg;subst hP hw hK;have hc:X.calm=true:=rV.elim id fun z=>(show False from z).elim;obtain⟨xs,x,hq,hx⟩:=hg;obtain⟨its,rv,p,hz⟩:=I.list hq;obtain⟨u,hu,ru⟩:=rv.get hx;obtain⟨f0,f1,f2,f3,f4,f5⟩:=hf it (by simp);refine wpAny_pyNext_list_item st p.isList (x:=u) (by simpa using hu) fun h' aQ sb=>?_;have I1:aD X ae σ H { s with heap:=h' }:=I.turned (t':=s.toks) (fun b o hb e=>(sb.2 b hb).trans e) f0 f1 f3 f4 f5;obtain⟨o,e,c,d⟩:=id aQ;exact⟨u,rfl,wb (s:={ s with heap:=h' }) e c d (by decide) ⟨x,H,I1,ru,⟨rfl,fun ys hy=>by rw[I.rT hy hq];exact hx⟩,aQ,fun b hb=>(hf b hb).1⟩⟩
 done:=by
  intro X hP hw hK i ae s σ H E rV I hf st hg;subst hP hw hK;have hc:X.calm=true:=rV.elim id fun z=>(show False from z).elim;obtain⟨xs,hq,hx⟩:=hg;obtain⟨its,rv,p,hz⟩:=I.list hq;obtain⟨f0,f1,f2,f3,f4,f5⟩:=hf it (by simp);have hl:=rv.length;exact wpAny_pyNext_list_end (I.ok.hd hc) st p.isList (by simp;lia) fun h' eb=>⟨rfl,I.turned (t':=s.toks) (fun b o hb e=>eb b o hb e) f0 f1 f3 f4 f5⟩
 self:=fun _ _ _ _ _ st h=>wpAny_pyIter_listiter st h
theorem uZ{P:Program}{w:World}{K:PySem.W.Frag}{tg:Expr}(a it:Addr):qB P w K tg (IH K a) [it] it (fun i h=>h.IsTupleIter it a i) where
 mem:=by simp
 obj:=fun i h st b hb=>by
  have e:b=it:=by simpa using hb
  subst e;obtain⟨o,e,c,d⟩:=st;exact⟨o,e,fun v z=>by rw[d] at z;cases z⟩
 keep:=fun i h h' st k=>st.at fun o e=>k it (by simp) o e
 item:=by
  intro X hP hw hK i ae s σ H E rV I hf st hg;subst hP hw hK;have hc:X.calm=true:=rV.elim id fun z=>(show False from z).elim;obtain⟨xs,x,hq,hx⟩:=hg;obtain⟨its,rv,p,hz⟩:=I.tuple hq;obtain⟨u,hu,ru⟩:=rv.get hx;obtain⟨f0,f1,f2,f3,f4,f5⟩:=hf it (by simp);refine wpAny_pyNext_tuple_item st (show s.heap.IsTuple a its.toArray from p) (x:=u) (by simpa using hu) fun h' aQ sb=>?_;have I1:aD X ae σ H { s with heap:=h' }:=I.turned (t':=s.toks) (fun b o hb e=>(sb.2 b hb).trans e) f0 f1 f3 f4 f5;obtain⟨o,e,c,d⟩:=id aQ;exact⟨u,rfl,wb (s:={ s with heap:=h' }) e c d (by decide) ⟨x,H,I1,ru,⟨rfl,fun ys hy=>by rw[I.o7 hy hq];exact hx⟩,aQ,fun b hb=>(hf b hb).1⟩⟩
 done:=by
  intro X hP hw hK i ae s σ H E rV I hf st hg;subst hP hw hK;have hc:X.calm=true:=rV.elim id fun z=>(show False from z).elim;obtain⟨xs,hq,hx⟩:=hg;obtain⟨its,rv,p,hz⟩:=I.tuple hq;obtain⟨f0,f1,f2,f3,f4,f5⟩:=hf it (by simp);have hl:=rv.length;exact wpAny_pyNext_tuple_end (I.ok.hd hc) st (show s.heap.IsTuple a its.toArray from p) (by simp;lia) fun h' eb=>⟨rfl,I.turned (t':=s.toks) (fun b o hb e=>eb b o hb e) f0 f1 f3 f4 f5⟩
 self:=fun _ _ _ _ _ st h=>wpAny_pyIter_tupleiter st h
theorem u3{P:Program}{w:World}{K:PySem.W.Frag}{tg:Expr}(it:Addr)(lo:Int)(n:Nat):qB P w K tg (FN lo n) [it] it (fun i h=>IsRangeIter h it (lo+(i:Nat)*1) ((n:Int)-(i:Nat)) 1) where
 mem:=by simp
 obj:=fun i h st b hb=>by
  have e:b=it:=by simpa using hb
  subst e;exact⟨_,st,fun v z=>by
   have z':Data.fields _=Data.cell v:=z;cases z'⟩
 keep:=fun i h h' st k=>k it (by simp) _ st
 item:=by
  intro X hP hw hK i ae s σ H E hc I hf st hg;subst hP hw hK;obtain⟨f0,f1,f2,f3,f4,f5⟩:=hf it (by simp);refine wpAny_pyNext_range_item st (by have:i<n:=hg;lia) fun h' aQ sb=>?_;have I1:aD X ae σ H { s with heap:=h',toks:=s.toks+1 }:=I.turned (fun b o hb e=>(sb.2 b hb).trans e) f0 f1 f3 f4 f5;have oH:IsRangeIter h' it (lo+((i+1:Nat):Int)*1) ((n:Int)-((i+1:Nat):Int)) 1:=by
   rw[show lo+((i+1:Nat):Int)*1=lo+(i:Int)*1+1 by lia,show (n:Int)-((i+1:Nat):Int)=(n:Int)-(i:Int)-1 by lia];exact aQ
  exact⟨_,rfl,wb (s:={ s with heap:=h',toks:=s.toks+1 }) (n:="range_iterator") oH rfl rfl (by decide) ⟨.int (lo+i),H,I1,⟨s.toks,by rw[Int.mul_one]⟩,⟨rfl,rfl⟩,oH,fun b hb=>(hf b hb).1⟩⟩
 done:=by
  intro X hP hw hK i ae s σ H E hc I hf st hg;subst hP hw hK;obtain⟨f0,f1,f2,f3,f4,f5⟩:=hf it (by simp);have he:X.A.handled=none\/∃p φ,X.A.handled=some (.ref p)/\H p=some (.ext φ)/\∀h,φ h->v5 p h:=hc.elim (fun z=>.inl (I.ok.hd z)) id;rcases he with hn|⟨p,φ,hp,hH,hφ⟩
  .exact wpAny_pyNext_range_end hn st (by have:n<=i:=hg;lia) fun h' eb=>⟨rfl,I.turned (t':=s.toks) (fun b o hb e=>eb b o hb e) f0 f1 f3 f4 f5⟩
  .exact uX hp (hφ _ (I.bD p _ hH).1) st (by have:n<=i:=hg;lia) fun h' eb=>⟨rfl,I.kept (t':=s.toks) eb⟩
 self:=fun _ _ _ _ _ st h=>wpAny_pyIter_rangeiter st h
section
variable {X:Cx} {tg:Expr}
def JA(K:PySem.W.Frag)(tl:TE):TI:=fun σ H R=>tl σ H fun x H1=>∃a,x=.ref a/\(∃xs,bo K H1 a xs)/\R (Cn K a) H1
def Od(K:PySem.W.Frag)(tl:TE):TI:=fun σ H R=>tl σ H fun x H1=>∃a,x=.ref a/\(∃xs,bL K H1 a xs)/\R (IH K a) H1
theorem dg{l:Expr}{tl:TE}(hl:PE X l tl):PI X tg l (JA X.K tl):=by
 intro ae s σ H R I h;refine cC (hl ae s σ H _ I h) fun v s1 ⟨x,H1,I1,r1,q1⟩=>?_;obtain⟨a,e,⟨xs,hq⟩,q⟩:=q1;subst e;cases r1;obtain⟨its,rv,p,hz⟩:=I1.list hq;refine mw p.isList ?_;refine⟨s1.heap.objs.size,[s1.heap.objs.size],_,_,H1,rfl,I1.kept (t':=s1.toks) fun b o e=>ba _ e,xF a _,⟨_,bv _ rfl,rfl,rfl⟩,fun b hb=>?_,q⟩;have e:b=s1.heap.objs.size:=by simpa using hb
 subst e;exact I1.uY (aI _) (I1.bD.fresh (aI _))
theorem gg{l:Expr}{tl:TE}(hl:PE X l tl):PI X tg l (Od X.K tl):=by
 intro ae s σ H R I h;refine cC (hl ae s σ H _ I h) fun v s1 ⟨x,H1,I1,r1,q1⟩=>?_;obtain⟨a,e,⟨xs,hq⟩,q⟩:=q1;subst e;cases r1;obtain⟨its,rv,p,hz⟩:=I1.tuple hq;refine wpAny_pyIter_tuple (show s1.heap.IsTuple a its.toArray from p) ?_;refine⟨s1.heap.objs.size,[s1.heap.objs.size],_,_,H1,rfl,I1.kept (t':=s1.toks) fun b o e=>ba _ e,uZ a _,⟨_,bv _ rfl,rfl,rfl⟩,fun b hb=>?_,q⟩;have e:b=s1.heap.objs.size:=by simpa using hb
 subst e;exact I1.uY (aI _) (I1.bD.fresh (aI _))
theorem zx{ae:List (Addr×Obj)}{σ:St}{H:Hp}{s:Shared}{R:It->Hp->Prop}{E:Value->Shared->Prop}{lo hi:Int}{t u v:Tok}{tk:Nat}(I:aD X ae σ H s)(h1:-(2 ^ 62)<=lo)(h2:lo<2 ^ 62)(h3:-(2 ^ 62)<=hi)(h4:hi<2 ^ 62)(q:R (FN lo (hi-lo).toNat) H):wpAny (model X.prog X.w) X.A (pyIter (.ref s.heap.objs.size)) (Sy X ae σ tg R) E { s with heap:=s.heap.push { cls:=.type "range",data:=.fields #[.int lo t,.int hi u,.int 1 v] },toks:=tk }:=by
 refine wpAny_pyIter_range (IsRange.new ..) (small_one h1 h2 h3 h4) ?_;have I1:aD X ae σ H { s with heap:=s.heap.push { cls:=.type "range",data:=.fields #[.int lo t,.int hi u,.int 1 v] },toks:=tk }:=I.kept fun b o e=>ba _ e;refine⟨(s.heap.push { cls:=.type "range",data:=.fields #[.int lo t,.int hi u,.int 1 v] }).objs.size,[(s.heap.push { cls:=.type "range",data:=.fields #[.int lo t,.int hi u,.int 1 v] }).objs.size],_,_,H,rfl,
  I1.kept (t':=tk) fun b o e=>ba _ e,u3 _ lo (hi-lo).toNat,?_,fun b hb=>?_,q⟩
 .have e1:lo+((0:Nat):Int)*1=lo:=by simp
  have e2:(((hi-lo).toNat:Nat):Int)-((0:Nat):Int)=Builtin.Range.rangeSize lo hi 1:=by rw[rangeSize_one];split <;> lia
  show IsRangeIter _ _ (lo+((0:Nat):Int)*1) ((((hi-lo).toNat:Nat):Int)-((0:Nat):Int)) 1;rw[e1,e2];exact bv _ rfl
 .have e:b=(s.heap.push { cls:=.type "range",data:=.fields #[.int lo t,.int hi u,.int 1 v] }).objs.size:=by simpa using hb
  subst e;exact I1.uY (aI _) (I1.bD.fresh (aI _))
def JB(ta:TA):TI:=fun σ H R=>ta σ H fun vs H1=>∃j:Int,vs=[.int j]/\-(2 ^ 62)<=j/\j<2 ^ 62/\R (FN 0 j.toNat) H1
theorem cn{a:Expr}{ta:TA}{p pos:Pos}(hg:Gl X "range")(hm:X.mg "range"=none)(ha:PA X [a] ta)(hs:starEach [a] X.env=[(false,eval a X.env)]:=by rfl):PI X tg (.Call (.Name "range" p) [a] [] pos) (JB ta):=by
 intro ae s σ H R I h;refine Call_ (ge I hg hm boot_range (oW (cC (ha pos ae s σ H _ I h) fun us s1 ⟨vs,H1,I1,r1,q1⟩=>?_) hs rfl));obtain⟨j,e,q1,q2,q⟩:=q1;subst e;cases r1 with
 |cons r rr=>
  cases rr;obtain⟨t,rfl⟩:=r;exact call_range_1 (zx I1 (by lia) (by lia) q1 q2 (by simpa using q))
def Oe(wi:TI)(g:TG)(tb:TS):TS:=fun D σ H=>wi σ H fun J H1=>∃W:Nat->Nat->St->Hp->Prop,(∃m,W 0 m σ H1)/\∀i m σ H,W i m σ H->
 (J.stop i H/\D.nx σ H)\/(J.go i H/\∃N:St->Hp->Prop,(∀σ' H',N σ' H'->∃m',m'<m/\W (i+1) m' σ' H')/\∀x H',J.Ca i H x H'->g x σ H' fun σ2 H2=>tb { D with nx:=N,ct:=N,bk:=D.nx } σ2 H2)
def m6(fp:List Addr)(h:Heap):List (Addr×Obj):=fp.filterMap fun b=>(h.get? b).map fun o=>(b,o)
theorem gh(hb:b∈fp)(e:h.get? b=some o):(b,o)∈m6 fp h:=l4.mpr ⟨b,hb,by rw[e];rfl⟩
theorem xG(hp:p∈m6 fp h):p.1∈fp/\h.get? p.1=some p.2:=by
 obtain⟨b,hb,e⟩:=l4.mp hp;cases q:h.get? b with
 |none=>rw[q] at e;cases e
 |some o=>
  rw[q] at e;have e':(b,o)=p:=bG e;subst e';exact⟨hb,q⟩
theorem aD.pinned(I:aD X ae σ H s)(hf:∀b∈fp,fA X ae H b)(ho:∀b∈fp,∃o,s.heap.get? b=some o/\∀v,o.data≠.cell v):aD X (ae++m6 fp s.heap) σ H s:=
 I.v7 fun p hp=>(cY.mp hp).elim (fun z=>I.pin p (iP _ z)) fun z=>by
  obtain⟨hb,e⟩:=xG z;obtain⟨f0,f1,f2,_⟩:=hf p.1 hb;obtain⟨o,e',d⟩:=ho p.1 hb;rw[e] at e';cases e';exact⟨e,f0,f1,f2,d⟩
theorem aD.jN(I:aD X (ae++pl) σ H s):aD X ae σ H s:=I.v7 fun p hp=>I.pin p (iP _ (kU _ hp))
theorem cy(hp:PassesOwn (model X.prog X.w) X.A X.env X.xe)(hc:X.calm=true)(hi:PI X tg gP wi)(hg:PG X tg g)(hb:tU X body tb)(hs:∀x,foldedSetIterable gP X.env x=pure x:=by intro _;rfl):PS X (.For tg gP body [] pos) (Oe wi g tb):=by
 intro ae s σ H D I h;refine wpAny_For (cC (hi ae s σ H _ I h) fun v s1 h1=>cC h1 fun M_ s2 h2=>?_) hs;obtain⟨it,fp,tn,J,H2,e,I2,T,oH,f2,W,⟨m0,w0⟩,zw⟩:=h2;subst e;have u4:∀ {H':Hp},(∀b∈fp,H' b=none)->∀b∈fp,fA X ae H' b:=fun hn b hb=>⟨hn b hb,(f2 b hb).2⟩
 refine codeAny_forLoop_any (fun n s'=>∃i σ' H',aD X ae σ' H' s'/\tn i s'.heap/\(∀b∈fp,H' b=none)/\W i n σ' H') ?_ m0 ⟨0,σ,H2,I2,oH,fun b hb=>(f2 b hb).1,w0⟩;rintro n s3 ⟨i,σ3,H3,I3,u5,FO,w3⟩;rcases zw i n σ3 H3 w3 with ⟨stop,qn⟩|⟨go,N,hN,step⟩
 .refine jf hp (cC (T.done X rfl rfl rfl i ae s3 σ3 H3 X.xe (.inl hc) I3 (u4 FO) u5 stop) fun r s4 ⟨hr,I4⟩=>?_);subst hr;exact qo ⟨σ3,H3,I4,qn⟩
 .refine jf hp (cC (T.item X rfl rfl rfl i ae s3 σ3 H3 X.xe (.inl hc) I3 (u4 FO) u5 go) fun r s4 ⟨u,hr,h4⟩=>?_);subst hr;refine jf hp (cC h4 fun _ s5 ⟨x,H5,I5,r5,y5,rM,Of⟩=>?_);have Og:=I5.pinned (u4 Of) (T.obj _ _ rM);refine jf hp (cC (hg _ s5 σ3 H5 x u _ Og r5 (step x H5 y5)) fun _ s6 ⟨σ6,H6,I6,q6⟩=>?_);refine jf hp (cC (hb _ s6 σ6 H6 _ I6 q6) fun f s7 q7=>?_);have again:∀ {σ7:St} {H7:Hp},aD X (ae++m6 fp s5.heap) σ7 H7 s7->N σ7 H7->∃m,m<n/\∃i σ' H',aD X ae σ' H' s7/\tn i s7.heap/\(∀b∈fp,H' b=none)/\W i m σ' H':=fun {σ7 H7} I7 n7=>by
   obtain⟨m',hm,w7⟩:=hN σ7 H7 n7;refine⟨m',hm,i+1,σ7,H7,I7.jN,T.keep _ _ _ rM fun b hb o e=>(I7.pin (b,o) (iP _ (iP _ (gh hb e)))).1,fun b hb=>?_,w7⟩;obtain⟨o,e,d⟩:=T.obj _ _ rM b hb;exact(I7.pin (b,o) (iP _ (iP _ (gh hb e)))).2.1
  cases f with
  |next=>obtain⟨σ7,H7,I7,n7⟩:=q7;exact again I7 n7
  |cont=>obtain⟨σ7,H7,I7,n7⟩:=q7;exact again I7 n7
  |brk=>obtain⟨σ7,H7,I7,q7⟩:=q7;exact⟨σ7,H7,I7.jN,q7⟩
  |ret v=>obtain⟨x7,σ7,H7,I7,r7,q7⟩:=q7;exact⟨x7,σ7,H7,I7.jN,r7,q7⟩
end
theorem m9{K:PySem.W.Frag}{a:Addr}{xs:List V}{g:TG}{tb:TS}{D:oC}{σ:St}{H:Hp}(Pv:Nat->St->Hp->Prop)(h0:Pv 0 σ H)(hl:∀i σ H,i<=xs.length->Pv i σ H->bo K H a xs)(hs:∀i x σ H,xs[i]?=some x->Pv i σ H->g x σ H fun σ2 H2=>tb { D with nx:=Pv (i+1),ct:=Pv (i+1),bk:=D.nx } σ2 H2)(hd:∀σ H,Pv xs.length σ H->D.nx σ H):
  ∃W:Nat->Nat->St->Hp->Prop,(∃m,W 0 m σ H)/\∀i m σ H,W i m σ H->
   ((Cn K a).stop i H/\D.nx σ H)\/((Cn K a).go i H/\∃N:St->Hp->Prop,(∀σ' H',N σ' H'->∃m',m'<m/\W (i+1) m' σ' H')/\∀x H',(Cn K a).Ca i H x H'->g x σ H' fun σ2 H2=>tb { D with nx:=N,ct:=N,bk:=D.nx } σ2 H2):=by
 refine⟨fun i m σ H=>m=xs.length-i/\i<=xs.length/\Pv i σ H,⟨xs.length,by simp,cK _,h0⟩,?_⟩;rintro i m σ H ⟨rfl,hi,p⟩;have q:=hl i σ H hi p;by_cases dv:i<xs.length
 .refine .inr ⟨⟨xs,xs[i],q,by simp[dv]⟩,Pv (i+1),fun σ' H' p'=>⟨xs.length-(i+1),by lia,rfl,dv,p'⟩,fun x H' y=>?_⟩;obtain⟨e,y⟩:=y;subst e;exact hs i x σ _ (y xs q) p
 .have e:i=xs.length:=by lia
  subst e;exact .inl ⟨⟨xs,q,aI _⟩,hd σ H p⟩
theorem gj{K:PySem.W.Frag}{a:Addr}{xs:List V}{g:TG}{tb:TS}{D:oC}{σ:St}{H:Hp}(Pv:Nat->St->Hp->Prop)(h0:Pv 0 σ H)(hl:∀i σ H,i<=xs.length->Pv i σ H->bL K H a xs)(hs:∀i x σ H,xs[i]?=some x->Pv i σ H->g x σ H fun σ2 H2=>tb { D with nx:=Pv (i+1),ct:=Pv (i+1),bk:=D.nx } σ2 H2)(hd:∀σ H,Pv xs.length σ H->D.nx σ H):
  ∃W:Nat->Nat->St->Hp->Prop,(∃m,W 0 m σ H)/\∀i m σ H,W i m σ H->
   ((IH K a).stop i H/\D.nx σ H)\/((IH K a).go i H/\∃N:St->Hp->Prop,(∀σ' H',N σ' H'->∃m',m'<m/\W (i+1) m' σ' H')/\∀x H',(IH K a).Ca i H x H'->g x σ H' fun σ2 H2=>tb { D with nx:=N,ct:=N,bk:=D.nx } σ2 H2):=by
 refine⟨fun i m σ H=>m=xs.length-i/\i<=xs.length/\Pv i σ H,⟨xs.length,by simp,cK _,h0⟩,?_⟩;rintro i m σ H ⟨rfl,hi,p⟩;have q:=hl i σ H hi p;by_cases dv:i<xs.length
 .refine .inr ⟨⟨xs,xs[i],q,by simp[dv]⟩,Pv (i+1),fun σ' H' p'=>⟨xs.length-(i+1),by lia,rfl,dv,p'⟩,fun x H' y=>?_⟩;obtain⟨e,y⟩:=y;subst e;exact hs i x σ _ (y xs q) p
 .have e:i=xs.length:=by lia
  subst e;exact .inl ⟨⟨xs,q,aI _⟩,hd σ H p⟩
theorem eL{lo:Int}{n:Nat}{g:TG}{tb:TS}{D:oC}{σ:St}{H:Hp}(Pv:Nat->St->Hp->Prop)(h0:Pv 0 σ H)(hs:∀i σ H,i<n->Pv i σ H->g (.int (lo+i)) σ H fun σ2 H2=>tb { D with nx:=Pv (i+1),ct:=Pv (i+1),bk:=D.nx } σ2 H2)(hd:∀σ H,Pv n σ H->D.nx σ H):
  ∃W:Nat->Nat->St->Hp->Prop,(∃m,W 0 m σ H)/\∀i m σ H,W i m σ H->
   ((FN lo n).stop i H/\D.nx σ H)\/((FN lo n).go i H/\∃N:St->Hp->Prop,(∀σ' H',N σ' H'->∃m',m'<m/\W (i+1) m' σ' H')/\∀x H',(FN lo n).Ca i H x H'->g x σ H' fun σ2 H2=>tb { D with nx:=N,ct:=N,bk:=D.nx } σ2 H2):=by
 refine⟨fun i m σ H=>m=n-i/\i<=n/\Pv i σ H,⟨n,by simp,cK _,h0⟩,?_⟩;rintro i m σ H ⟨rfl,hi,p⟩;by_cases dv:i<n
 .refine .inr ⟨dv,Pv (i+1),fun σ' H' p'=>⟨n-(i+1),by lia,rfl,dv,p'⟩,fun x H' y=>?_⟩;obtain⟨e,y⟩:=y;subst e y;exact hs i σ _ dv p
 .have e:i=n:=by lia
  subst e;exact .inl ⟨aI _,hd σ H p⟩
theorem zy(Pv:St->Hp->Prop)(μ:St->Hp->Nat)(h0:Pv σ H)(hs:∀σ H,Pv σ H->c σ H fun b H1=>if b=true then tb { D with nx:=fun σ' H'=>Pv σ' H'/\μ σ' H'<μ σ H,ct:=fun σ' H'=>Pv σ' H'/\μ σ' H'<μ σ H,bk:=D.nx } σ H1 else D.nx σ H1)(mono:∀σ H Q Q',(∀b H1,Q b H1->Q' b H1)->c σ H Q->c σ H Q'):zq c tb D σ H:=by
 refine⟨fun m σ H=>m=μ σ H/\Pv σ H,⟨_,rfl,h0⟩,?_⟩;rintro m σ H ⟨rfl,p⟩;refine mono σ H _ _ (fun b H1 q=>?_) (hs σ H p);cases b with
 |true=>exact⟨_,fun σ' H' ⟨p',l⟩=>⟨_,l,rfl,p'⟩,q⟩
 |false=>exact q
abbrev R2:=V->V->Hp->VK->Prop
def jO(X:Cx)(f:Value->Value->Sem Value)(r:R2):Prop:=
 ∀ (ae:List (Addr×Obj)) (s:Shared) (σ:St) (H:Hp) (x y:V) (v u:Value) (Q:VK),aD X ae σ H s->bh x v->bh y u->r x y H Q->
  wpAny (model X.prog X.w) X.A (f v u) (EP X ae σ Q) X.xe s
def Oh(X:Cx)(f:Value->Sem Value)(r:V->Hp->VK->Prop):Prop:=
 ∀ (ae:List (Addr×Obj)) (s:Shared) (σ:St) (H:Hp) (x:V) (v:Value) (Q:VK),aD X ae σ H s->bh x v->r x H Q->
  wpAny (model X.prog X.w) X.A (f v) (EP X ae σ Q) X.xe s
def dZ(X:Cx)(f:Value)(r:List V->Hp->VK->Prop):Prop:=
 ∀ (ae:List (Addr×Obj)) (s:Shared) (σ:St) (H:Hp) (xs:List V) (us:List Value) (Q:VK),aD X ae σ H s->aS xs us->r xs H Q->
  wpAny (model X.prog X.w) X.A (call f us) (EP X ae σ Q) X.xe s
def EF(r:R2)(ta tb:TE):TE:=fun σ H Q=>ta σ H fun x H1=>tb σ H1 fun y H2=>r x y H2 Q
def UK(r:V->Hp->VK->Prop)(ta:TE):TE:=fun σ H Q=>ta σ H fun x H1=>r x H1 Q
def rI(C:Int->Int->Prop)(g:Int->Int->V):R2:=fun x y H Q=>∃i j,x=.int i/\y=.int j/\C i j/\Q (g i j) H
def EG(g:Int->Int->V):R2:=fun x y H Q=>∃i j,x=.int i/\y=.int j/\Q (g i j) H
def rU(g:Int->V):V->Hp->VK->Prop:=fun x H Q=>∃i,x=.int i/\Q (g i) H
section
variable {X:Cx} {a b c:Expr} {ta tb tc:TE} {pos:Pos}
theorem FP(ha:PE X a ta)(hb:PE X b tb){ae:List (Addr×Obj)}{s:Shared}{σ:St}{H:Hp}{R:V->V->Hp->Prop}(I:aD X ae σ H s)(h:ta σ H fun x H1=>tb σ H1 fun y H2=>R x y H2){Q:Value->Shared->Prop}{f:Value->Value->Sem Value}(hf:∀v u s2 x y H2,aD X ae σ H2 s2->bh x v->bh y u->R x y H2->wpAny (model X.prog X.w) X.A (f v u) Q X.xe s2):
  wpAny (model X.prog X.w) X.A (eval a X.env) (fun v s₁=>wpAny (model X.prog X.w) X.A (eval b X.env) (fun u s₂=>wpAny (model X.prog X.w) X.A (f v u) Q X.xe s₂) X.xe s₁) X.xe s:=by
 refine cC (ha ae s σ H _ I h) fun v s1 ⟨x,H1,I1,r1,q1⟩=>?_;refine cC (hb ae s1 σ H1 _ I1 q1) fun u s2 ⟨y,H2,I2,r2,q2⟩=>?_;exact hf v u s2 x y H2 I2 r1 r2 q2
theorem bb{op:Operator}{r:R2}(ho:jO X (binaryOp op) r)(ha:PE X a ta)(hb:PE X b tb):PE X (.BinOp a op b pos) (EF r ta tb):=by
 intro ae s σ H Q I h;exact wpAny_BinOp (FP ha hb I h fun v u s2 x y H2 I2 rx ry q=>ho ae s2 σ H2 x y v u Q I2 rx ry q)
theorem zz(ho:Oh X (unaryOp op) r)(ha:PE X a ta):PE X (.UnaryOp op a pos) (UK r ta):=by
 intro ae s σ H Q I h;exact UnaryOp_ (cC (ha ae s σ H _ I h) fun v s1 ⟨x,H1,I1,r1,q1⟩=>ho ae s1 σ H1 x v Q I1 r1 q1)
theorem JC{f:Value->Value->Sem Value}{C:Int->Int->Prop}{g:Int->Int->Int}(rule:∀ (i j:Int) (t u:Tok) (s:Shared) (Q:Value->Shared->Prop) (E:Value->Shared->Prop),C i j->Q (.int (g i j) s.toks) { s with toks:=s.toks+1 }->wpAny (model X.prog X.w) X.A (f (.int i t) (.int j u)) Q E s):
  jO X f (rI C fun i j=>.int (g i j)):=by
 intro ae s σ H x y v u Q I rx ry h;obtain⟨i,j,rfl,rfl,hc,q⟩:=h;obtain⟨t,rfl⟩:=rx;obtain⟨t',rfl⟩:=ry;exact rule i j t t' s _ _ hc ⟨.int (g i j),H,I.tok _,⟨_,rfl⟩,q⟩
theorem JD{f:Value->Value->Sem Value}{g:Int->Int->Int}(rule:∀ (i j:Int) (t u:Tok) (s:Shared) (Q:Value->Shared->Prop) (E:Value->Shared->Prop),Q (.int (g i j) s.toks) { s with toks:=s.toks+1 }->wpAny (model X.prog X.w) X.A (f (.int i t) (.int j u)) Q E s):
  jO X f (EG fun i j=>.int (g i j)):=by
 intro ae s σ H x y v u Q I rx ry h;obtain⟨i,j,rfl,rfl,q⟩:=h;obtain⟨t,rfl⟩:=rx;obtain⟨t',rfl⟩:=ry;exact rule i j t t' s _ _ ⟨.int (g i j),H,I.tok _,⟨_,rfl⟩,q⟩
theorem FQ{f:Value->Value->Sem Value}{g:Int->Int->Bool}(rule:∀ (i j:Int) (t u:Tok) (s:Shared) (Q:Value->Shared->Prop) (E:Value->Shared->Prop),Q (.bool (g i j)) s->wpAny (model X.prog X.w) X.A (f (.int i t) (.int j u)) Q E s):
  jO X f (EG fun i j=>.bl (g i j)):=by
 intro ae s σ H x y v u Q I rx ry h;obtain⟨i,j,rfl,rfl,q⟩:=h;obtain⟨t,rfl⟩:=rx;obtain⟨t',rfl⟩:=ry;exact rule i j t t' s _ _ ⟨.bl (g i j),H,I,rfl,q⟩
def FR(i j:Int):Prop:=0<j/\j<1073741824
def Oi(i j:Int):Prop:=0<=j/\j<=1000000/\i.natAbs<2 ^ 64
def Co(i j:Int):Prop:=(-(2 ^ 64)<i/\i<2 ^ 64)\/(-(2 ^ 64)<j/\j<2 ^ 64)
theorem Co.ok(h:Co i j):IntMulOk i j:=by
 rcases h with ⟨h1,h2⟩|⟨h1,h2⟩
 .exact .of_left (intBits_le_64 h1 h2)
 .exact .of_right (intBits_le_64 h1 h2)
theorem eT:jO X (binaryOp .Add) (EG fun i j=>.int (i+j)):=JD fun _ _ _ _ _ _ _ q=>add_int q
theorem gk:jO X (binaryOp .Sub) (EG fun i j=>.int (i-j)):=JD fun _ _ _ _ _ _ _ q=>sub_int q
theorem hX:jO X (binaryOp .Mult) (rI Co fun i j=>.int (i*j)):=JC fun _ _ _ _ _ _ _ hc q=>mul_int q hc.ok
theorem lL:jO X (binaryOp .FloorDiv) (rI FR fun i j=>.int (i / j)):=JC fun i j _ _ _ _ _ hc q=>by
 have h1:(0:Int)<j:=hc.1;have h2:j<1073741824:=hc.2;exact floordiv_int (by lia) (by rw[tZ i (by lia)];exact q) (.inl (uc (by lia)))
theorem gl:jO X (binaryOp .Mod) (rI (fun _ j=>0<j) fun i j=>.int (i % j)):=JC fun i j _ _ _ _ _ hc q=>by
 have h1:(0:Int)<j:=hc;exact mod_int' (by lia) (by rw[tY i (by lia)];exact q)
theorem FS:jO X (binaryOp .Pow) (rI Oi fun i j=>.int (i ^ j.toNat)):=JC fun _ _ _ _ _ _ _ hc q=>pow_int_small hc.1 hc.2.1 hc.2.2 q
theorem zA:jO X (inplaceOp .FloorDiv) (rI FR fun i j=>.int (i / j)):=JC fun i j _ _ _ _ _ hc q=>by
 have h1:(0:Int)<j:=hc.1;have h2:j<1073741824:=hc.2;exact ifloordiv_int (by lia) (by rw[tZ i (by lia)];exact q) (.inl (uc (by lia)))
theorem UL{f:Value->Sem Value}{g:Int->Int}(rule:∀ (i:Int) (t:Tok) (s:Shared) (Q:Value->Shared->Prop) (E:Value->Shared->Prop),Q (.int (g i) s.toks) { s with toks:=s.toks+1 }->wpAny (model X.prog X.w) X.A (f (.int i t)) Q E s):
  Oh X f (rU fun i=>.int (g i)):=by
 intro ae s σ H x v Q I rx h;obtain⟨i,rfl,q⟩:=h;obtain⟨t,rfl⟩:=rx;exact rule i t s _ _ ⟨.int (g i),H,I.tok _,⟨_,rfl⟩,q⟩
theorem u6:Oh X (unaryOp .USub) (rU fun i=>.int (-i)):=UL fun _ _ _ _ _ q=>neg_int q
end
def JE:V->V->Bool
 |.bV,.bV=>true|.bV,.int _=>true|.int _,.bV=>true|.bV,.bl _=>true|.bl _,.bV=>true|.bV,.str _=>true|.str _,.bV=>true
 |.int _,.int _=>true|.bl _,.bl _=>true|.str _,.str _=>true|.yU _,.yU _=>true
 |.int _,.str _=>true|.str _,.int _=>true|.bl _,.str _=>true|.str _,.bl _=>true
 |_,_=>false
def Sz:R2:=fun x y H Q=>JE x y=true/\Q (.bl (decide (x=y))) H
def UM:R2:=fun x y H Q=>JE x y=true/\Q (.bl (!decide (x=y))) H
theorem wc:decide (V.int i=V.int j)=(i==j):=by
 rw[je];simp
theorem zB:decide (V.bl i=V.bl j)=(i==j):=by
 rw[je];simp
theorem wd:decide (V.str i=V.str j)=(i==j):=by
 rw[je];simp
theorem we:decide (V.yU i=V.yU j)=(i.toList==j.toList):=by
 rw[je];cases i;cases j;simp
section
variable {X:Cx} {a b c:Expr} {ta tb tc:TE} {pos:Pos}
theorem bf(I:aD X ae σ H s)(q:Q (.bl k) H)(e:k=k'):EP X ae σ Q (.bool k') s:=by
 subst e;exact⟨.bl k,H,I,rfl,q⟩
theorem o8:jO X (compareOp .Eq) Sz:=by
 intro ae s σ H x y v u Q I rx ry h;obtain⟨hs,q⟩:=h;cases x with
 |bV=>
  cases rx;cases y with
  |bV=>cases ry;exact PySem.EqNone.eq_none_none (bf I q (by simp))
  |bl j=>cases ry;exact PySem.EqNone.eq_none_bool (bf I q (by simp))
  |int j=>obtain⟨t',rfl⟩:=ry;exact PySem.EqNone.eq_none_int (bf I q (by simp))
  |str j=>obtain⟨t',rfl⟩:=ry;exact PySem.EqNone.eq_none_str (bf I q (by simp))
  |_=>exact absurd (show false=true from hs) bq
 |bl i=>
  cases rx;cases y with
  |bV=>cases ry;exact PySem.EqNone.eq_bool_none (bf I q (by simp))
  |bl j=>cases ry;exact eq_bool (bf I q zB)
  |str j=>obtain⟨t',rfl⟩:=ry;exact PySem.EqMixed.eq_bool_str (bf I q (by simp))
  |_=>exact absurd (show false=true from hs) bq
 |int i=>
  obtain⟨t,rfl⟩:=rx;cases y with
  |bV=>cases ry;exact PySem.EqNone.eq_int_none (bf I q (by simp))
  |int j=>obtain⟨t',rfl⟩:=ry;exact eq_int (bf I q wc)
  |str j=>obtain⟨t',rfl⟩:=ry;exact PySem.EqMixed.eq_int_str (bf I q (by simp))
  |_=>exact absurd (show false=true from hs) bq
 |str i=>
  obtain⟨t,rfl⟩:=rx;cases y with
  |bV=>cases ry;exact PySem.EqNone.eq_str_none (bf I q (by simp))
  |bl j=>cases ry;exact PySem.EqMixed.eq_str_bool (bf I q (by simp))
  |int j=>obtain⟨t',rfl⟩:=ry;exact PySem.EqMixed.eq_str_int (bf I q (by simp))
  |str j=>obtain⟨t',rfl⟩:=ry;exact eq_str (bf I q wd)
  |_=>exact absurd (show false=true from hs) bq
 |yU i=>
  obtain⟨t,rfl⟩:=rx;cases y with
  |yU j=>obtain⟨t',rfl⟩:=ry;exact PySem.W.eq_bytes (bf I q we)
  |_=>exact absurd (show false=true from hs) bq
 |_=>cases y <;> exact absurd (show false=true from hs) bq
theorem k7:jO X (compareOp .NotEq) UM:=by
 intro ae s σ H x y v u Q I rx ry h;obtain⟨hs,q⟩:=h;cases x with
 |bV=>
  cases rx;cases y with
  |bV=>cases ry;exact PySem.EqNone.ne_none_none (bf I q (by simp))
  |bl j=>cases ry;exact PySem.EqNone.ne_none_bool (bf I q (by simp))
  |int j=>obtain⟨t',rfl⟩:=ry;exact PySem.EqNone.ne_none_int (bf I q (by simp))
  |str j=>obtain⟨t',rfl⟩:=ry;exact PySem.EqNone.ne_none_str (bf I q (by simp))
  |_=>exact absurd (show false=true from hs) bq
 |bl i=>
  cases rx;cases y with
  |bV=>cases ry;exact PySem.EqNone.ne_bool_none (bf I q (by simp))
  |bl j=>cases ry;exact ne_bool (bf I q (congrArg not zB))
  |str j=>obtain⟨t',rfl⟩:=ry;exact PySem.EqMixed.ne_bool_str (bf I q (by simp))
  |_=>exact absurd (show false=true from hs) bq
 |int i=>
  obtain⟨t,rfl⟩:=rx;cases y with
  |bV=>cases ry;exact PySem.EqNone.ne_int_none (bf I q (by simp))
  |int j=>obtain⟨t',rfl⟩:=ry;exact ne_int (bf I q (congrArg not wc))
  |str j=>obtain⟨t',rfl⟩:=ry;exact PySem.EqMixed.ne_int_str (bf I q (by simp))
  |_=>exact absurd (show false=true from hs) bq
 |str i=>
  obtain⟨t,rfl⟩:=rx;cases y with
  |bV=>cases ry;exact PySem.EqNone.ne_str_none (bf I q (by simp))
  |bl j=>cases ry;exact PySem.EqMixed.ne_str_bool (bf I q (by simp))
  |int j=>obtain⟨t',rfl⟩:=ry;exact PySem.EqMixed.ne_str_int (bf I q (by simp))
  |str j=>obtain⟨t',rfl⟩:=ry;exact ne_str (bf I q (congrArg not wd))
  |_=>exact absurd (show false=true from hs) bq
 |yU i=>
  obtain⟨t,rfl⟩:=rx;cases y with
  |yU j=>obtain⟨t',rfl⟩:=ry;exact PySem.W.ne_bytes (bf I q (congrArg not we))
  |_=>exact absurd (show false=true from hs) bq
 |_=>cases y <;> exact absurd (show false=true from hs) bq
theorem zD:jO X (compareOp .Lt) (EG fun i j=>.bl (decide (i<j))):=FQ fun _ _ _ _ _ _ _ q=>lt_int q
theorem EH:jO X (compareOp .LtE) (EG fun i j=>.bl (decide (i<=j))):=FQ fun _ _ _ _ _ _ _ q=>le_int q
theorem wf:jO X (compareOp .Gt) (EG fun i j=>.bl (decide (j<i))):=FQ fun _ _ _ _ _ _ _ q=>gt_int q
theorem u7:jO X (compareOp .Is) (fun x y H Q=>y=.bV/\Q (.bl (decide (x=.bV))) H):=by
 intro ae s σ H x y v u Q I rx ry h;obtain⟨rfl,q⟩:=h;cases ry;refine is_none_gen (bf I q ?_);cases x <;> first
  |(cases rx;rfl)
  |(obtain⟨t,rfl⟩:=rx;rfl)
theorem be(b:Expr)(h:op≠.In:=by decide)(h2:op≠.NotIn:=by decide):behindInMarks op b=false:=by
 have e1:(op==CmpOp.In)=false:=by cases op <;> first|rfl|exact absurd rfl h
 have e2:(op==CmpOp.NotIn)=false:=by cases op <;> first|rfl|exact absurd rfl h2
 cases b <;> simp[behindInMarks,e1,e2]
theorem gm(ho:jO X (compareOp op) r)(ha:PE X a ta)(hb:PE X b tb)(hm:behindInMarks op b=false):PE X (.Compare a [op] [b] pos) (EF r ta tb):=by
 intro ae s σ H Q I h;exact wpAny_Compare1 (FP ha hb I h fun v u s2 x y H2 I2 rx ry q=>ho ae s2 σ H2 x y v u Q I2 rx ry q) hm
def zE(t:TE):TT:=fun σ H Q=>t σ H fun x H'=>∃k,x=.bl k/\Q k H'
theorem aT(ho:jO X (compareOp op) r)(ha:PE X a ta)(hb:PE X b tb)(hm:behindInMarks op b=false):PT X (.Compare a [op] [b] pos) (zE (EF r ta tb)):=by
 intro ae s σ H Q I h;refine wpAny_isTrue_Compare1 (cC (ha ae s σ H _ I h) fun v s1 ⟨x,H1,I1,r1,q1⟩=>cC (hb ae s1 σ H1 _ I1 q1) fun u s2 ⟨y,H2,I2,r2,q2⟩=>
  cC (ho ae s2 σ H2 x y v u _ I2 r1 r2 q2) fun c s3 ⟨z,H3,I3,r3,k,e,q3⟩=>?_) hm
 subst e;cases r3;exact mv ⟨H3,I3,q3⟩
def FT(r r':R2)(ta tb tc:TE):TE:=fun σ H Q=>ta σ H fun x H1=>tb σ H1 fun y H2=>r x y H2 fun z H3=>∃k,z=.bl k/\
 (if k=true then tc σ H3 fun w' H4=>r' y w' H4 Q else Q (.bl false) H3)
theorem zF(ho:jO X (compareOp op) r)(xB:jO X (compareOp SA) r')(ha:PE X a ta)(hb:PE X b tb)(hc:PE X c tc)(hm:lastMarks [op,SA] [b,c]=false:=by with_unfolding_all rfl):PE X (.Compare a [op,SA] [b,c] pos) (FT r r' ta tb tc):=by
 intro ae s σ H Q I h;refine Compare_chain (cC (ha ae s σ H _ I h) fun v s1 ⟨x,H1,I1,r1,q1⟩=>chain_link (cC (hb ae s1 σ H1 _ I1 q1) fun u s2 ⟨y,H2,I2,r2,q2⟩=>
  cC (ho ae s2 σ H2 x y v u _ I2 r1 r2 q2) fun d s3 ⟨z,H3,I3,r3,k,e,q3⟩=>?_)) hm
 subst e;cases r3;refine mv ?_;cases k with
 |false=>exact ite_ff ⟨.bl false,H3,I3,rfl,q3⟩
 |true=>exact ite_tt (chain_last (cC (hc ae s3 σ H3 _ I3 q3) fun w' s4 ⟨z',H4,I4,r4,q4⟩=>xB ae s4 σ H4 y z' u w' Q I4 r2 r4 q4))
theorem qC:(sizeLine:Nat)<2 ^ 63:=by rw[g9];decide
theorem wg(r:aS [x] us):∃u,us=[u]/\bh x u:=by
 cases r with
 |cons r1 r2=>cases r2;exact⟨_,rfl,r1⟩
theorem zG(r:aS [x,y] us):∃u w',us=[u,w']/\bh x u/\bh y w':=by
 cases r with
 |cons r1 r2=>
  cases r2 with
  |cons r3 r4=>cases r4;exact⟨_,_,rfl,r1,r3⟩
theorem rW:dZ X (.builtin "abs") (fun xs H Q=>∃i,xs=[.int i]/\Q (.int (if i<0 then -i else i)) H):=by
 intro ae s σ H xs us Q I r h;obtain⟨i,rfl,q⟩:=h;obtain⟨u,rfl,t,rfl⟩:=wg r;exact call_abs_int fun u tk=>⟨.int (if i<0 then -i else i),H,I.tok _,⟨_,rfl⟩,q⟩
theorem o9(hc:X.calm=true):dZ X (.builtin "max") (fun xs H Q=>∃i j,xs=[.int i,.int j]/\Q (.int (if j > i then j else i)) H):=by
 intro ae s σ H xs us Q I r h;obtain⟨i,j,rfl,q⟩:=h;obtain⟨u,w',rfl,⟨t,rfl⟩,⟨t',rfl⟩⟩:=zG r;refine max_two_ints (I.ok.hd hc) fun h' tk k=>⟨_,H,I.kept k,?_,q⟩
 by_cases hj:j > i
 .rw[ap hj,ap hj];exact⟨_,rfl⟩
 .rw[am hj,am hj];exact⟨_,rfl⟩
theorem o_(hc:X.calm=true):dZ X (.builtin "min") (fun xs H Q=>∃i j,xs=[.int i,.int j]/\Q (.int (if j<i then j else i)) H):=by
 intro ae s σ H xs us Q I r h;obtain⟨i,j,rfl,q⟩:=h;obtain⟨u,w',rfl,⟨t,rfl⟩,⟨t',rfl⟩⟩:=zG r;refine min_two_ints (I.ok.hd hc) fun h' tk k=>⟨_,H,I.kept k,?_,q⟩
 by_cases hj:j<i
 .rw[ap hj,ap hj];exact⟨_,rfl⟩
 .rw[am hj,am hj];exact⟨_,rfl⟩
end
structure u8(h:Heap)(x dx C:Addr)(mA:Str->Option Value):Prop where
 obj:h.get? x=some (PySem.W.instObj C dx)
 ns:h.Ns1 dx mA
 ne:dx≠x
theorem xH{h:Heap}{dx:Addr}{mA:Str->Option Value}(n:h.Ns1 dx mA):∃od,h.get? dx=some od/\∀name,PySem.W.lookIn name od=some (mA name):=by
 obtain⟨o,es,ep,ho,hd,hk,_,hm⟩:=n;refine⟨o,ho,fun name=>?_⟩;have e:=hm name;unfold nsFind findBy at e;rw[<-Array.find?_toList] at e;unfold PySem.W.lookIn;rw[hd];dsimp only;split
 .rename_i y q;rw[q] at e;exact congrArg some e
 .rename_i q;rw[q] at e;have a:es.toList.any (·.refKey)=false:=by
   rw[uD];intro y hy;obtain⟨z,t,oI⟩:=hk y (Array.mem_toList_iff.mp hy);simp[DictEntry.refKey,oI]
  have a':¬ es.toList.any (·.refKey)=true:=by rw[a];exact bq
  rw[am a'];exact congrArg some e
theorem u8.look(I:u8 h x dx C mA):∃od,PySem.W.InstAt h x (PySem.W.instObj C dx) C (some od)/\∀name,PySem.W.lookIn name od=some (mA name):=
 let ⟨od,ho,hl⟩:=xH I.ns
 ⟨od,⟨I.obj,rfl,rfl,ho⟩,hl⟩
section
variable {prog:Program} {w:World} {A:Around} {E:Value->Shared->Prop} {s:Shared} {K:PySem.W.Frag} {x dx C f:Addr} {mA:Str->Option Value} {name:Str} {v:Value}
theorem Cp(X:K.In s.heap)(I:u8 s.heap x dx C mA)(hg:PySem.W.plainGet K C name=true)(hh:PySem.W.hasDictIn K C=true)(ha:PySem.W.findIn K (.ref C) name=some none)(hv:mA name=some v)(xI:PySem.W.handedIn v=true)(h:Q v { s with toks:=s.toks+1 }):
  wpAny (model prog w) A (getAttr (.ref x) name Cq) Q E s:=by
 obtain⟨od,J,hl⟩:=I.look;exact PySem.W.get_value X J (um hg).1 (PySem.W.findObj_own hh ha rfl (by rw[hl,hv])) xI h
theorem zH(X:K.In s.heap)(I:u8 s.heap x dx C mA)(hg:PySem.W.plainGet K C name=true)(hf:PySem.W.findIn K (.ref C) name=some (some (.ref f)))(ht:PySem.W.isFn K (.ref f)=true)(hv:mA name=none)(h:Q (.ref f,[.ref x]) s):
  wpAny (model prog w) A (getMethod (.ref x) name pl) Q E s:=by
 obtain⟨od,J,hl⟩:=I.look;exact PySem.W.method_fn X J (um hg).1 (um hg).2 hf (eG.mp ht) (by show (PySem.W.lookIn name od).map (·.isSome)=some false;rw[hl,hv];rfl) h
theorem Cr(X:K.In s.heap)(I:u8 s.heap x dx C mA)(hs:PySem.W.findIn K (.ref C) "__setattr__"=some (some (.builtin "object.__setattr__")))(hp:PySem.W.plainOver K C=true)(ht:PySem.W.takerIn K C name=some none)(hh:PySem.W.hasDictIn K C=true)(hw:PySem.Within mA ns)(iW:ns.length<=sizeLine)(h:∀h',u8 h' x dx C (fun y=>if y=name then some v else mA y)->Heap.SameBut dx s.heap h'->Q () { s with heap:=h',toks:=s.toks+2 }):
  wpAny (model prog w) A (setAttr (.ref x) name v) Q E s:=by
 obtain⟨od,J,hl⟩:=I.look;refine PySem.W.set_plain X J hs (PySem.W.osa_open (s:={ s with toks:=s.toks+1 }) (r:=none) X J hp ht fun b=>?_);obtain⟨cd,hc,Jn⟩:=PySem.W.any_some hh;have hx:s.heap.get? x=some ⟨.ref C,some dx,.plain,#[]⟩:=I.obj;refine ai (wpAny_pure (ai (ai (wpAny_loadPart hx (ai (PySem.W.Looks.here (s:={ s with toks:=s.toks+1 }) (PySem.W.looks_clsIn X hc) ?_))))));rw[Jn];refine wpAny_pure (a:=some dx) (ai (wpAny_pure (ai ?_)));refine wpAny_nsSet1 (s:={ s with toks:=s.toks+1 }) I.ns fun h' EI pb=>?_;obtain⟨oD,XU,XV,UN,JF,Cs⟩:=EI.count (PySem.Within.cons name v hw);refine ai (wpAny_lookBehind UN (by rw[JF];exact pastItsLine_dict (bn Cs (by rw[cR];lia))) ?_);exact wpAny_pure (h _ ⟨(pb.2 _ (cS I.ne)).trans I.obj,EI,I.ne⟩ pb)
theorem zJ(X:K.In s.heap)(hm:PySem.W.makesIn K C=true)(hi:PySem.W.findIn K (.ref C) "__init__"=some (some (.ref f)))(hf:PySem.W.typeIn K (.ref f)=some (.type "function"))(h:codeAny (model prog w) (A.under (.builtin "type.__call__" ⟨.ref C::vs,kw⟩)) (.call (.ref f) ⟨.ref (s.heap.objs.size+1)::vs,kw⟩) (PySem.W.InitBack (s.heap.objs.size+1) R)
   { s with heap:=(s.heap.push PySem.W.emptyDict).push (PySem.W.instObj C s.heap.objs.size) }):
  codeAny (model prog w) A (.call (.ref C) ⟨vs,kw⟩) R s:=by
 obtain⟨hh,g,d,t,os⟩:=s;exact PySem.W.make_core (PySem.W.makes_of X hm) (PySem.W.looks_findIn X hi) (fun self=>PySem.W.bind_fn X self hf) (.inl rfl) h
end
def b8(f:Str)(v:V):List (Str×V)->List (Str×V)
 |[]=>[(f,v)]
 |(g,x)::r=>if g=f then (g,v)::r else (g,x)::b8 f v r
theorem aK(f g:Str)(v:V):∀fs:List (Str×V),(b8 f v fs).lookup g=if g=f then some v else fs.lookup g
 |[]=>by
  show List.lookup g [(f,v)]=_;by_cases h:g=f
  .have hb:(g==f)=true:=eG.mpr h;simp only[List.lookup,hb,ap h]
  .have hb:(g==f)=false:=j6.mpr h;simp only[List.lookup,hb,am h]
 |(k,x)::r=>by
  have ih:=aK f g v r;rw[show b8 f v ((k,x)::r)=(if k=f then (k,v)::r else (k,x)::b8 f v r) from rfl];by_cases hk:k=f
  .rw[ap hk];by_cases h:g=k
   .have hb:(g==k)=true:=eG.mpr h;simp only[List.lookup,hb,ap (h.trans hk)]
   .have hb:(g==k)=false:=j6.mpr h;simp only[List.lookup,hb,am (fun e:g=f=>h (e.trans hk.symm))]
  .rw[am hk];by_cases h:g=k
   .have hb:(g==k)=true:=eG.mpr h;simp only[List.lookup,hb,am (fun e:g=f=>hk (h.symm.trans e))]
   .have hb:(g==k)=false:=j6.mpr h;simp only[List.lookup,hb];exact ih
theorem kB(f:Str)(v:V):∀fs:List (Str×V),f∈(b8 f v fs).map (·.1)/\∀g,g∈fs.map (·.1)->g∈(b8 f v fs).map (·.1)
 |[]=>⟨by simp[b8],fun g h=>by simp at h⟩
 |(k,x)::r=>by
  obtain⟨i1,i2⟩:=kB f v r;rw[show b8 f v ((k,x)::r)=(if k=f then (k,v)::r else (k,x)::b8 f v r) from rfl];by_cases hk:k=f
  .rw[ap hk];subst hk;exact⟨by simp,fun g h=>by simpa using h⟩
  .rw[am hk];refine⟨?_,fun g h=>?_⟩
   .rw[iT];exact bA _ i1
   .rw[iT] at h |-;rcases aY.mp h with e|e
    .exact aY.mpr (.inl e)
    .exact bA _ (i2 g e)
theorem cT(f:Str)(v:V):∀fs:List (Str×V),(b8 f v fs).length<=fs.length+1
 |[]=>by simp[b8]
 |(k,x)::r=>by
  have ih:=cT f v r;rw[show b8 f v ((k,x)::r)=(if k=f then (k,v)::r else (k,x)::b8 f v r) from rfl];by_cases hk:k=f
  .rw[ap hk,cR,cR];lia
  .rw[am hk,cR,cR];lia
theorem oA.some_of(r:oA (some v) o):∃u,o=some u/\bh v u:=by
 cases o with
 |none=>exact(show False from r).elim
 |some u=>exact⟨u,rfl,r⟩
theorem oA.none_of(r:oA none o):o=none:=by
 cases o with
 |none=>rfl
 |some u=>exact(show False from r).elim
theorem xJ(r:bh v u):PySem.W.handedIn u=true:=by
 cases v with
 |bV=>cases (show u=Value.none from r);rfl
 |bl b=>cases (show u=Value.bool b from r);rfl
 |int i=>obtain⟨t,e⟩:=(show ∃t,u=Value.int i t from r);cases e;rfl
 |str x=>obtain⟨t,e⟩:=(show ∃t,u=Value.str x t from r);cases e;rfl
 |yU b=>obtain⟨t,e⟩:=(show ∃t,u=Value.bytes b t from r);cases e;rfl
 |FE b=>obtain⟨t,e⟩:=(show ∃t,u=Value.float b t from r);cases e;rfl
 |ref a=>cases (show u=Value.ref a from r);rfl
 |ty n=>cases (show u=Value.type n from r);rfl
section
variable {P:Program} {w:World} {H H':Hp} {h h':Heap} {a C dx:Addr} {fs UG:List (Str×V)}
theorem lM(bD:jL P w H h)(e:H a=some (.ins C dx fs)):∃mA,u8 h a dx C mA/\(∀f,oA (fs.lookup f) (mA f))/\PySem.Within mA (fs.map (·.1))/\fs.length<=1000/\H dx=some (.own a):=by
 obtain⟨d,z,ne,ob,mA,n,r,q⟩:=(show ck P w H h a (.ins C dx fs) from bD a _ e)
 exact⟨mA,⟨ob,n,ne⟩,r,q,z,d⟩
end
structure yW(K:PySem.W.Frag)(C:Addr):Prop where
 pg:PySem.W.plainGet K C Str.empty=true
 hd:PySem.W.hasDictIn K C=true
 po:PySem.W.plainOver K C=true
 sa:PySem.W.findIn K (.ref C) "__setattr__"=some (some (.builtin "object.__setattr__"))
theorem yW.get{K:PySem.W.Frag}{C:Addr}(c:yW K C)(f:Str):PySem.W.plainGet K C f=true:=c.pg
def et(K:PySem.W.Frag)(C:Addr)(f:Str):Prop:=PySem.W.findIn K (.ref C) f=some none
theorem et.JG{K:PySem.W.Frag}{C:Addr}{f:Str}(n:et K C f):PySem.W.takerIn K C f=some none:=by
 unfold PySem.W.takerIn;rw[show PySem.W.findIn K (.ref C) f=some none from n];rfl
structure Ct(K:PySem.W.Frag)(C:Addr)(m:Str)(f:Addr):Prop where
 at_:PySem.W.findIn K (.ref C) m=some (some (.ref f))
 fn:PySem.W.isFn K (.ref f)=true
 kp:PySem.W.keepIn K (.ref f)=true
section
variable {X:Cx} {ae:List (Addr×Obj)} {σ:St} {H:Hp} {s:Shared} {a C dx:Addr} {fs:List (Str×V)} {f:Str} {v:V} {A:Around} {E:Value->Shared->Prop}
theorem u9(I:aD X ae σ H s)(e:H a=some (.ins C dx fs))(c:yW X.K C)(n:et X.K C f)(l:fs.lookup f=some v)(h:∀u s',aD X ae σ H s'->bh v u->Q u s'):wpAny (model X.prog X.w) A (getAttr (.ref a) f b) Q E s:=by
 obtain⟨mA,O,r,_,_,_⟩:=lM I.bD e;obtain⟨u,hu,ru⟩:=oA.some_of (v:=v) (o:=mA f) (by rw[<-l];exact r f);exact Cp I.k6 O (c.get f) c.hd n hu (xJ ru) (h u _ (I.tok _) ru)
theorem m_(I:aD X ae σ H s)(e:H a=some (.ins C dx fs))(c:yW X.K C)(k:Ct X.K C m g)(l:fs.lookup m=none)(h:Q (.ref g,[.ref a]) s):wpAny (model X.prog X.w) A (getMethod (.ref a) m pl) Q E s:=by
 obtain⟨mA,O,r,_,_,_⟩:=lM I.bD e;have hn:mA m=none:=oA.none_of (by rw[<-l];exact r m);exact zH I.k6 O (c.get m) k.at_ k.fn hn h
theorem u_(I:aD X ae σ H s)(e:H a=some (.ins C dx fs))(c:yW X.K C)(n:et X.K C f)(hl:fs.length<1000)(ry:bh y u)(h:∀s',aD X ae σ (upd H a (.ins C dx (b8 f y fs))) s'->Q () s'):wpAny (model X.prog X.w) A (setAttr (.ref a) f u) Q E s:=by
 obtain⟨mA,O,r,wi,_,ho⟩:=lM I.bD e;have hz:(fs.map (·.1)).length<=sizeLine:=by rw[a_,g9];lia
 refine Cr I.k6 O c.sa c.po n.JG c.hd wi hz fun h' O' sb=>h _ ?_;have hd:∃o,h'.get? dx=some o:=let ⟨o,_,_,e',_⟩:=O'.ns;⟨o,e'⟩;refine I.write (x:=a) (e:=dx) (by rw[e];exact True.intro) (.inr ho) (fun b q hb z=>(sb.2 b hb).trans z) hd ?_;refine⟨by rw[ao O.ne];exact ho,?_,O.ne,O'.obj,_,O'.ns,fun g=>?_,fun g hg=>?_⟩
 .have:=cT f y fs;lia
 .show oA ((b8 f y fs).lookup g) (if g=f then some u else mA g);rw[aK];by_cases q:g=f
  .rw[ap q,ap q];exact ry
  .rw[am q,am q];exact r g
 .by_cases q:g=f
  .rw[q];exact(kB f y fs).1
  .refine(kB f y fs).2 g (wi g fun z=>hg ?_);show (if g=f then some u else mA g)=none;rw[am q];exact z
theorem aD.made(I:aD X ae σ H s):aD X ae σ (upd (upd H s.heap.objs.size (.own (s.heap.objs.size+1))) (s.heap.objs.size+1) (.ins C s.heap.objs.size []))
  { s with heap:=(s.heap.push PySem.W.emptyDict).push (PySem.W.instObj C s.heap.objs.size) }:=by
 have e1:(s.heap.push PySem.W.emptyDict).get? s.heap.objs.size=some PySem.W.emptyDict:=bv s.heap rfl;have e2:((s.heap.push PySem.W.emptyDict).push (PySem.W.instObj C s.heap.objs.size)).get? (s.heap.objs.size+1)=some (PySem.W.instObj C s.heap.objs.size):=by
  have:=bv (s.heap.push PySem.W.emptyDict) (o:=PySem.W.instObj C s.heap.objs.size) rfl;rwa [fU] at this
 have e3:(s.heap.push PySem.W.emptyDict).Ns s.heap.objs.size (fun _=>none):=⟨PySem.W.emptyDict,#[],_,e1,rfl,(fun e he=>absurd he (by simp)),fun _=>rfl⟩
 have I1:=I.laid (a:=s.heap.objs.size) (o:=.own (s.heap.objs.size+1)) (h':=s.heap.push PySem.W.emptyDict) (t':=s.toks) (fun b u q=>ba _ q) (aI _) ⟨_,e1⟩;refine I1.laid (a:=s.heap.objs.size+1) (o:=.ins C s.heap.objs.size []) (t':=s.toks) (fun b u q=>ba _ q) (mJ (fU _ _)) ?_;have ne:s.heap.objs.size≠s.heap.objs.size+1:=aL (iR _);refine⟨by rw[ao ne,ah],cK _,ne,e2,fun _=>none,(Heap.Ns1.of_empty e3).at fun o q=>ba _ q,fun _=>True.intro,fun y hy=>absurd rfl hy⟩
theorem Cu(hb:attributeBase e f env (eval e env)=eval e env)(h:wpAny (model prog w) A (eval e env) (fun o s₁=>wpAny (model prog w) A (getAttr o f true) Q E s₁) E s):wpAny (model prog w) A (eval (.Attribute e f pos) env) Q E s:=
 Attribute_any_ h (by rw[arm_eval_Attribute,hb])
end
def JI(K:PySem.W.Frag)(ta:TE)(f:Str):TE:=fun σ H Q=>ta σ H fun x H1=>∃a C dx fs v,x=.ref a/\H1 a=some (.ins C dx fs)/\yW K C/\et K C f/\fs.lookup f=some v/\Q v H1
def Oj(K:PySem.W.Frag)(ta tv:TE)(f:Str):TS:=fun D σ H=>tv σ H fun y H1=>ta σ H1 fun x H2=>∃a C dx fs,x=.ref a/\H2 a=some (.ins C dx fs)/\yW K C/\et K C f/\fs.length<1000/\
 D.nx σ (upd H2 a (.ins C dx (b8 f y fs)))
section
variable {X:Cx} {o e value:Expr} {f:Str} {pos xE zK:Pos} {ta tv:TE}
theorem dO(he:PE X e ta)(hb:attributeBase e f X.env (eval e X.env)=eval e X.env):PE X (.Attribute e f pos) (JI X.K ta f):=by
 intro ae s σ H Q I h;refine Cu hb (cC (he ae s σ H _ I h) fun u s1 ⟨x,H1,I1,rx,a,C,dx,fs,v,ex,ea,c,n,l,q⟩=>?_);subst ex;obtain rfl:u=Value.ref a:=rx;exact u9 I1 ea c n l fun u' s2 I2 ru=>⟨v,H1,I2,ru,q⟩
theorem kC(ha:PE X o ta)(hv:PE X value tv)(hs:swapsWith value (some (.Attribute o f xE)) pos.line X.env=pure false):PS X (.Assign [.Attribute o f xE] value pos) (Oj X.K ta tv f):=by
 intro ae s σ H D I h;refine plainObj_wpAny_Assign_Attribute (cC (hv ae s σ H _ I h) fun u s1 ⟨y,H1,I1,ry,q⟩=>cC (ha ae s1 σ H1 _ I1 q) fun ov s2 ⟨x,H2,I2,rx,a,C,dx,fs,ex,ea,c,n,l,q2⟩=>?_) hs;subst ex;obtain rfl:ov=Value.ref a:=rx;exact u_ I2 ea c n l ry fun s3 I3=>⟨σ,_,I3,q2⟩
end
section
variable {X:Cx} {ae:List (Addr×Obj)} {σ:St} {H:Hp} {s:Shared} {A:Around} {E:Value->Shared->Prop} {Q:Value->Shared->Prop} {c:Value} {b:Bool}
inductive kD (K:PySem.W.Frag) (H:Hp):V->Value->Prop where
 |bV:kD K H .bV (.type "NoneType")
 |bl (x:Bool):kD K H (.bl x) (.type "bool")
 |int (i:Int):kD K H (.int i) (.type "int")
 |str (x:Str):kD K H (.str x) (.type "str")
 |FE (x:UInt64):kD K H (.FE x) (.type "float")
 |lst {a:Addr} {xs:List V} (e:H a=some (.lst xs)):kD K H (.ref a) (.type "list")
 |o5 {a:Addr} {o:Obj} {xs:List V} (e:H a=some (.o5 o (.lst xs))):kD K H (.ref a) (.type "list")
 |tup {a:Addr} {xs:List V} (e:H a=some (.tup xs)):kD K H (.ref a) (.type "tuple")
 |dK {a:Addr} {jK:List (oz×V)} (e:H a=some (.dK jK)):kD K H (.ref a) (.type "dict")
 |dT {a:Addr} {jK:List (List oz×V)} (e:H a=some (.dT jK)):kD K H (.ref a) (.type "dict")
 |ins {a C dx:Addr} {fs:List (Str×V)} (e:H a=some (.ins C dx fs)) (cl:yW K C) (ha:PySem.W.findIn K (.ref C) "__class__"=some (some (.builtin "object.__class__")))
   (hn:PySem.W.specialIn K (.builtin "object.__class__") "__get__"=some (some (.builtin "getset_descriptor.__get__"))) (Ol:PySem.W.takesIn K (.builtin "object.__class__")=some true)
   (hm:PySem.W.mroIn K C (.type "object")=some true):kD K H (.ref a) (.ref C)
theorem xK(I:aD X ae σ H s)(rx:bh x u)(ty:kD X.K H x t)(e:PySem.W.kitOne X.K t c=some b)(h:∀tk,Q (.bool b) { s with toks:=tk }):
  wpAny (model X.prog X.w) A (call (.builtin "isinstance") [u,c]) Q E s:=by
 cases ty with
 |bV=>cases (show u=Value.none from rx);exact gG PySem.W.kitx_none I.k6 True.intro e (fun z=>nomatch z) h
 |bl y=>cases (show u=Value.bool y from rx);exact gG PySem.W.kitx_bool I.k6 True.intro e (fun z=>nomatch z) h
 |int i=>obtain⟨t,q⟩:=(show ∃t,u=Value.int i t from rx);cases q;exact gG PySem.W.kitx_int I.k6 True.intro e (fun z=>nomatch z) h
 |str y=>obtain⟨t,q⟩:=(show ∃t,u=Value.str y t from rx);cases q;exact gG PySem.W.kitx_str I.k6 True.intro e (fun z=>nomatch z) h
 |FE y=>obtain⟨t,q⟩:=(show ∃t,u=Value.float y t from rx);cases q;exact gG PySem.W.kitx_float I.k6 True.intro e (fun z=>nomatch z) h
 |@lst a xs ea=>
  cases (show u=Value.ref a from rx);obtain⟨_,_,n,_,h1⟩:=(show ck X.prog X.w H s.heap a (.lst xs) from I.bD a _ ea)
  exact gG PySem.W.kitx_list I.k6 ⟨_,h1,rfl⟩ e (fun z=>nomatch z) h
 |@o5 a ob xs ea=>
  cases (show u=Value.ref a from rx);obtain⟨_,_,_,n,_,h1⟩:=(show ck X.prog X.w H s.heap a (.o5 ob (.lst xs)) from I.bD a _ ea)
  exact gG PySem.W.kitx_list I.k6 ⟨_,h1,rfl⟩ e (fun z=>nomatch z) h
 |@tup a xs ea=>
  cases (show u=Value.ref a from rx);obtain⟨_,_,_,p⟩:=(show ck X.prog X.w H s.heap a (.tup xs) from I.bD a _ ea)
  obtain⟨o,h1,h2,_⟩:=p;exact gG PySem.W.kitx_tuple I.k6 ⟨o,h1,h2⟩ e (fun z=>nomatch z) h
 |@dK a jK ea=>
  cases (show u=Value.ref a from rx);obtain⟨_,_,vs,_,p⟩:=(show ck X.prog X.w H s.heap a (.dK jK) from I.bD a _ ea)
  obtain⟨o,es,ep,h1,h2,_⟩:=p;exact gG PySem.W.kitx_dict I.k6 ⟨o,h1,h2.1⟩ e (fun z=>nomatch z) h
 |@dT a jK ea=>
  cases (show u=Value.ref a from rx);obtain⟨_,_,xs,_,o,es,ep,h1,h2,_⟩:=(show ck X.prog X.w H s.heap a (.dT jK) from I.bD a _ ea)
  exact gG PySem.W.kitx_dict I.k6 ⟨o,h1,h2.1⟩ e (fun z=>nomatch z) h
 |@ins a C dx fs ea cl ha hn Ol hm=>
  cases (show u=Value.ref a from rx);obtain⟨mA,O,_⟩:=lM I.bD ea;obtain⟨od,J,_⟩:=O.look;exact gG (PySem.W.kitx_own (cl.get _) cl.hd ha hn Ol hm) I.k6 J e (fun z=>nomatch z) h
end
structure bt(k:Nat)(A:Around):Prop where
 hd:A.handled=none
 dp:A.depth+3*k+5<recursionLimit
 un:A.units+16*k+200<cLine
 gd:A.guards=some []
theorem bt.mono(r:bt k A)(h:j<=k):bt j A:=⟨r.hd,by have:=r.dp;lia,by have:=r.un;lia,r.gd⟩
theorem bt.deeper(r:bt (k+1) A)(env:Env):bt k (A.deeper env):=
 ⟨r.hd,by have:=r.dp;show A.depth+1+3*k+5<_;lia,by have:=r.un;show A.units+3+16*k+200<_;lia,r.gd⟩
theorem va{A:Around}{C:Addr}{us:List Value}{kw:List (Str×Value)}:(A.under (.builtin "type.__call__" ⟨.ref C::us,kw⟩)).depth=A.depth+1:=by
 first|rfl|simp[Around.under,Code.weight,Code.isCreation,Code.isGuard,Code.isCaller,Code.frames,Code.isFrame,guardIds]
theorem vb{A:Around}{C:Addr}{us:List Value}{kw:List (Str×Value)}:(A.under (.builtin "type.__call__" ⟨.ref C::us,kw⟩)).units=A.units+1:=by
 first|rfl|simp[Around.under,Code.cUnits,Code.frames,Code.isFrame]
theorem bt.make(r:bt (k+1) A)(C:Addr)(us:List Value)(kw:List (Str×Value)):bt k (A.under (.builtin "type.__call__" ⟨.ref C::us,kw⟩)):=
 ⟨r.hd,by have:=r.dp;rw[va];lia,by have:=r.un;rw[vb];lia,r.gd⟩
theorem bt.depth(r:bt k A):A.depth<recursionLimit:=by have:=r.dp;lia
theorem bt.u(r:bt k A)(h:n<=200:=by decide):A.units+n<cLine:=by have:=r.un;lia
def iM:TA:=fun _ H Q=>Q [] H
def bR(ta:TE)(tr:TA):TA:=fun σ H Q=>ta σ H fun x H1=>tr σ H1 fun xs H2=>Q (x::xs) H2
section
variable {X:Cx} {e:Expr} {es:List Expr} {te:TE} {t:TA} {pos:Pos}
theorem af:PA X [] iM:=fun _ _ _ _ H Q I h=>Calls.spliced_nil ⟨[],H,I,.nil,h⟩
theorem aa(ha:PE X e te)(hr:PA X es t)(hs:starEach (e::es) X.env=(false,eval e X.env)::starEach es X.env:=by rfl):PA X (e::es) (bR te t):=by
 intro pos ae s σ H Q I h;rw[hs];show wpAny _ _ (spliced ((false,eval e X.env)::backTo pos (starEach es X.env))) _ _ s;refine Calls.spliced_cons (cC (ha ae s σ H _ I h) fun u s1 ⟨x,H1,I1,r1,q1⟩=>?_);exact cC (hr pos ae s1 σ H1 _ I1 q1) fun us s2 ⟨xs,H2,I2,r2,q2⟩=>⟨x::xs,H2,I2,.cons r1 r2,q2⟩
def JJ(t:TA):TE:=fun σ H Q=>t σ H fun xs H1=>xs.length<=sizeLine/\∀p,H1 p=none->Q (.ref p) (upd H1 p (.tup xs))
def Om(t:TA):TE:=fun σ H Q=>t σ H fun xs H1=>xs.length<=sizeLine/\∀p,H1 p=none->Q (.ref p) (upd H1 p (.lst xs))
theorem gs{x1}(h:PA X es t):PE X (.Tuple es x1 pos) (JJ t):=by
 intro ae s σ H Q I hq;refine wpAny_Tuple_spliced (cC (h pos ae s σ H _ I hq) fun us s1 ⟨xs,H1,I1,r,z,q⟩=>⟨by rw[<-r.length];exact z,?_⟩);have hf:H1 s1.heap.objs.size=none:=I1.bD.fresh (aI _);refine⟨.ref s1.heap.objs.size,upd H1 s1.heap.objs.size (.tup xs),I1.laid (t':=s1.toks) (fun b u e=>ba _ e) (aI _) ?_,rfl,q _ hf⟩;exact⟨z,us,r,⟨_,bv _ rfl,rfl,_,rfl,rfl⟩⟩
theorem hZ(h:PA X es t):PE X (.List es pos) (Om t):=by
 intro ae s σ H Q I hq;refine wpAny_List_spliced (cC (h pos ae s σ H _ I hq) fun us s1 ⟨xs,H1,I1,r,z,q⟩=>⟨by rw[<-r.length];exact z,?_⟩);have hf:H1 s1.heap.objs.size=none:=I1.bD.fresh (aI _);refine⟨.ref s1.heap.objs.size,upd H1 s1.heap.objs.size (.lst xs),I1.laid (t':=s1.toks) (fun b u e=>ba _ e) (aI _) ?_,rfl,q _ hf⟩;exact⟨z,us,0,r,bv _ rfl⟩
end
abbrev Sp:=List V->Hp->VK->XK->Prop
abbrev rN:=List Env->Hp->Shared->XK->Value->Shared->Prop
structure vc(P:Program)(w:World)(K:PySem.W.Frag)(mg:Str->Option Value)(base:Heap)(A:Around)(outer:List Env)(s:Shared)(H:Hp):Prop where
 frames:A.frames=some outer
 mod:Mod K mg base
 bs:∀b o,base.get? b=some o->s.heap.get? b=some o/\H b=none
 B9:base.objs.size<=s.heap.objs.size
 jM:s.heap.FunFrames base outer
 Ck:∀b∈kv outer,H b=none
 bD:jL P w H s.heap
 bare:AllBare s.gens
def CE(outer:List Env)(P:Program)(w:World)(H:Hp)(s:Shared)(Q:VK)(u:Value)(s':Shared):Prop:=
 ∃v H',s'.os=s.os/\AllBare s'.gens/\Un (kv outer) [] H H' s.heap s'.heap/\jL P w H' s'.heap/\bh v u/\Q v H'
def CR(CX:rN)(outer:List Env)(P:Program)(w:World)(H:Hp)(s:Shared)(Q:VK)(E:XK)(r:Result)(s':Shared):Prop:=
 match r with
 |.ok (.ret u)=>CE outer P w H s Q u s'
 |.ok _=>False
 |.error e=>CX outer H s E e s'
structure a9(P:Program)(w:World)(K:PySem.W.Frag)(mg:Str->Option Value)(base:Heap)(CX:rN)(k:Nat)(f:Addr)(fd:FuncData)(ps:List Str)(sp:Sp):Prop where
 len:∀vs H Q E,sp vs H Q E->vs.length=ps.length
 run:∀ (A:Around) (outer:List Env) (s:Shared) (H:Hp) (args:Args) (us:List Value) (vs:List V) (Q:VK) (E:XK),bt k A->vc P w K mg base A outer s H->BindsTo s fd args (ps.zip us)->aS vs us->sp vs H Q E->
  codeAny (model P w) A (.call (.ref f) args) (CR CX outer P w H s Q E) s
theorem vc.make{P:Program}{w:World}{K:PySem.W.Frag}{mg:Str->Option Value}{base:Heap}{A:Around}{outer:List Env}{s:Shared}{H:Hp}(e:vc P w K mg base A outer s H)(C:Addr)(us:List Value)(kw:List (Str×Value)):
  vc P w K mg base (A.under (.builtin "type.__call__" ⟨.ref C::us,kw⟩)) outer s H:=⟨by first|exact e.frames|(simpa [Around.under,Code.envs,Code.isFrame,pushEnvs] using e.frames),e.mod,e.bs,e.B9,e.jM,e.Ck,e.bD,e.bare⟩
section
variable {X:Cx} {ae:List (Addr×Obj)} {σ:St} {H:Hp} {s s':Shared}
theorem aD.JK(I:aD X ae σ H s):vc X.prog X.w X.K X.mg X.base X.A X.stack s H:=
 ⟨I.ok.frames,I.ok.mod,I.bs,bn I.ok.B9 I.sz,I.stack,I.qA,I.bD,I.bare⟩
theorem aD.after(I:aD X ae σ H s)(h:CE X.stack X.prog X.w H s Q u s'):EP X ae σ Q u s':=by
 obtain⟨v,H',os,bare,un,bD,r,q⟩:=h;obtain⟨hh,g,d,t,UO⟩:=s';obtain rfl:UO=s.os:=os;exact⟨v,H',I.call (h':=hh) (g':=g) (d':=d) (t':=t) (ch:=[]) un bD bare (fun b z=>absurd z (by simp)),r,q⟩
end
def iX(sp:Sp)(lN:List V)(E:XK)(t:TA):TE:=fun σ H Q=>t σ H fun vs H1=>sp (vs++lN) H1 Q E
def wj(C:Addr)(m:Str)(sp:Sp)(lN:List V)(E:XK)(ta:TE)(t:TA):TE:=fun σ H Q=>ta σ H fun x H1=>∃a dx fs,x=.ref a/\H1 a=some (.ins C dx fs)/\fs.lookup m=none/\
 t σ H1 fun vs H2=>sp (x::(vs++lN)) H2 Q E
def JM(C:Addr)(sp:Sp)(lN:List V)(E:XK)(t:TA):TE:=fun σ H Q=>t σ H fun vs H1=>∀x dx,H1 x=none->H1 dx=none->dx≠x->
 sp (.ref x::(vs++lN)) (upd (upd H1 dx (.own x)) x (.ins C dx [])) (fun v H2=>v=.bV/\Q (.ref x) H2) E
def fV(K:PySem.W.Frag)(fd:FuncData)(ps:List Str)(ds:List Value):Prop:=
 ∀ (s:Shared) (us:List Value),K.In s.heap->(us++ds).length=ps.length->BindsTo s fd ⟨us,[]⟩ (ps.zip (us++ds))
theorem fV.all{K:PySem.W.Frag}{fd:FuncData}{ps:List Str}(h:∀us:List Value,us.length=ps.length->bindArgs fd ⟨us,[]⟩=pure (ps.zip us)):fV K fd ps []:=fun s us _ hl=>by
 rw[uN] at hl |-;exact .of_eq (h us hl)
def fD(CX:rN)(X:Cx)(E:XK):Prop:=∀ (ae:List (Addr×Obj)) (σ:St) (H:Hp) (s:Shared) (e:Value) (s':Shared),aD X ae σ H s->CX X.stack H s E e s'->X.xe e s'
section
variable {X:Cx} {CX:rN} {k:Nat} {f C:Addr} {fd:FuncData} {ps:List Str} {sp:Sp} {lN:List V} {ds:List Value} {E:XK} {x m:Str} {p pos ls:Pos} {e o:Expr} {es:List Expr} {ta:TE} {t:TA}
theorem vd(F:a9 X.prog X.w X.K X.mg X.base CX k f fd ps sp)(hr:bt k X.A)(hb:fV X.K fd ps ds)(hd:aS lN ds)(hx:fD CX X E)(I:aD X ae σ H s)(r:aS vs us)(h:sp (vs++lN) H Q E):wpAny (model X.prog X.w) X.A (call (.ref f) us) (EP X ae σ Q) X.xe s:=by
 have r2:aS (vs++lN) (us++ds):=r.append hd;have hl:(us++ds).length=ps.length:=by rw[<-r2.length];exact F.len _ _ _ _ h
 refine wpAny_call (km (F.run X.A X.stack s H ⟨us,[]⟩ (us++ds) (vs++lN) Q E hr I.JK (hb s us I.k6 hl) r2 h) fun r s' hq=>?_);cases r with
 |error e=>exact hx ae σ H s e s' I hq
 |ok fl=>
  cases fl with
  |ret u=>exact I.after hq
  |next=>exact False.elim hq
  |brk=>exact False.elim hq
  |cont=>exact False.elim hq
theorem Cv(F:a9 X.prog X.w X.K X.mg X.base CX k f fd ps sp)(hr:bt k X.A)(hg:Gl X x)(hm:X.mg x=some (.ref f))(hk:PySem.W.keepIn X.K (.ref f)=true)(hb:fV X.K fd ps ds)(hd:aS lN ds)(hx:fD CX X E)(ha:PA X (e::es) t)(xL:(x==("__debug__":Str))=false:=by decide)(he:starEach (e::es) X.env=(false,eval e X.env)::starEach es X.env:=by rfl)(o4:(backTo pos (starEach es X.env)).any (·.1)=false:=by rfl):
  PE X (.Call (.Name x p) (e::es) [] pos) (iX sp lN E t):=by
 intro ae s σ H Q I h;refine mn (lK I hg hm ?_ xL);refine uv (h₀:=X.base) I.ok.mod.IG hk (cC (ha pos ae s σ H _ I h) fun us s1 ⟨vs,H1,I1,r,q⟩=>⟨I1.k6,?_⟩) he o4;exact vd F hr hb hd hx I1 r q
theorem bU(he:PE X o ta)(c:yW X.K C)(hm:Ct X.K C m f)(F:a9 X.prog X.w X.K X.mg X.base CX k f fd ps sp)(hr:bt k X.A)(hb:fV X.K fd ps ds)(hd:aS lN ds)(hx:fD CX X E)(ha:PA X (e::es) t)(gO:starEach (e::es) X.env=(false,eval e X.env)::starEach es X.env:=by rfl)(o4:(backTo pos (starEach es X.env)).any (·.1)=false:=by rfl)(ht:eval (.Call (.Attribute o m ls) (e::es) [] pos) X.env=(do
   let ov <- eval o X.env
   standAt ls.atName
   let (f,first) <- holding [ov] (getMethod ov m pl)
   callWith pos f first (backTo pos (starEach (e::es) X.env)) (backToKw pos (keywordEach [] X.env))):=by rfl):
  PE X (.Call (.Attribute o m ls) (e::es) [] pos) (wj C m sp lN E ta t):=by
 intro ae s σ H Q I h;refine PySem.W.methodCall_KW (pl:=pl) (cC (he ae s σ H _ I h) fun u s1 ⟨x,H1,I1,rx,a,dx,fs,ex,ea,l,q⟩=>?_) ht;subst ex;obtain rfl:u=Value.ref a:=rx;refine m_ I1 ea c hm l ?_;refine uv (first:=[.ref a]) (h₀:=X.base) I.ok.mod.IG hm.kp (cC (ha pos ae s1 σ H1 _ I1 q) fun us s2 ⟨vs,H2,I2,r,q2⟩=>⟨I2.k6,?_⟩) gO o4;exact vd (us:=.ref a::us) (vs:=.ref a::vs) F hr hb hd hx I2 (.cons rfl r) q2
theorem d6{pl:Sem Bool}(he:PE X o ta)(c:yW X.K C)(hm:Ct X.K C m f)(F:a9 X.prog X.w X.K X.mg X.base CX k f fd ps sp)(hr:bt k X.A)(hb:fV X.K fd ps ds)(hd:aS lN ds)(hx:fD CX X E)(ht:eval (.Call (.Attribute o m ls) [] [] pos) X.env=(do
   let ov <- eval o X.env
   standAt ls.atName
   let (f,first) <- holding [ov] (getMethod ov m pl)
   callWith pos f first (backTo pos (starEach [] X.env)) (backToKw pos (keywordEach [] X.env))):=by rfl):
  PE X (.Call (.Attribute o m ls) [] [] pos) (wj C m sp lN E ta iM):=by
 intro ae s σ H Q I h;refine PySem.W.methodCall_KW (pl:=pl) (cC (he ae s σ H _ I h) fun u s1 ⟨x,H1,I1,rx,a,dx,fs,ex,ea,l,q⟩=>?_) ht;subst ex;obtain rfl:u=Value.ref a:=rx;refine m_ I1 ea c hm l ?_;exact PySem.W.callWith_K0 (first:=[.ref a]) I1.k6 hm.kp (vd (us:=[.ref a]) (vs:=[.ref a]) F hr hb hd hx I1 (.cons rfl .nil) q)
structure Mk(K:PySem.W.Frag)(C f:Addr):Prop where
 makes:PySem.W.makesIn K C=true
 init:PySem.W.findIn K (.ref C) "__init__"=some (some (.ref f))
 fn:PySem.W.isFn K (.ref f)=true
 kp:PySem.W.keepIn K (.ref C)=true
theorem zL(M:Mk X.K C f)(F:a9 X.prog X.w X.K X.mg X.base CX k f fd ps sp)(hr:bt (k+1) X.A)(hb:fV X.K fd ps ds)(hd:aS lN ds)(hx:fD CX X E)(I:aD X ae σ H s)(r:aS vs us)(h:∀x dx,H x=none->H dx=none->dx≠x->sp (.ref x::(vs++lN)) (upd (upd H dx (.own x)) x (.ins C dx [])) (fun v H2=>v=.bV/\Q (.ref x) H2) E):
  wpAny (model X.prog X.w) X.A (call (.ref C) us) (EP X ae σ Q) X.xe s:=by
 have hq:=h (s.heap.objs.size+1) s.heap.objs.size (I.bD.fresh (Nat.le_succ _)) (I.bD.fresh (aI _)) (aL (iR _));have I2:=aD.made (C:=C) I;have r2:aS (V.ref (s.heap.objs.size+1)::(vs++lN)) (Value.ref (s.heap.objs.size+1)::(us++ds)):=.cons rfl (r.append hd);have hl:(Value.ref (s.heap.objs.size+1)::us++ds).length=ps.length:=by
  have e:=r2.length;rw[F.len _ _ _ _ hq] at e;exact e.symm
 refine wpAny_call (zJ (f:=f) I.k6 M.makes M.init (eG.mp M.fn) (km (F.run _ X.stack _ _ ⟨Value.ref (s.heap.objs.size+1)::us,[]⟩ (Value.ref (s.heap.objs.size+1)::(us++ds)) _ _ E (hr.make C us [])
  (I2.JK.make C us []) (hb _ (Value.ref (s.heap.objs.size+1)::us) I2.k6 hl) r2 hq) fun r s' Cw=>?_))
 cases r with
 |error e=>exact hx ae σ _ _ e s' I2 Cw
 |ok fl=>
  cases fl with
  |ret u=>
   obtain⟨v,H',I3,rv,ev,q3⟩:=I2.after Cw;subst ev;exact⟨rv,⟨V.ref (s.heap.objs.size+1),H',I3,rfl,q3⟩⟩
  |next=>exact False.elim Cw
  |brk=>exact False.elim Cw
  |cont=>exact False.elim Cw
theorem wm(M:Mk X.K C f)(F:a9 X.prog X.w X.K X.mg X.base CX k f fd ps sp)(hr:bt (k+1) X.A)(hg:Gl X x)(hm:X.mg x=some (.ref C))(hb:fV X.K fd ps ds)(hd:aS lN ds)(hx:fD CX X E)(ha:PA X (e::es) t)(xL:(x==("__debug__":Str))=false:=by decide)(he:starEach (e::es) X.env=(false,eval e X.env)::starEach es X.env:=by rfl)(o4:(backTo pos (starEach es X.env)).any (·.1)=false:=by rfl):
  PE X (.Call (.Name x p) (e::es) [] pos) (JM C sp lN E t):=by
 intro ae s σ H Q I h;refine mn (lK I hg hm ?_ xL);refine uv (h₀:=X.base) I.ok.mod.IG M.kp (cC (ha pos ae s σ H _ I h) fun us s1 ⟨vs,H1,I1,r,q⟩=>⟨I1.k6,?_⟩) he o4;exact zL M F hr hb hd hx I1 r q
end
def PK(X:Cx)(zM:List Keyword)(t:TA):Prop:=
 ∀ (pos:Pos) (ae:List (Addr×Obj)) (s:Shared) (σ:St) (H:Hp) (Q:List V->Hp->Prop),aD X ae σ H s->t σ H Q->wpAny (model X.prog X.w) X.A (evalAll ((backToKw pos (keywordEach zM X.env)).map (·.2))) (AP X ae σ Q) X.xe s
section
variable {X:Cx} {CX:rN} {k:Nat} {f C:Addr} {fd:FuncData} {ps ks:List Str} {sp:Sp} {E:XK} {x m:Str} {p pos ls On:Pos} {e o:Expr} {es:List Expr} {zM:List Keyword} {te ta:TE} {t tk:TA} {nm:Option Str}
theorem FU:PK X [] iM:=fun _ _ _ _ H Q I h=>wpAny_evalAll_nil ⟨[],H,I,.nil,h⟩
theorem Cy(ha:PE X e te)(hr:PK X zM t):PK X (⟨nm,e,On⟩::zM) (bR te t):=by
 intro pos ae s σ H Q I h;show wpAny _ _ (evalAll ((do let v <- eval e X.env;standAt pos;pure v)::(backToKw pos (keywordEach zM X.env)).map (·.2))) _ _ s;refine wpAny_evalAll_cons (ai (cC (ha ae s σ H _ I h) fun u s1 ⟨x,H1,I1,r1,q1⟩=>ai (kg (wpAny_pure ?_))));exact cC (hr pos ae s1 σ H1 _ I1 q1) fun us s2 ⟨xs,H2,I2,r2,q2⟩=>⟨x::xs,H2,I2,.cons r1 r2,q2⟩
variable {g:List Value->List Value->List Value} {gV:List V->List V->List V}
end
structure az(N P:List Str)(sc:Scope):Prop where
 kind:sc.kind=.function
 co:sc.isCoroutine=false
 gen:sc.isGenerator=false
 nd:N.Nodup
 pre:N.take P.length=P
 par:∀x∈P,sc.names.lookup x=some .local\/sc.names.lookup x=some .cell
 FV:∀y∈sc.names,y.2≠.free
theorem pe{kindOf:Str->Option NameKind}{x:Str}:∀ {binds:List (Str×Value)} {m:Str->Option Value},(∀v,(x,v)∉binds)->bindL kindOf binds m x=m x
 |[],_,_=>rfl
 |(n,v)::r,m,h=>by
  unfold bindL;rw[pe fun w hw=>h w (bA _ hw)];split
  .have:x≠n:=by rintro rfl;exact h v bX
   simp[this]
  .rfl
theorem pf{kindOf:Str->Option NameKind}{x:Str}:∀ {binds:List (Str×Value)} {m:Str->Option Value},(∀v,(x,v)∉binds)->bindC kindOf binds m x=m x
 |[],_,_=>rfl
 |(n,v)::r,m,h=>by
  unfold bindC;rw[pf fun w hw=>h w (bA _ hw)];split
  .rfl
  .have:x≠n:=by rintro rfl;exact h v bX
   simp[this]
theorem ph{kindOf:Str->Option NameKind}{x:Str}{v:Value}:∀ {P:List Str} {vs:List Value} {i:Nat} {m:Str->Option Value},P.Nodup->P[i]?=some x->vs[i]?=some v->kindOf x=some .local->
  bindL kindOf (P.zip vs) m x=some v
 |[],_,_,_,_,h,_,_=>by simp at h
 |_::_,[],_,_,_,_,h,_=>by simp at h
 |p::P,w::vs,0,m,nd,h1,h2,hk=>by
  simp at h1 h2;subst h1;subst h2;show bindL kindOf ((p,w)::P.zip vs) m p=_;unfold bindL;rw[pe fun v hv=>(fQ.mp nd).1 (my hv).1,ap hk];simp
 |p::P,w::vs,i+1,m,nd,h1,h2,hk=>by
  show bindL kindOf ((p,w)::P.zip vs) m x=_;unfold bindL;exact ph (i:=i) (fQ.mp nd).2 (by simpa using h1) (by simpa using h2) hk
theorem pi{kindOf:Str->Option NameKind}{x:Str}{v:Value}:∀ {P:List Str} {vs:List Value} {i:Nat} {m:Str->Option Value},P.Nodup->P[i]?=some x->vs[i]?=some v->kindOf x≠some .local->
  bindC kindOf (P.zip vs) m x=some v
 |[],_,_,_,_,h,_,_=>by simp at h
 |_::_,[],_,_,_,_,h,_=>by simp at h
 |p::P,w::vs,0,m,nd,h1,h2,hk=>by
  simp at h1 h2;subst h1;subst h2;show bindC kindOf ((p,w)::P.zip vs) m p=_;unfold bindC;rw[pf fun v hv=>(fQ.mp nd).1 (my hv).1,am hk];simp
 |p::P,w::vs,i+1,m,nd,h1,h2,hk=>by
  show bindC kindOf ((p,w)::P.zip vs) m x=_;unfold bindC;exact pi (i:=i) (fQ.mp nd).2 (by simpa using h1) (by simpa using h2) hk
def start(N:List Str)(vs:List V):St:=vs.map some++List.replicate (N.length-vs.length) none
def gu(CX:rN)(P:Program)(w:World)(K:PySem.W.Frag)(mg:Str->Option Value)(base:Heap)(N:List Str)(qual:Str)(scope:Scope)(f:Addr)(cd:Value)(A:Around)(outer:List Env)(s:Shared)(H:Hp)(E:XK):Cx where
 prog:=P
 w:=w
 K:=K
 mg:=mg
 base:=base
 A:=A.deeper (envOfC qual scope s.heap.objs.size f cd)
 N:=N
 s₀:=s
 H₀:=H
 env:=envOfC qual scope s.heap.objs.size f cd
 outer:=outer
 stack:=envOfC qual scope s.heap.objs.size f cd::outer
 ex:=[]
 calm:=true
 fn:=fun _=>true
 pn:=[]
 xe:=fun e s'=>wpAny (model P w) (A.deeper (envOfC qual scope s.heap.objs.size f cd)) (leaving (envOfC qual scope s.heap.objs.size f cd) e) (fun _ Cz=>CX outer H s E e Cz) (fun e' Cz=>CX outer H s E e' Cz) s'
theorem rX{sc:Scope}{n:Nat}{x:Str}(h:sc.names.lookup x=some .cell):∃c,(cellsFrom n sc.names []).lookup x=some c:=by
 have q:=PySem.W.cellsFrom_some sc.names n [] (.inl h);exact t_.mp q
theorem xM{CX:rN}{P:Program}{w:World}{K:PySem.W.Frag}{mg:Str->Option Value}{base:Heap}{N ps:List Str}{qual:Str}{scope:Scope}{f:Addr}{cd:Value}{A:Around}{outer:List Env}{s s1:Shared}{H:Hp}{E:XK}{us:List Value}{vs:List V}(S:az N ps scope)(hd:A.handled=none)(e0:vc P w K mg base A outer s H)(hl:vs.length=ps.length)(r:aS vs us)(x:InCallC s s.heap.objs.size (bindL (envOfC qual scope s.heap.objs.size f cd).kindOf (ps.zip us) fun _=>none) (cellsFrom (s.heap.objs.size+1) scope.names []) (bindC (envOfC qual scope s.heap.objs.size f cd).kindOf (ps.zip us) fun _=>none) s1):
  aD (gu CX P w K mg base N qual scope f cd A outer s H E) [] (start N vs) H s1:=by
 have o4:ps.length<=N.length:=by have:=congrArg List.length S.pre;rw[gX] at this;lia
 obtain⟨h1,tk,rfl,hk⟩:=x.done;have II:∀b:Addr,b∉(gu CX P w K mg base N qual scope f cd A outer s H E).ex:=fun b z=>absurd (show b∈([]:List Addr) from z) (by simp);refine⟨⟨e0.mod,S.kind,rfl,rfl,aI _,fun y z c h1 h2=>?_,fun y hy=>?_,fun y c _ h=>?_,fun _=>hd,Around.frames_deeper e0.frames,.inr ⟨rfl,rfl⟩,fun b z=>absurd z (II b),e0.bs,e0.B9,fun b _ _=>II b,fun b z=>absurd z (II b),e0.jM,e0.Ck⟩,
  rfl,e0.bare,Un.kept hk,⟨_,x.toInCall.ns,fun i y v h1 h2 h3=>?_⟩,fun y c h=>⟨_,x.cell y c h⟩,e0.bD.fresh (aI _),fun y c h=>?_,fun p hp=>absurd (show p∈([]:List (Addr×Obj)) from hp) (by simp),e0.bD.kept hk,?_⟩
 .exact name_of_addr x.apart (kW h1) (kW h2)
 .have hy:scope.names.lookup y=some .cell\/scope.names.lookup y=some .free:=hy;rcases hy with hy|hy
  .exact rX hy
  .exact absurd rfl (S.FV _ (kW hy))
 .exact g8 (x.above y c (kW h))
 .have hi:i<vs.length:=by
   unfold start at h2;by_cases hi:i<vs.length
   .exact hi
   .rw[tX (by simpa using hi)] at h2;rw[List.getElem?_replicate] at h2;split at h2 <;> cases h2
  have ha:vs[i]?=some v:=by
   unfold start at h2;rw[l7 (by simpa using hi),bJ] at h2;cases e:vs[i]? with
   |none=>rw[e] at h2;cases h2
   |some a=>rw[e] at h2;cases h2;rfl
  obtain⟨u,hu,rv⟩:=r.get ha;have hp:ps[i]?=some y:=by
   rw[<-S.pre,List.getElem?_take_of_lt (by lia)];exact h1
  have SB:ps.Nodup:=by rw[<-S.pre];exact S.nd.sublist (List.take_sublist _ _)
  refine⟨u,rv,?_⟩;rcases S.par y (cQ hp) with k|k
  .exact .inl ⟨k,ph SB hp hu k⟩
  .obtain⟨c,e⟩:=rX (n:=s.heap.objs.size+1) k;refine .inr ⟨.inl k,c,e,?_⟩;have q:=x.cell y c e;rw[pi SB hp hu (by show scope.names.lookup y≠_;rw[k];decide)] at q;exact q
 .exact e0.bD.fresh (g8 (x.above y c (kW h)))
 .unfold start;show _=N.length;rw[iQ,a_,l3];lia
theorem zN{CX:rN}{P:Program}{w:World}{K:PySem.W.Frag}{mg:Str->Option Value}{base:Heap}{k:Nat}{f:Addr}{name qual:Str}{params:Arguments}{body:List Stmt}{scope:Scope}{dV kV jA pm cI ct oc:Value}{an od:Option Addr}{rY:Array (Option Value)}{N ps:List Str}{sp:Sp}(lk:K.lookup f=some ⟨oc,od,.func (PySem.W.fnOf name qual params body scope dV kV jA pm an cI ct),rY⟩)(ot:PySem.W.codeIn K cI qual=true)(S:az N ps scope)(len:∀vs H Q E,sp vs H Q E->vs.length=ps.length)(ng:∀ (A:Around) (outer:List Env) (s:Shared) (H:Hp) (vs:List V) (Q:VK) (E:XK),bt k (A.deeper (envOfC qual scope s.heap.objs.size f cI))->sp vs H Q E->
   ∃t,tU (gu CX P w K mg base N qual scope f cI A outer s H E) body t/\t { nx:=fun _ H'=>Q .bV H',rt:=Q } (start N vs) H):
  a9 P w K mg base CX (k+1) f (PySem.W.fnOf name qual params body scope dV kV jA pm an cI ct) ps sp:=by
 refine⟨len,fun A outer s H args us vs Q E hr e0 hb r yX=>?_⟩;have hl:=len _ _ _ _ yX;have KX:K.In s.heap:=e0.mod.IG.keeps fun b o e=>(e0.bs b o e).1;have UP:s.heap.NoLimit:=e0.mod.nolimit.keeps fun b o e=>(e0.bs b o e).1;have JN:∀y∈ps.zip us,scope.names.lookup y.1=some .local\/(scope.names.lookup y.1=some .cell/\((cellsFrom (s.heap.objs.size+1) scope.names []).lookup y.1).isSome=true):=fun ⟨n,v⟩ hy=>by
  rcases S.par n (my hy).1 with q|q
  .exact .inl q
  .exact .inr ⟨q,PySem.W.cellsFrom_some _ _ _ (.inl q)⟩
 refine codeAny_call_function hr.depth (KX _ _ lk) rfl S.co S.gen rfl (PySem.W.codeRec_of KX ot) (hb _ _ _ _ ?_);refine wpAny_newFunctionEnv_cells S.kind JN fun env he s1 x=>?_;subst he;refine⟨UP.keeps x.toInCall.keep,codeAny_func ?_⟩;obtain⟨t,ht,hq⟩:=ng A outer s H vs Q E (hr.deeper _) yX;have I:aD (gu CX P w K mg base N qual scope f cI A outer s H E) [] (start N vs) H s1:=xM S hr.hd e0 hl r x;refine jg (ht [] s1 (start N vs) H _ I hq) (fun fl s' hs=>?_) fun e s' hs=>hs;have dz:∀ {σ':St} {H':Hp} {v:V} {u:Value},aD (gu CX P w K mg base N qual scope f cI A outer s H E) [] σ' H' s'->bh v u->Q v H'->CE outer P w H s Q u s':=
  fun {σ' H' v u} J rv q=>⟨v,H',J.os,J.bare,J.base,J.bD,rv,q⟩
 cases fl with
 |ret u=>
  obtain⟨v,σ',H',J,rv,q⟩:=hs;exact dz J rv q
 |next=>
  obtain⟨σ',H',J,q⟩:=hs;exact dz (v:=V.bV) (u:=Value.none) J rfl q
 |brk=>
  obtain⟨_,_,_,q⟩:=hs;exact False.elim q
 |cont=>
  obtain⟨_,_,_,q⟩:=hs;exact False.elim q
section
variable {X:Cx} {x:Str} {p pos:Pos} {e:Expr} {es:List Expr} {t:TA} {id T:String} {r:List V->Hp->VK->Prop}
def Oo(r:List V->Hp->VK->Prop)(t:TA):TE:=fun σ H Q=>t σ H fun vs H1=>r vs H1 Q
theorem aF(hc:dZ X (.builtin id) r)(hg:Gl X x)(hm:X.mg x=none)(hv:bootBuiltins x=some (.builtin id))(ha:PA X (e::es) t)(hn:x≠"__name__":=by decide)(xL:(x==("__debug__":Str))=false:=by decide)(he:starEach (e::es) X.env=(false,eval e X.env)::starEach es X.env:=by rfl)(o4:(backTo pos (starEach es X.env)).any (·.1)=false:=by rfl):PE X (.Call (.Name x p) (e::es) [] pos) (Oo r t):=by
 intro ae s σ H Q I h;refine mn (ge I hg hm hv ?_ hn xL);exact PyProof.Rows.callWith_builtin1 (cC (ha pos ae s σ H _ I h) fun us s1 ⟨vs,H1,I1,r1,q1⟩=>hc ae s1 σ H1 vs us Q I1 r1 q1) he o4
theorem cF(hc:dZ X (.type T) r)(hg:Gl X x)(hm:X.mg x=none)(hv:bootBuiltins x=some (.type T))(ha:PA X (e::es) t)(hn:x≠"__name__":=by decide)(xL:(x==("__debug__":Str))=false:=by decide)(he:starEach (e::es) X.env=(false,eval e X.env)::starEach es X.env:=by rfl)(o4:(backTo pos (starEach es X.env)).any (·.1)=false:=by rfl):PE X (.Call (.Name x p) (e::es) [] pos) (Oo r t):=by
 intro ae s σ H Q I h;refine mn (ge I hg hm hv ?_ hn xL);exact oW (cC (ha pos ae s σ H _ I h) fun us s1 ⟨vs,H1,I1,r1,q1⟩=>hc ae s1 σ H1 vs us Q I1 r1 q1) he o4
end
end L2
namespace HT
open PySem PyProof.Rows
section
open PySem.SeqAt
open PySem.AutoSeq1 (wpAny_loadPart')
open PySem.MeetsSeq PySem.MeetsSeq2 PySem.MeetsSeq3
end
section
variable {prog:Program} {w:World} {A:Around} {E:Value->Shared->Prop} {s:Shared}
theorem CA{t b:Addr}{vs ws:List Value}{Q:Value->Shared->Prop}(ht:IsTup s.heap t vs.toArray)(hb:IsTup s.heap b ws.toArray)(hv:vs≠[])(h1:ws=[]->Q (.ref t) s)(h2:ws≠[]->Q (.ref s.heap.objs.size) { s with heap:=s.heap.push { cls:=.type "tuple",data:=.seq (vs++ws).toArray } })(iW:vs.length+ws.length<=sizeLine):wpAny (model prog w) A (binaryOp .Add (.ref t) (.ref b)) Q E s:=by
 obtain⟨⟨cls,dd,data,sl⟩,ho,hc,n,hd⟩:=id ht;obtain⟨⟨Op,Na,data2,FW⟩,FX,JO,n2,zO⟩:=id hb;simp only at hc hd JO zO;subst hc hd JO zO;have e:vs.toArray++ws.toArray=(vs++ws).toArray:=by simp
 by_cases hw:ws=[]
 .exact concat_meets ⟨_,ho,rfl⟩ ⟨_,FX,rfl⟩ uU seq_tuple_add ub ua (t4 _ _)
   (tuple_addW1 t b vs.toArray ws.toArray n n2 dd Na sl FW (by simpa using hv) (by simp[hw])) ⟨ho,FX,h1 hw⟩
 .refine concat_meets ⟨_,ho,rfl⟩ ⟨_,FX,rfl⟩ uU seq_tuple_add ub ua (t4 _ _)
   (tuple_addW2 t b vs.toArray ws.toArray n n2 dd Na sl FW (by simpa using hv) (by simpa using hw) (by rw[cp,cp];exact iW)) ⟨ho,FX,?_⟩
  rw[e];exact h2 hw
end
end HT
namespace L2
open PySem PySem.Spec PyProof.Rows
theorem nh{ns:List Int}:∀ {us:List Value},aS (ns.map V.int) us->IntsAre us ns:=by
 induction ns with
 |nil=>intro us r;rw[List.map_nil] at r;cases r;exact .nil
 |cons n ns ih=>
  intro us r;rw[iT] at r;cases r with
  |cons r1 r2=>
   obtain⟨t,e⟩:=r1;subst e;exact .cons n t (ih r2)
section
variable {X:Cx} {e:Expr} {te:TE} {lo hi:Option Expr} {tl th:TO} {pos p2:Pos}
def JP(K:PySem.W.Frag):R2:=fun x y H Q=>∃a b xs ys,x=.ref a/\y=.ref b/\bL K H a xs/\bL K H b ys/\xs≠[]/\xs.length+ys.length<=sizeLine/\
 (ys=[]->Q (.ref a) H)/\(ys≠[]->∀p,H p=none->Q (.ref p) (upd H p (.tup (xs++ys))))
theorem aS.lO(r:aS xs us):us=[]↔xs=[]:=by
 cases r with
 |nil=>simp
 |cons _ _=>simp
theorem CC:jO X (binaryOp .Add) (JP X.K):=by
 intro ae s σ H x y v u Q I rx ry h;obtain⟨a,b,xs,ys,rfl,rfl,ha,hb,hx,hz,q1,q2⟩:=h;cases rx;cases ry;obtain⟨its,r1,p1,_⟩:=I.tuple ha;obtain⟨CD,r2,p2,_⟩:=I.tuple hb;refine HT.CA p1 p2 (fun z=>hx (r1.lO.mp z)) (fun z=>⟨.ref a,H,I,rfl,q1 (r2.lO.mp z)⟩) (fun z=>?_) (by rw[<-r1.length,<-r2.length];exact hz);refine⟨.ref s.heap.objs.size,_,I.laid (t':=s.toks) (o:=.tup (xs++ys)) (fun b ob q=>ba _ q) (aI _) ?_,rfl,q2 (fun w=>z (r2.lO.mpr w)) _ (I.bD.fresh (aI _))⟩;exact⟨by rw[iQ];exact hz,_,r1.append r2,jj.new _ _⟩
end
def zP(n:Nat)(i:Int):Option Nat:=if 0<=i then (if i<n then some i.toNat else none) else if -(n:Int)<=i then some (i+n).toNat else none
def zR{α:Type}(xs:List α)(i:Int):Option α:=(zP xs.length i).bind fun j=>xs[j]?
theorem wn(h:zP n i=some j):seqIndex? i n=some j/\j<n/\-(n:Int)<=i/\i<n:=by
 unfold zP at h;by_cases h0:0<=i
 .rw[ap h0] at h;by_cases h1:i<n
  .rw[ap h1] at h;have e:i.toNat=j:=bG h;exact⟨by rw[seqIndex_of h0 h1,e],by lia,by lia,h1⟩
  .rw[am h1] at h;cases h
 .rw[am h0] at h;by_cases h1:-(n:Int)<=i
  .rw[ap h1] at h;have e:(i+n).toNat=j:=bG h;exact⟨by rw[seqIndex_neg (by lia) h1,e],by lia,h1,by lia⟩
  .rw[am h1] at h;cases h
theorem wo(h:zR xs i=some v):∃j,seqIndex? i xs.length=some j/\xs[j]?=some v/\j<xs.length/\-(xs.length:Int)<=i/\i<xs.length:=by
 unfold zR at h;cases e:zP xs.length i with
 |none=>rw[e] at h;cases h
 |some j=>
  rw[e] at h;obtain⟨h1,h2,h3,h4⟩:=wn e;exact⟨j,h1,h,h2,h3,h4⟩
theorem bz{α:Type}{xs:List α}{j:Nat}{v:α}(h:xs[j]?=some v):zR xs (j:Int)=some v:=by
 have hj:j<xs.length:=(cj.mp h).1;have e:zP xs.length (j:Int)=some j:=by
  unfold zP;rw[ap (by lia),ap (by lia)];simp
 unfold zR;rw[e];exact h
theorem zS(xs:List α)(v:α):zR (xs++[v]) (-1)=some v:=by
 have hl:(xs++[v]).length=xs.length+1:=by simp
 have e:zP (xs++[v]).length (-1)=some xs.length:=by
  unfold zP;rw[hl,am (by decide),ap (by lia)];congr 1;lia
 unfold zR;rw[e];show (xs++[v])[xs.length]?=some v;simp
def CF(b:Expr):Prop:=∀o i,subscripted b false o i=operate [o,i] (getItem o i)
def Oq(X:Cx)(r:R2):Prop:=
 ∀ (value wq:Expr) (ae:List (Addr×Obj)) (s:Shared) (σ:St) (H:Hp) (x y:V) (v u:Value) (Q:VK),aD X ae σ H s->bh x v->bh y u->r x y H Q->
  subscripted wq false v u=operate [v,u] (getItem v u)->wpAny (model X.prog X.w) X.A (subscriptTail value wq v u) (EP X ae σ Q) X.xe s
def UQ(X:Cx)(id:String)(r:V->List V->Hp->VK->Prop):Prop:=
 ∀ (ae:List (Addr×Obj)) (s:Shared) (σ:St) (H:Hp) (x:V) (xs:List V) (v:Value) (us:List Value) (Q:VK),aD X ae σ H s->bh x v->aS xs us->r x xs H Q->
  wpAny (model X.prog X.w) X.A (call (.builtin id) (v::us)) (EP X ae σ Q) X.xe s
section
variable {X:Cx} {a b:Expr} {ta tb:TE} {pos:Pos}
theorem cZ(hr:Oq X r)(ha:PE X a ta)(hb:PE X b tb)(hs:CF b):PE X (.Subscript a b pos) (EF r ta tb):=by
 intro ae s σ H Q I h;exact Subscript_ (FP ha hb I h fun v u s2 x y H2 I2 rx ry q=>hr a b ae s2 σ H2 x y v u Q I2 rx ry q (hs _ _))
def Os(K:PySem.W.Frag):R2:=fun x y H Q=>∃p xs i v,x=.ref p/\y=.int i/\bo K H p xs/\zR xs i=some v/\Q v H
def Ot(K:PySem.W.Frag):R2:=fun x y H Q=>∃p xs i v,x=.ref p/\y=.int i/\bL K H p xs/\zR xs i=some v/\Q v H
theorem cz:Oq X (Os X.K):=by
 intro value wq ae s σ H x y v u Q I rx ry h hs;obtain⟨p,xs,i,z,rfl,rfl,hq,he,q⟩:=h;cases rx;obtain⟨t,rfl⟩:=ry;obtain⟨its,r,pl,hz⟩:=I.list hq;obtain⟨j,h1,h2,h3,h4,h5⟩:=wo he;obtain⟨w,ew,Jz⟩:=r.get h2;have hl:=r.length;have hn:=qC;have dz:EP X ae σ Q w s:=⟨z,H,I,Jz,q⟩
 by_cases h0:0<=i
 .have hj:i.toNat=j:=by
   rw[seqIndex_of h0 h5] at h1;exact bG h1
  exact item_listR pl.isList h0 (by lia) (by rw[hj];simpa using ew) dz hs
 .have hj:(i+(its.toArray.size:Int)).toNat=j:=by
   rw[seqIndex_neg (by lia) h4] at h1;rw[cp,<-hl];exact bG h1
  exact subscriptTail_builtinR (x:=w) pl.isList.typeIs slot_list_getitem.lookup
   (wpAny_getItem_list_neg (Q:=fun r s'=>r=w/\EP X ae σ Q r s') pl.isList (by lia) (by rw[cp] <;> lia) (by lia) (by rw[hj];simpa using ew) ⟨rfl,dz⟩) hs
theorem jo:Oq X (Ot X.K):=by
 intro value wq ae s σ H x y v u Q I rx ry h hs;obtain⟨p,xs,i,z,rfl,rfl,hq,he,q⟩:=h;cases rx;obtain⟨t,rfl⟩:=ry;obtain⟨its,r,pl,hz⟩:=I.tuple hq;obtain⟨j,h1,h2,h3,h4,h5⟩:=wo he;obtain⟨w,ew,Jz⟩:=r.get h2;have hl:=r.length;have hn:=qC;have dz:EP X ae σ Q w s:=⟨z,H,I,Jz,q⟩
 exact subscriptTail_builtinR (x:=w) pl.typeIs slot_tuple_getitem.lookup
  (getItem_tuple (j:=j) (Q:=fun r s'=>r=w/\EP X ae σ Q r s') pl (by lia) (by lia) (by rw[cp,<-hl];exact h1) (by simpa using ew) ⟨rfl,dz⟩) hs
theorem ve(its:List Value)(n j:Nat)(u:Value):Obj.mapSeq (·.setIfInBounds j u) { cls:=.type "list",data:=.seq its.toArray n }={ cls:=.type "list",data:=.seq (its.set j u).toArray n }:=by
 simp[Obj.mapSeq]
theorem aD.lst(I:aD X ae σ H s)(h:H p=some (.lst xs)):
  ∃ (its:List Value) (n:Nat),aS xs its/\s.heap.get? p=some { cls:=.type "list",data:=.seq its.toArray n }/\xs.length<=sizeLine:=by
 obtain⟨z,its,n,r,e⟩:=I.bD p _ h;exact⟨its,n,r,e,z⟩
theorem aD.FY{ae:List (Addr×Obj)}{σ:St}{H:Hp}{s:Shared}{p:Addr}{xs ys:List V}{its its':List Value}{n n':Nat}{f:Obj->Obj}(I:aD X ae σ H s)(h:H p=some (.lst xs))(ho:s.heap.get? p=some { cls:=.type "list",data:=.seq its.toArray n })(hf:f { cls:=.type "list",data:=.seq its.toArray n }={ cls:=.type "list",data:=.seq its'.toArray n' })(r:aS ys its')(hz:ys.length<=sizeLine)(t:Nat):
  aD X ae σ (upd H p (.lst ys)) { s with heap:=s.heap.update p f,toks:=t }:=by
 have e:(s.heap.update p f).get? p=some { cls:=.type "list",data:=.seq its'.toArray n' }:=by
  rw[mj f ho (by rw[hf] <;> rfl),hf]
 refine I.write (x:=p) (e:=p) (by rw[h];trivial) (.inl rfl) (fun b u hb q=>(me _ _ (cS hb)).trans q) ⟨_,e⟩ ?_;exact⟨hz,its',n',r,e⟩
def JQ:V->V->V->Hp->(Hp->Prop)->Prop:=fun o i v H Q=>∃p xs k j,o=.ref p/\i=.int k/\H p=some (.lst xs)/\zP xs.length k=some j/\Q (upd H p (.lst (xs.set j v)))
theorem h9:Jy X JQ:=by
 intro ae s σ H o i v ov iv u Q I ro ri rv h;obtain⟨p,xs,k,j,rfl,rfl,hp,hj,q⟩:=h;cases ro;obtain⟨t,rfl⟩:=ri;obtain⟨its,n,r,ho,hz⟩:=I.lst hp;obtain⟨h1,h2,h3,h4⟩:=wn hj;have hl:=r.length;have hn:=qC;have I':aD X ae σ (upd H p (.lst (xs.set j v))) { s with heap:=s.heap.update p (Obj.mapSeq (·.setIfInBounds j u)) }:=
  I.FY hp ho (ve its n j u) (r.set rv j) (by rw[mz];exact hz) s.toks
 by_cases h0:0<=k
 .have hk:k.toNat=j:=by
   rw[seqIndex_of h0 h4] at h1;exact bG h1
  exact PySem.W.ki_setAt ho h0 (by lia) (by rw[cp,<-hl];exact h4) (by rw[hk];exact⟨_,I',q⟩)
 .have hk:(k+(its.toArray.size:Int)).toNat=j:=by
   rw[seqIndex_neg (by lia) h3] at h1;rw[cp,<-hl];exact bG h1
  exact PySem.W.ki_setBack ho (by lia) (by rw[cp,<-hl];exact h3) (by lia) (by rw[hk];exact⟨_,I',q⟩)
def iY:V->Bool
 |.bV=>true
 |.bl _=>true
 |.int _=>true
 |.str _=>true
 |_=>false
def wr:V->V->Bool
 |.bV,.bV=>true
 |.bl a,.bl b=>a==b
 |.bl a,.int b=>(if a then 1 else 0)==b
 |.int a,.bl b=>a==(if b then 1 else 0)
 |.int a,.int b=>a==b
 |.str a,.str b=>a==b
 |_,_=>false
theorem vf(ry:bh y u)(rx:bh x v)(fy:iY y=true)(fx:iY x=true):SeqAt.EqAt A s u v (wr y x):=by
 cases y with
 |bV=>
  cases ry;cases x with
  |bV=>cases rx;exact SeqAt.EqAt.same _
  |bl b=>cases rx;exact SeqAt.EqAt.none_bool b
  |int b=>obtain⟨t,rfl⟩:=rx;exact SeqAt.EqAt.none_int b t
  |str b=>obtain⟨t,rfl⟩:=rx;exact SeqAt.EqAt.none_str b t
  |_=>exact absurd (show false=true from fx) bq
 |bl a=>
  cases ry;cases x with
  |bV=>cases rx;exact SeqAt.EqAt.bool_none a
  |bl b=>cases rx;exact SeqAt.EqAt.bool_bool a b
  |int b=>obtain⟨t,rfl⟩:=rx;exact SeqAt.EqAt.bool_int a b t
  |str b=>obtain⟨t,rfl⟩:=rx;exact SeqAt.EqAt.bool_str a b t
  |_=>exact absurd (show false=true from fx) bq
 |int a=>
  obtain⟨t',rfl⟩:=ry;cases x with
  |bV=>cases rx;exact SeqAt.EqAt.int_none a t'
  |bl b=>cases rx;exact SeqAt.EqAt.int_bool a t' b
  |int b=>obtain⟨t,rfl⟩:=rx;exact SeqAt.EqAt.int_int a t' b t
  |str b=>obtain⟨t,rfl⟩:=rx;exact SeqAt.EqAt.int_str a t' b t
  |_=>exact absurd (show false=true from fx) bq
 |str a=>
  obtain⟨t',rfl⟩:=ry;cases x with
  |bV=>cases rx;exact SeqAt.EqAt.str_none a t'
  |bl b=>cases rx;exact SeqAt.EqAt.str_bool a t' b
  |int b=>obtain⟨t,rfl⟩:=rx;exact SeqAt.EqAt.str_int a t' b t
  |str b=>obtain⟨t,rfl⟩:=rx;exact SeqAt.EqAt.str_str a t' b t
  |_=>exact absurd (show false=true from fx) bq
 |_=>exact absurd (show false=true from fy) bq
def CG(x:V)(u:Value):Bool:=match u with
 |.none=>wr .bV x
 |.bool b=>wr (.bl b) x
 |.int i _=>wr (.int i) x
 |.str z _=>wr (.str z) x
 |_=>false
theorem zT(r:bh y u)(f:iY y=true):CG x u=wr y x:=by
 cases y with
 |bV=>cases r;rfl
 |bl b=>cases r;rfl
 |int i=>obtain⟨t,rfl⟩:=r;rfl
 |str z=>obtain⟨t,rfl⟩:=r;rfl
 |_=>exact absurd (show false=true from f) bq
theorem qD:∀ {xs:List V} {us:List Value},aS xs us->xs.all iY=true->us.any (CG x)=xs.any fun y=>wr y x
 |_,_,.nil,_=>rfl
 |y::xs,u::us,.cons r t,f=>by
  rw[mD,gY] at f;rw[qr,qr,zT r f.1,qD t f.2]
theorem ni(rx:bh x v)(fx:iY x=true):∀ {xs:List V} {us:List Value},aS xs us->xs.all iY=true->∀u∈us,SeqAt.EqAt A s u v (CG x u)
 |_,_,.nil,_=>fun u hu=>by cases hu
 |y::xs,u::us,.cons r t,f=>fun u' hu=>by
  rw[mD,gY] at f;rcases aY.mp hu with rfl|hu
  .rw[zT r f.1];exact vf r rx f.1 fx
  .exact ni rx fx t f.2 u' hu
def yY(x:V)(xs:List V):Bool:=xs.any fun y=>wr y x
def SC(K:PySem.W.Frag)(FZ:Bool):R2:=fun x y H Q=>∃p xs,y=.ref p/\(bo K H p xs\/bL K H p xs)/\iY x=true/\xs.all iY=true/\Q (.bl (if FZ then !yY x xs else yY x xs)) H
theorem iD:jO X (compareOp .In) (SC X.K false):=by
 intro ae s σ H x y v u Q I rx ry h;obtain⟨p,xs,rfl,hq,fx,fs,q⟩:=h;cases ry;rcases hq with hq|hq
 .obtain⟨its,r,pl,hz⟩:=I.list hq;refine SeqAt.in_listAt (CG x) pl.isList (fun w hw=>ni rx fx r fs w (by simpa using hw)) ⟨.bl _,H,I,rfl,?_⟩;rw[show its.toArray.any (CG x)=its.any (CG x) by simp,qD r fs];exact q
 .obtain⟨its,r,pl,hz⟩:=I.tuple hq;refine SeqAt.in_tupleAt (CG x) pl (fun w hw=>ni rx fx r fs w (by simpa using hw)) ⟨.bl _,H,I,rfl,?_⟩;rw[show its.toArray.any (CG x)=its.any (CG x) by simp,qD r fs];exact q
theorem aW:dZ X (.builtin "len") (fun xs H Q=>∃p ys,xs=[.ref p]/\(bo X.K H p ys\/bL X.K H p ys)/\Q (.int ys.length) H):=by
 intro ae s σ H xs us Q I r h;obtain⟨p,ys,rfl,hq,q⟩:=h;obtain⟨u,rfl,rx⟩:=wg r;cases rx;have hn:=qC;rcases hq with hq|hq
 .obtain⟨its,r',pl,hz⟩:=I.list hq;have fE:=r'.length;exact Calls.call_len_list pl.isList (by simp only[cp] <;> lia) ⟨.int ys.length,H,I.tok _,⟨s.toks+1,by rw[cp,fE]⟩,q⟩
 .obtain⟨its,r',pl,hz⟩:=I.tuple hq;have fE:=r'.length;exact len_tuple pl (by simp only[cp] <;> lia) ⟨.int ys.length,H,I.tok _,⟨s.toks+1,by rw[cp,fE]⟩,q⟩
theorem qE:dZ X (.type "list") (fun xs H Q=>∃p ys,xs=[.ref p]/\(bo X.K H p ys\/bL X.K H p ys)/\∀l,H l=none->Q (.ref l) (upd H l (.lst ys))):=by
 intro ae s σ H xs us Q I r h;obtain⟨p,ys,rfl,hq,q⟩:=h;obtain⟨u,rfl,rx⟩:=wg r;cases rx;have dz:∀ (its:List Value),aS ys its->ys.length<=sizeLine->∀ (h':Heap) (c':Nat),(∀b o',s.heap.get? b=some o'->h'.get? b=some o')->
   h'.get? s.heap.objs.size=some { cls:=.type "list",dict:=none,data:=.seq its.toArray c',slots:=#[] }->EP X ae σ Q (.ref s.heap.objs.size) { s with heap:=h' }:=fun its r' hz h' c' kp e=>
  ⟨.ref s.heap.objs.size,_,I.laid (t':=s.toks) kp (aI _) (show ck X.prog X.w _ h' _ (.lst ys) from ⟨hz,its,c',r',e⟩),rfl,q _ (I.bD.fresh (aI _))⟩
 rcases hq with hq|hq
 .obtain⟨its,r',pl,hz⟩:=I.list hq;have fE:=r'.length;obtain⟨o,ho,hc,n,hd⟩:=pl.isList;exact call_list_seq p (.inl rfl) ho hc hd (fun h' c' kp e=>dz its r' hz h' c' kp e) (by simp only[cp] <;> lia)
 .obtain⟨its,r',pl,hz⟩:=I.tuple hq;have fE:=r'.length;obtain⟨o,ho,hc,n,hd⟩:=pl;exact call_list_seq p (.inr rfl) ho hc hd (fun h' c' kp e=>dz its r' hz h' c' kp e) (by simp only[cp] <;> lia)
theorem bK:dZ X (.type "tuple") (fun xs H Q=>∃p ys,xs=[.ref p]/\((bo X.K H p ys/\∀l,H l=none->Q (.ref l) (upd H l (.tup ys)))\/(bL X.K H p ys/\Q (.ref p) H))):=by
 intro ae s σ H xs us Q I r h;obtain⟨p,ys,rfl,h⟩:=h;obtain⟨u,rfl,rx⟩:=wg r;cases rx;rcases h with ⟨hq,q⟩|⟨hq,q⟩
 .obtain⟨its,r',pl,hz⟩:=I.list hq;have fE:=r'.length;refine call_tuple_list pl.isList (fun h' kp=>?_) (by simp only[cp] <;> lia);have I1:aD X ae σ H { s with heap:=h' }:=I.kept (t':=s.toks) kp;have I2:aD X ae σ (upd H h'.objs.size (.tup ys)) { s with heap:=h'.push { cls:=.type "tuple",data:=.seq its.toArray } }:=
   I1.laid (t':=s.toks) (fun b o e=>ba _ e) (aI _) (show ck X.prog X.w _ _ _ (.tup ys) from ⟨hz,its,r',jj.new _ _⟩)
  exact⟨.ref h'.objs.size,_,I2,rfl,q _ (I1.bD.fresh (aI _))⟩
 .obtain⟨its,r',pl,hz⟩:=I.tuple hq;exact call_tuple_same pl ⟨.ref p,H,I,rfl,q⟩
def SD(K:PySem.W.Frag)(T:String)(x:V)(H:Hp):Prop:=match x with
 |.str _=>T="str"
 |.int _=>T="int"
 |.ref p=>(T="list"/\∃xs,bo K H p xs)\/(T="tuple"/\∃o,K.lookup p=some o/\o.cls=.type "tuple"/\o.dict=none)\/
   (T="dict"/\((∃jK,H p=some (.dK jK))\/∃jK,H p=some (.dT jK)))\/(T="set"/\∃S n,H p=some (.set S n))
 |_=>False
theorem F0(I:aD X ae σ H s)(r:bh x v)(ty:SD X.K T x H):
  s.TypeIs v T/\∀a,v=.ref a->∃ob,s.heap.get? a=some ob/\ob.dict=none:=by
 cases x with
 |str z=>
  obtain⟨t,rfl⟩:=r;cases (show T="str" from ty);exact⟨typeIs_str s z t,fun _ e=>nomatch e⟩
 |int i=>
  obtain⟨t,rfl⟩:=r;cases (show T="int" from ty);exact⟨typeIs_int s i t,fun _ e=>nomatch e⟩
 |ref p=>
  cases r;rcases ty with ⟨rfl,xs,hq⟩|⟨rfl,o,hk,hc,hd⟩|⟨rfl,hk⟩|⟨rfl,S,n,hk⟩
  .obtain⟨its,_,pl,_⟩:=I.list hq;refine⟨pl.isList.typeIs,fun a e=>?_⟩;cases e;obtain⟨o,n,e,c,hd,_⟩:=pl;exact⟨o,e,hd⟩
  .refine⟨⟨o,I.k6 p o hk,hc⟩,fun a e=>?_⟩;cases e;exact⟨o,I.k6 _ o hk,hd⟩
  .have z:∃o,s.heap.get? p=some o/\o.ExactDict:=by
    rcases hk with ⟨jK,hk⟩|⟨jK,hk⟩
    .obtain⟨_,_,_,_,o,_,_,e,ex,_⟩:=I.bD p _ hk;exact⟨o,e,ex⟩
    .obtain⟨_,_,_,_,o,_,_,e,ex,_⟩:=I.bD p _ hk;exact⟨o,e,ex⟩
   obtain⟨o,e,ex⟩:=z;refine⟨⟨o,e,ex.1⟩,fun a e2=>?_⟩;cases e2;exact⟨o,e,ex.2.1⟩
  .obtain⟨o,_,_,_,e,ex,_⟩:=I.bD p _ hk;refine⟨⟨o,e,ex.1⟩,fun a e2=>?_⟩;cases e2;exact⟨o,e,ex.2.1⟩
 |_=>exact False.elim ty
def UR(K:PySem.W.Frag)(T:String)(r:V->List V->Hp->VK->Prop)(to:TE)(t:TA):TE:=fun σ H Q=>to σ H fun x H1=>SD K T x H1/\t σ H1 fun xs H2=>r x xs H2 Q
variable {o e:Expr} {es:List Expr} {to:TE} {t:TA} {name:Str} {ls lu:Pos} {T id:String} {r:V->List V->Hp->VK->Prop}
theorem nj(pa:PlainAttrs T)(slot:Slot T name id)(US:typeOf (.builtin id)=pure (.type "method_descriptor"))(hm:UQ X id r)(ho:PE X o to)(ha:PA X (e::es) t)(JR:attributeBase o name X.env (eval o X.env)=eval o X.env:=by rfl)(Ou:((backTo lu (starEach (e::es) X.env)).all (fun x=>!x.1)&&(backToKw lu (keywordEach [] X.env)).all (fun x=>x.1.isSome)
   && decide ((e::es).length+([]:List Keyword).length+(if ([]:List Keyword).isEmpty then 0 else 1)<30))=true:=by rfl)(JS:(ls.endLine==lu.line)=true:=by rfl)(hs:starEach (e::es) X.env=(false,eval e X.env)::starEach es X.env:=by rfl)(vg:(backTo lu (starEach es X.env)).any (·.1)=false:=by rfl):
  PE X (.Call (.Attribute o name ls) (e::es) [] lu) (UR X.K T r to t):=by
 intro ae s σ H Q I h;refine wpAny_Call_method_late JR Ou JS rfl (cC (ho ae s σ H _ I h) fun v s1 ⟨x,H1,I1,r1,ty,q1⟩=>?_);obtain⟨h1,h2⟩:=F0 I1 r1 ty;refine⟨T,id,pa,slot,US,h1,h2,?_⟩;have hA:=ha lu ae s1 σ H1 _ I1 q1;rw[hs] at hA |-;refine Calls.callWith_builtin (by show (false||(backTo lu (starEach es X.env)).any (·.1))=false;rw[vg] <;> rfl) (Calls.evalArgs_plain ?_);exact cC hA fun us s2 ⟨vs,H2,I2,r2,q2⟩=>hm ae s2 σ H2 x vs v us Q I2 r1 r2 q2
end
def UT(X:Cx)(id:String)(r:V->List V->Hp->VK->Prop):Prop:=
 ∀ (ae:List (Addr×Obj)) (s:Shared) (σ:St) (H:Hp) (x:V) (xs:List V) (v:Value) (us:List Value) (Q:VK),aD X ae σ H s->bh x v->aS xs us->r x xs H Q->
  wpAny (model X.prog X.w) X.A (call (.builtin id) (v::us)) (EP X ae σ Q) X.xe s
theorem aS.one{x:V}{us:List Value}(h:aS [x] us):∃u,us=[u]/\bh x u:=by
 cases h with
 |cons r h=>cases h;exact⟨_,rfl,r⟩
theorem aS.two{x y:V}{us:List Value}(h:aS [x,y] us):∃u v,us=[u,v]/\bh x u/\bh y v:=by
 cases h with
 |cons r h=>
  cases h with
  |cons q h=>cases h;exact⟨_,_,rfl,r,q⟩
section
variable {X:Cx} {ae:List (Addr×Obj)} {σ:St} {H:Hp} {s:Shared} {l b:Addr} {xs ys zs:List V}
theorem aD.Ov{its its':List Value}{n:Nat}{f:Array Value->Array Value}{t':Nat}(I:aD X ae σ H s)(hH:H l=some (.lst xs))(e:s.heap.get? l=some { cls:=.type "list",data:=.seq its.toArray n })(hf:f its.toArray=its'.toArray)(hv:aS ys its')(hz:ys.length<=sizeLine):
  aD X ae σ (upd H l (.lst ys)) { s with heap:=s.heap.update l (Obj.mapSeq f),toks:=t' }:=by
 have q:=PySem.IsL.update e f;rw[hf] at q;refine I.write (x:=l) (e:=l) (by rw[hH];exact trivial) (.inl rfl) (fun b' u hb hu=>(me s.heap (Obj.mapSeq f) (cS hb)).trans hu) ⟨_,q⟩ ?_;exact⟨hz,its',_,hv,q⟩
theorem aD.Ow(I:aD X ae σ H s)(hv:aS ys its)(hz:ys.length<=sizeLine):
  aD X ae σ (upd H s.heap.objs.size (.lst ys)) { s with heap:=s.heap.push { cls:=.type "list",data:=.seq its.toArray },toks:=t' }:=
 I.laid (fun _ _ q=>ba _ q) (aI _) ⟨hz,its,0,hv,bv _ rfl⟩
theorem aD.fresh(I:aD X ae σ H s):H s.heap.objs.size=none:=I.bD.fresh (aI _)
theorem aD.Ox(I:aD X ae σ H s)(hH:H l=some (.lst xs)):xs.length<=sizeLine/\∃ (its:List Value) (n:Nat),aS xs its/\xs.length=its.length/\s.heap.get? l=some { cls:=.type "list",data:=.seq its.toArray n }:=by
 obtain⟨z,its,n,r,e⟩:=I.bD l _ hH;exact⟨z,its,n,r,r.length,e⟩
end
section
variable {X:Cx}
def CH:V->List V->Hp->VK->Prop:=fun x vs H Q=>∃l xs y,x=.ref l/\vs=[y]/\H l=some (.lst xs)/\xs.length<sizeLine/\Q .bV (upd H l (.lst (xs++[y])))
theorem dw:UT X "list.append" CH:=by
 intro ae s σ H x vs v us Q I rx rv h;obtain⟨l,xs,y,rfl,rfl,hH,hz,q⟩:=h;cases rx;obtain⟨u,rfl,ru⟩:=rv.one;obtain⟨z,its,n,r,hl,e⟩:=I.Ox hH;refine call_meets F.slot_list_append ⟨_,e,rfl⟩ F.entry_list_append (F.args_list_append_2 _ _) (PySem.list_append l its.toArray n u (by rw[cp];lia)) ⟨e,?_⟩;refine⟨.bV,_,I.Ov (its':=its++[u]) hH e (by simp) (r.append (.cons ru .nil)) ?_,rfl,q⟩;rw[iQ,List.length_singleton];lia
end
section
variable {prog:Program} {w:World} {A:Around} {E:Value->Shared->Prop} {s:Shared}
end
section
variable {X:Cx}
end
end L2
namespace SE
open PySem PySem.W PySem.Calls PyProof.Rows
theorem lw:∀ (ns:List Int) (vs:List Value),WellAll P h vs (ns.map WData.int)->IntsAre vs ns:=by
 intro ns;induction ns with
 |nil=>
  intro vs w;rw[List.map_nil] at w;cases w;exact .nil
 |cons n ns ih=>
  intro vs w;rw[iT] at w;cases w with
  |cons a b=>
   cases a;exact .cons _ _ (ih _ b)
theorem xN{l:OpenLaw}{n:Nat}(hn:l.most=some n){P:Params}{h:Heap}{args:List WData}{zU:List Value}(CI:l.row.toRowW.claim.pre args=true)(Oy:WellAll P h zU args):
  ∃a vs ns,zU=[Value.ref a]/\args=[WData.list (ns.map WData.int)]/\h.get? a=some { cls:=.type "list",data:=.seq vs.toArray }/\IntsAre vs ns/\ns.length<=n:=by
 have UU:WShape.hasAll [] args [.list .int]=true:=(pre_splitW CI).1;have hc:l.pre.holds [] { args:=args }=true:=(pre_splitW CI).2;obtain⟨d,r,rfl,h1,h2⟩:=hasAllW_cons UU;obtain rfl:=hasAllW_nil h2;obtain⟨xs,rfl,h3⟩:=hasW_list h1;obtain⟨ns,rfl⟩:=items_int h3;have fE:ns.length<=n:=by
  unfold OpenLaw.pre at hc;have h4:(WTm.not (.lt (.lit (.int (n:Int))) (.len (.arg 0)))).holds [] { args:=[.list (ns.map .int)] }=true:=by
   have h4:=(holds_andW hc).1;rw[hn] at h4;exact h4
  have h5:=condW_of h4 (w_not (w_lt w_lit (w_len_list (w_arg rfl))));rw[a_] at h5;refine Nat.le_of_not_lt fun q=>?_;have q':(n:Int)<((ns.length:Nat):Int):=by lia
  first
   |(rw[cf q'] at h5;exact absurd h5 (by decide))
   |(simp at h5;lia)
 cases Oy with
 |cons w1 w2=>
  cases w2;cases w1 with
  |list ho oJ=>exact⟨_,_,ns,rfl,rfl,ho,lw ns _ oJ,fE⟩
theorem xO(l:OpenLaw)(args:List WData):l.row.toRowW.claim.post args (.bool true) args=true:=
 postW_of (r:=l.row.toRowW) (X:=(true==true))
  (show WShape.has [] (.bool true) .bool=true by first|rfl|decide|simp[WShape.has,WShape.arms,WShape.armsAll])
  (show (WTm.eq .res (.lit (.bool true))).value [] { args:=args,res:=some (.bool true),after:=args }=some (.bool (true==true)) from w_eq_bool (w_res rfl) w_lit) rfl
theorem rZ{l:OpenLaw}{n:Nat}{q:Program}{pj:List Str}{XP:(Str->Option Value)->Heap->Prop}{YP:World->Heap->Prop}{d:DefRec}(hn:l.most=some n)(JT:d.params.defaults=[])(call:∀ (w:World) (s₀ s₁:Shared) (mg mb:Str->Option Value) (fa:Addr) (o:Obj) (pm cd jA:Value) (a:Addr) (vs:List Value) (ns:List Int),
   Ground q pj [] XP w s₀ mg mb s₁.heap->YP w s₁.heap->
   s₁.heap.get? fa=some o->o.data=.func (docDef d.name d.params d.body d.scope pm cd jA)->s₁.heap.CodeRec cd d.name->mg d.name=some (.ref fa)->
   s₁.heap.get? a=some { cls:=.type "list",data:=.seq vs.toArray }->IntsAre vs ns->ns.length<=n->s₁.gens=#[]->
   codeAny (model l.prog w) callerA (.call (.ref fa) ⟨[.ref a],[]⟩) (fun r s'=>r=.ok (.ret (.bool true))/\OldK s₁.heap s'.heap/\s'.os=s₁.os/\AllBare s'.gens) s₁):
  WalkO q pj XP YP l.row.toRowW d [] (fun f vs=>PySem.call f vs):=by
 intro w s₀ s₁ mg mb G Y fa o pm cd jA dV kV ho hd ot hD JU hg args zU as CI UV XW Oy Nb;obtain rfl:dV=.none:=Dflts.none hD JT;obtain rfl:kV=.none:=Dflts.noKw hD;obtain⟨a,vs,ns,rfl,rfl,F1,zV,fE⟩:=xN hn CI Oy;refine enter_call (km (call w s₀ s₁ mg mb fa o pm cd jA a vs ns G Y ho (fd_plain hd) ot JU F1 zV fE hg) fun r s' hq=>?_);obtain⟨rfl,h2,h3,h4⟩:=hq;exact⟨.inl ⟨.bool true,.bool true,[],rfl,fun _=>rfl,.bool true,xO l _,fun _=>⟨List.Pairwise.nil,fun _ hm=>(nomatch hm)⟩⟩,h2,h3,h4⟩
section
variable {prog:Program} {w:World} {A:Around} {E:Value->Shared->Prop} {s:Shared} {K:Frag}
end
end SE
namespace L2
open PySem PySem.Spec PyProof.Rows
theorem kF:∀ {vs:List Value} {ns:List Int},IntsAre vs ns->aS (ns.map V.int) vs
 |_,_,.nil=>.nil
 |_,_,.cons n t h=>.cons ⟨t,rfl⟩ (kF h)
def dh(s:Stmt)(j:Nat):Stmt:=match s with
 |.ClassDef _ _ _ body _ _ _ _ _ _ _=>body.getD j (.Pass ⟨0,0,0,0⟩)
 |_=>.Pass ⟨0,0,0,0⟩
def b9(s:Stmt):Arguments:=match s with
 |.FunctionDef _ a _ _ _ _ _ _ _ _=>a
 |_=>{ posonlyargs:=[],args:=[],vararg:=none,kwonlyargs:=[],kw_defaults:=[],kwarg:=none,defaults:=[] }
def bp(s:Stmt):List Stmt:=match s with
 |.FunctionDef _ _ b _ _ _ _ _ _ _=>b
 |_=>[]
def ak(s:Stmt):Scope:=match s with
 |.FunctionDef _ _ _ _ _ _ sc _ _ _=>sc
 |_=>{ kind:=.function,names:=[],isGenerator:=false,isCoroutine:=false }
abbrev aX:rN:=fun _ _ _ _ _ _=>False
abbrev E0:XK:=fun _ _ _=>False
theorem aG:fD aX X E0:=fun _ _ _ _ _ _ _ h=>h.elim
structure dU(K:PySem.W.Frag)(x qual:Str)(st:Stmt)(f:Addr)(fd:FuncData):Prop where
 ex:∃ (oc:Value) (od:Option Addr) (kV jA pm:Value) (an:Option Addr) (cI ct:Value) (rY:Array (Option Value)),
  fd=PySem.W.fnOf x qual (b9 st) (bp st) (ak st) .none kV jA pm an cI ct/\K.lookup f=some ⟨oc,od,.func fd,rY⟩/\PySem.W.codeIn K cI qual=true
 kp:PySem.W.keepIn K (.ref f)=true
section
variable {P:Program} {w:World} {K:PySem.W.Frag} {mg:Str->Option Value} {base:Heap}
theorem dU.ok{x qual:Str}{st:Stmt}{f:Addr}{fd:FuncData}{N ps:List Str}{k:Nat}{sp:Sp}(F:dU K x qual st f fd)(S:az N ps (ak st))(len:∀vs H Q E,sp vs H Q E->vs.length=ps.length)(ng:∀ (cI:Value) (A:Around) (outer:List Env) (s:Shared) (H:Hp) (vs:List V) (Q:VK) (E:XK),bt k (A.deeper (envOfC qual (ak st) s.heap.objs.size f cI))->sp vs H Q E->
   ∃t,tU (gu aX P w K mg base N qual (ak st) f cI A outer s H E).EE (bp st) t/\t { nx:=fun _ H'=>Q .bV H',rt:=Q } (start N vs) H):a9 P w K mg base aX (k+1) f fd ps sp:=by
 obtain⟨oc,od,kV,jA,pm,an,cI,ct,rY,rfl,lk,ot⟩:=F.ex;refine zN lk ot S len fun A outer s H vs Q E hr yX=>?_;obtain⟨t,h,q⟩:=ng cI A outer s H vs Q E hr yX;exact⟨t,h.EE,q⟩
theorem dU.binds{x qual:Str}{st:Stmt}{f:Addr}{fd:FuncData}{ps:List Str}(F:dU K x qual st f fd)(h:∀ (kV jA pm:Value) (an:Option Addr) (cI ct:Value) (us:List Value),us.length=ps.length->bindArgs (PySem.W.fnOf x qual (b9 st) (bp st) (ak st) .none kV jA pm an cI ct) ⟨us,[]⟩=pure (ps.zip us)):fV K fd ps []:=by
 obtain⟨oc,od,kV,jA,pm,an,cI,ct,rY,rfl,lk,ot⟩:=F.ex;exact .all (h kV jA pm an cI ct)
theorem nq{x qual:Str}{st:Stmt}{f:Addr}{oc:Value}{od an:Option Addr}{rY:Array (Option Value)}{kV jA pm cI ct:Value}(l:K.lookup f=some ⟨oc,od,.func (PySem.W.fnOf x qual (b9 st) (bp st) (ak st) .none kV jA pm an cI ct),rY⟩)(c:PySem.W.codeIn K cI qual=true)(k:PySem.W.keepIn K (.ref f)=true):dU K x qual st f (PySem.W.fnOf x qual (b9 st) (bp st) (ak st) .none kV jA pm an cI ct):=⟨⟨oc,od,kV,jA,pm,an,cI,ct,rY,rfl,l,c⟩,k⟩
end
section
variable {X:Cx}
theorem pv(i:Nat)(hN:X.N[i]?=some x:=by rfl)(hv:Jk X.env.scope x:=by first|exact Or.inl rfl|exact Or.inr (Or.inl rfl)|exact Or.inr (Or.inr rfl))(hd:(x==("__debug__":Str))=false:=by decide)(ot:(x==("__classdict__":Str))=false:=by decide):PE X (.Name x pos) (cN i):=FH hN hv hd ot
end
theorem eU{A B:Prop}(h:B):if false=true then A else B:=by
 rw[am bq];exact h
theorem kG{A B:Prop}(h:A):if true=true then A else B:=by
 rw[ap rfl];exact h
theorem qF{c A B:Prop}[Decidable c](h1:c->A)(h2:¬ c->B):if c then A else B:=by
 by_cases h:c
 .rw[ap h];exact h1 h
 .rw[am h];exact h2 h
def aM(H H':Hp):Prop:=∀b o,H b=some o->H' b=some o
theorem aM.refl(H:Hp):aM H H:=fun _ _ h=>h
theorem aM.trans(a:aM H H1)(b:aM H1 H2):aM H H2:=fun c o h=>b c o (a c o h)
theorem aM.free(e:aM H H')(h:H' l=Option.none):H l=Option.none:=by
 cases q:H l with
 |none=>rfl
 |some o=>
  rw[e l o q] at h;cases h
def EJ(src:List (Option Nat))(σ:St):St:=src.map fun o=>match o with|some j=>σ.getD j none|none=>none
theorem CJ{src:List (Option Nat)}{σ:St}{i:Nat}{v:V}(h:(EJ src σ)[i]?=some (some v)):∃j,src[i]?=some (some j)/\σ[j]?=some (some v):=by
 unfold EJ at h;rw[bJ] at h;cases e:src[i]? with
 |none=>rw[e] at h;cases h
 |some o=>
  rw[e] at h;cases o with
  |none=>cases h
  |some j=>
   refine⟨j,rfl,?_⟩;have h':σ.getD j none=some v:=bG h;rw[ce] at h';cases e2:σ[j]? with
   |none=>rw[e2] at h';cases h'
   |some o=>rw[e2] at h';rw[show o=some v from h']
structure eV(NB:List Str)(src:List (Option Nat))(scope:Scope)(X:Cx):Prop where
 kind:scope.kind=.function
 nd:NB.Nodup
 len:src.length=NB.length
 cells:∀y∈scope.names,y.2=.cell->scope.names.lookup y.1=some .cell
 names:∀y∈scope.names,y.2=.local->scope.names.lookup y.1=some .local
 free:∀y∈scope.names,y.2=.free->X.env.scope.names.lookup y.1=some .cell\/X.env.scope.names.lookup y.1=some .free
 src:∀ (i:Nat) (x:Str) (j:Nat),NB[i]?=some x->src[i]?=some (some j)->X.N[j]?=some x/\scope.names.lookup x=some .free
def qG(scope:Scope)(x:Str):Bool:=match scope.names.lookup x with
 |some .cell=>true
 |_=>false
theorem r0:qG scope x=true↔scope.names.lookup x=some .cell:=by
 unfold qG;split
 .rename_i h;exact⟨fun _=>h,fun _=>rfl⟩
 .rename_i h;exact⟨fun z=>(by cases z),fun z=>absurd z h⟩
def wu(X:Cx)(NB:List Str)(scope:Scope)(cl:List (Str×Addr))(C:Addr)(s₃:Shared)(H₃:Hp)(fp:List Addr):Cx:=
 { X with N:=NB,s₀:=s₃,H₀:=H₃,env:=compEnvC scope cl C X.env,outer:=X.stack,stack:=X.stack,ex:=fp,fn:=qG scope,pn:=[],xe:=fun _ _=>False }
theorem jp:∀ (names:List (Str×NameKind)) (di:List (Str×Addr)),(∀y∈names,y.2=NameKind.free->∃c,env.cells.lookup y.1=some c)->(∀x c,di.lookup x=some c->env.cells.lookup x=some c)->
  ∃cl,(forIn names di fun x r=>(if (x.2==NameKind.free)=true then (do let a <- cellOf env x.1;pure (ForInStep.yield ((x.1,a)::r))) else pure (ForInStep.yield r):Sem (ForInStep (List (Str×Addr)))))=(pure cl:Sem (List (Str×Addr)))/\
   (∀x c,cl.lookup x=some c->env.cells.lookup x=some c)/\(∀x c,di.lookup x=some c->∃c',cl.lookup x=some c')/\∀x,(x,NameKind.free)∈names->∃c,cl.lookup x=some c
 |[],di,_,ha=>⟨di,by rw[g7],ha,fun x c h=>⟨c,h⟩,fun x h=>nomatch h⟩
 |(n,k)::r,di,hf,ha=>by
  by_cases hk:k=NameKind.free
  .subst hk;obtain⟨c,hc⟩:=hf (n,NameKind.free) bX rfl;have JV:∀x c',((n,c)::di).lookup x=some c'->env.cells.lookup x=some c':=fun x c' h=>by
    rw[eD] at h;cases hx:x==n with
    |true=>
     rw[hx] at h;cases h;have:x=n:=by simpa using hx
     rw[this];exact hc
    |false=>rw[hx] at h;exact ha x c' h
   obtain⟨cl,e1,e2,e3,e4⟩:=jp r ((n,c)::di) (fun y hy=>hf y (bA _ hy)) JV;refine⟨cl,?_,e2,fun x c' h=>?_,fun x h=>?_⟩
   .rw[gZ];have ec:cellOf env n=pure c:=by unfold cellOf;rw[hc]
    have e0:(if ((n,NameKind.free).2==NameKind.free)=true then (do let a <- cellOf env (n,NameKind.free).1;pure (ForInStep.yield (((n,NameKind.free).1,a)::di))) else pure (ForInStep.yield di):Sem (ForInStep (List (Str×Addr))))=pure (ForInStep.yield ((n,c)::di)):=by
     rw[ap (show (NameKind.free==NameKind.free)=true by decide)];show cellOf env n >>= _=_;rw[ec];rfl
    rw[e0];exact e1
   .cases hx:x==n with
    |true=>exact e3 x c (by rw[eD,hx])
    |false=>exact e3 x c' (by rw[eD,hx];exact h)
   .rcases aY.mp h with h|h
    .cases h;exact e3 n c (by rw[eD];simp)
    .exact e4 x h
  .obtain⟨cl,e1,e2,e3,e4⟩:=jp r di (fun y hy=>hf y (bA _ hy)) ha;refine⟨cl,?_,e2,e3,fun x h=>?_⟩
   .rw[gZ];have hb:(k==NameKind.free)=false:=by simpa using hk
    have e0:(if ((n,k).2==NameKind.free)=true then (do let a <- cellOf env (n,k).1;pure (ForInStep.yield (((n,k).1,a)::di))) else pure (ForInStep.yield di):Sem (ForInStep (List (Str×Addr))))=pure (ForInStep.yield di):=by
     rw[am (by show ¬ (k==NameKind.free)=true;rw[hb];decide)]
    rw[e0];exact e1
   .rcases aY.mp h with h|h
    .cases h;exact absurd rfl hk
    .exact e4 x h
theorem jq(ok:X.Ok)(S:eV NB src scope X):
  ∃cl,closureFor scope X.env=pure cl/\(∀x c,cl.lookup x=some c->X.env.cells.lookup x=some c)/\∀x,(x,NameKind.free)∈scope.names->∃c,cl.lookup x=some c:=by
 obtain⟨cl,e1,e2,_,e4⟩:=jp (env:=X.env) scope.names [] (fun y hy hk=>ok.has y.1 (S.free y hy hk)) (fun x c h=>nomatch h);refine⟨cl,?_,e2,e4⟩;unfold closureFor;simp only[bind_pure];exact e1
theorem qH(h:scope.names.lookup x=some .free):(relabel scope env).names.lookup x=some .cell\/(relabel scope env).names.lookup x=some .free:=by
 have go:∀names:List (Str×NameKind),names.lookup x=some .free->
   (names.map fun (n,k)=>if (k==NameKind.free&&env.scope.kind==.function&&env.kindOf n==some .cell) then (n,NameKind.cell) else (n,k)).lookup x=some .cell\/
   (names.map fun (n,k)=>if (k==NameKind.free&&env.scope.kind==.function&&env.kindOf n==some .cell) then (n,NameKind.cell) else (n,k)).lookup x=some .free:=by
  intro names;induction names with
  |nil=>intro h;simp at h
  |cons y r ih=>
   intro h;obtain⟨n,k⟩:=y;rw[eD] at h;rw[iT];cases hx:x==n with
   |true=>
    rw[hx] at h;cases h;by_cases hc:(NameKind.free==NameKind.free&&env.scope.kind==.function&&env.kindOf n==some .cell)=true
    .left;show List.lookup x ((if _ then _ else _)::_)=_;rw[ap hc,eD,hx]
    .right;show List.lookup x ((if _ then _ else _)::_)=_;rw[am hc,eD,hx]
   |false=>
    rw[hx] at h;by_cases hc:(k==NameKind.free&&env.scope.kind==.function&&env.kindOf n==some .cell)=true
    .show List.lookup x ((if _ then _ else _)::_)=_\/List.lookup x ((if _ then _ else _)::_)=_;rw[ap hc,eD,hx];exact ih h
    .show List.lookup x ((if _ then _ else _)::_)=_\/List.lookup x ((if _ then _ else _)::_)=_;rw[am hc,eD,hx];exact ih h
 exact go scope.names h
theorem jP(h:(relabel scope env).names.lookup x=some k)(hk:k=.cell\/k=.free):(x,NameKind.free)∈scope.names\/(x,NameKind.cell)∈scope.names:=by
 have m:=kW h;obtain⟨⟨n,k'⟩,hm,e⟩:=bg.mp m;by_cases q:(k'==NameKind.free&&env.scope.kind==.function&&env.kindOf n==some .cell)=true
 .have e':(n,NameKind.cell)=(x,k):=by simpa [q] using e
  have k1:k'=NameKind.free:=by
   simp only[gY,eG] at q;exact q.1.1
  cases e';left;rw[<-k1];exact hm
 .have e':(n,k')=(x,k):=by simpa [q] using e
  cases e';rcases hk with z|z
  .subst z;exact .inr hm
  .subst z;exact .inl hm
theorem kH:∀ (names:List (Str×NameKind)) (h:Heap) (di:List (Str×Addr)) (x:Str) (c:Addr),(cellsFrom h.objs.size names di).lookup x=some c->di.lookup x=some c\/(h.objs.size<=c/\(pushCells h names).IsCell c none)
 |[],_,_,_,_,e=>.inl e
 |(name,kind)::r,h,di,x,c,e=>by
  unfold cellsFrom at e;unfold pushCells;split at e
  .rename_i hk;rw[ap hk];have iW:(h.push { cls:=.type "cell",data:=.cell none }).objs.size=h.objs.size+1:=fU ..;rw[<-iW] at e;rcases kH r _ _ x c e with z|⟨z1,z2⟩
   .rw[eD] at z;cases hx:x==name with
    |true=>
     rw[hx] at z;cases z;exact .inr ⟨aI _,_,pushCells_keeps r _ _ _ (bv _ rfl),rfl⟩
    |false=>rw[hx] at z;exact .inl z
   .exact .inr ⟨by lia,z2⟩
  .rename_i hk;rw[am hk];exact kH r h di x c e
theorem pk:∀ (names:List (Str×NameKind)) (n:Nat) (di:List (Str×Addr)) (x:Str),(x,NameKind.cell)∈names->∃c,n<=c/\(cellsFrom n names di).lookup x=some c:=by
 have up:∀ (names:List (Str×NameKind)) (n m:Nat) (di:List (Str×Addr)) (x:Str) (c:Addr),di.lookup x=some c->m<=c->m<=n->∃c',m<=c'/\(cellsFrom n names di).lookup x=some c':=by
  intro names;induction names with
  |nil=>intro n m di x c e h _;exact⟨c,h,e⟩
  |cons y r ih=>
   intro n m di x c e h hm;obtain⟨name,kind⟩:=y;unfold cellsFrom;split
   .cases hx:x==name with
    |true=>exact ih (n+1) m _ x n (by rw[eD,hx]) hm (by lia)
    |false=>exact ih (n+1) m _ x c (by rw[eD,hx];exact e) h (by lia)
   .exact ih n m di x c e h hm
 intro names;induction names with
 |nil=>intro n di x h;cases h
 |cons y r ih=>
  intro n di x h;obtain⟨name,kind⟩:=y;unfold cellsFrom;rcases aY.mp h with z|z
  .cases z;rw[ap (by decide)];exact up r (n+1) n _ x n (by rw[eD];simp) (aI _) (by lia)
  .split
   .obtain⟨c,h1,h2⟩:=ih (n+1) ((name,n)::di) x z;exact⟨c,by lia,h2⟩
   .exact ih n di x z
theorem iE:∀ (names:List (Str×NameKind)) (n:Nat) (di:List (Str×Addr)) (x:Str) (c:Addr),di.lookup x=some c->(x,NameKind.cell)∉names->(cellsFrom n names di).lookup x=some c
 |[],_,_,_,_,e,_=>e
 |(name,kind)::r,n,di,x,c,e,h=>by
  have hr:(x,NameKind.cell)∉r:=fun z=>h (bA _ z);unfold cellsFrom;split
  .rename_i hk;have qI:(x==name)=false:=by
    cases hx:x==name with
    |false=>rfl
    |true=>
     have e1:x=name:=by simpa using hx
     have e2:kind=.cell:=by simpa using hk
     exact absurd (by rw[e1,e2];exact bX) h
   exact iE r (n+1) _ x c (by rw[eD,qI];exact e) hr
  .exact iE r n di x c e hr
theorem kI:∀ (names:List (Str×NameKind)) (n:Nat) (di:List (Str×Addr)),(∀x y c,di.lookup x=some c->di.lookup y=some c->x=y)->(∀x c,di.lookup x=some c->c<n)->∀x y c,(cellsFrom n names di).lookup x=some c->(cellsFrom n names di).lookup y=some c->x=y
 |[],_,_,hi,_=>hi
 |(name,kind)::r,n,di,hi,hl=>by
  unfold cellsFrom;split
  .refine kI r (n+1) _ (fun x y c h1 h2=>?_) (fun x c h=>?_)
   .rw[eD] at h1 h2;cases hx:x==name <;> cases hy:y==name <;> rw[hx] at h1 <;> rw[hy] at h2
    .exact hi x y c h1 h2
    .cases h2;exact absurd (hl x _ h1) (eF _)
    .cases h1;exact absurd (hl y _ h2) (eF _)
    .have e1:x=name:=by simpa using hx
     have e2:y=name:=by simpa using hy
     rw[e1,e2]
   .rw[eD] at h;cases hx:x==name <;> rw[hx] at h
    .exact bQ (hl x c h)
    .cases h;exact iR _
  .exact kI r n di hi hl
section
variable {X:Cx} {ae:List (Addr×Obj)} {σ:St} {H:Hp} {s:Shared} {NB:List Str} {src:List (Option Nat)} {scope:Scope} {cl:List (Str×Addr)} {fp:List Addr} {h₁:Heap} {t₁:Nat}
theorem CK(I:aD X ae σ H s)(S:eV NB src scope X)(c1:∀x c,cl.lookup x=some c->X.env.cells.lookup x=some c)(c2:∀x,(x,NameKind.free)∈scope.names->∃c,cl.lookup x=some c)(hf:∀b∈fp,fA X ae H b)(JW:∀b∈fp,b<s.heap.objs.size){m:Str->Option Value}(hn:h₁.Ns s.heap.objs.size m)(hk:∀b o,s.heap.get? b=some o->h₁.get? b=some o)(xP:∀x c,(cellsFrom (s.heap.objs.size+1) scope.names cl).lookup x=some c->cl.lookup x=some c\/(s.heap.objs.size<c/\h₁.IsCell c none)):
  aD (wu X NB scope (cellsFrom (s.heap.objs.size+1) scope.names cl) s.heap.objs.size s H fp) [] (EJ src σ) H { s with heap:=h₁,toks:=t₁ }:=by
 have B8:∀b∈kv X.stack,b∈X.env.locals::X.fs:=I.qz;have zW:∀x c,cl.lookup x=some c->∃v,s.heap.IsCell c v:=fun x c e=>I.cell x c (c1 x c e);have Oz:∀x c,cl.lookup x=some c->c<s.heap.objs.size:=fun x c e=>by obtain⟨v,o,ho,_⟩:=zW x c e;exact aU ho
 refine⟨⟨I.ok.mod,S.kind,I.ok.glob,I.ok.blt,aI _,kI _ _ _ (fun x y c e1 e2=>I.ok.inj x y c (c1 x c e1) (c1 y c e2)) (fun x c e=>bQ (Oz x c e)),fun x hx=>?_,fun x c z e=>?_,I.ok.hd,I.ok.frames,.inl rfl,fun b hb=>⟨?_,fun x c e=>?_⟩,I.bs,bn I.ok.B9 I.sz,fun b o e hb=>?_,fun b hb=>?_,I.stack,I.qA⟩,
  rfl,I.bare,Un.kept hk,⟨m,hn,fun i x v e1 e2 e3=>?_⟩,fun x c e=>?_,I.bD.fresh (aI _),fun x c e=>?_,fun p hp=>absurd (show p∈([]:List (Addr×Obj)) from hp) (by simp),I.bD.kept hk,?_⟩
 .have CL:(x,NameKind.free)∈scope.names\/(x,NameKind.cell)∈scope.names:=by
   rcases hx with hx|hx
   .exact jP hx (.inl rfl)
   .exact jP hx (.inr rfl)
  by_cases hc:(x,NameKind.cell)∈scope.names
  .obtain⟨c,_,e⟩:=pk scope.names (s.heap.objs.size+1) cl x hc;exact⟨c,e⟩
  .rcases CL with z|z
   .obtain⟨c,e⟩:=c2 x z;exact⟨c,iE _ _ _ _ _ e hc⟩
   .exact absurd z hc
 .have hm:=kW (r0.mp z);obtain⟨c',h1,h2⟩:=pk scope.names (s.heap.objs.size+1) cl x hm;have e':(cellsFrom (s.heap.objs.size+1) scope.names cl).lookup x=some c:=e;rw[h2] at e';cases e';exact Nat.le_of_succ_le h1
 .exact aL (JW b hb)
 .rcases xP x c e with z|⟨z,_⟩
  .exact(hf b hb).2.2.2.2.1 x c (c1 x c z)
  .exact gJ (Nat.lt_trans (JW b hb) z)
 .rcases(hf b hb).2.2.2.1 with z|z
  .exact I.ok.mV b o e z
  .exact absurd (bj (aU e) (bn I.ok.B9 z)) (eF _)
 .intro z;rcases aY.mp (B8 b z) with e|e
  .exact(hf b hb).2.1 e
  .exact(hf b hb).2.2.1 e
 .obtain⟨j,hj,hv⟩:=CJ e2;obtain⟨hN,hF⟩:=S.src i x j e1 hj;obtain⟨m0,Cb,UW⟩:=I.loc;have CM:=kW hF;have kx:=S.free _ CM rfl;have Oc:Jk X.env.scope x:=by
   rcases kx with z|z
   .exact .inr (.inl z)
   .exact .inr (.inr z)
  obtain⟨u,r,l⟩:=UW j x v hN hv Oc;refine⟨u,r,.inr ⟨qH hF,?_⟩⟩;obtain⟨c,hc⟩:=c2 x CM;have UX:(x,NameKind.cell)∉scope.names:=fun z=>by
   have:=S.cells _ z rfl;rw[hF] at this;cases this
  refine⟨c,iE _ _ _ _ _ hc UX,?_⟩;rcases l with ⟨UY,_⟩|⟨_,c',e,z⟩
  .have JX:X.env.scope.names.lookup x=some .local:=UY;rcases kx with z|z <;> (rw[z] at JX;cases JX)
  .rw[c1 x c hc] at e;cases e;obtain⟨o,ho,hd⟩:=z;exact⟨o,hk _ _ ho,hd⟩
 .rcases xP x c e with z|⟨_,z⟩
  .obtain⟨v,o,ho,hd⟩:=zW x c z;exact⟨v,o,hk _ _ ho,hd⟩
  .exact⟨none,z⟩
 .rcases xP x c e with z|⟨z,_⟩
  .exact I.iU x c (c1 x c z)
  .exact I.bD.fresh (g8 z)
 .show (EJ src σ).length=NB.length;unfold EJ;rw[a_];exact S.len
theorem aD.JY(I:aD X ae σ H s)(J:aD (wu X NB scope cl C s H fp) [] σB H' s')(hf:∀b∈fp,fA X ae H b):aD X ae σ H' s':=by
 refine I.Jq (ch:=fp) J.os J.base J.bD J.bare fun b hb=>?_;obtain⟨_,f1,_,f3,f4,f5⟩:=hf b hb;exact⟨f3,f1,f4,f5⟩
end
def IJ(X:Cx)(wv:List Expr)(t:TT):Prop:=
 ∀ (ae:List (Addr×Obj)) (s:Shared) (σ:St) (H:Hp) (Q:Bool->Hp->Prop),aD X ae σ H s->t σ H Q->
  wpAny (model X.prog X.w) X.A (forIn wv true fun c r=>if r=true then do let ok <- isTrue c X.env (eval c X.env);pure (ForInStep.yield ok) else pure (ForInStep.yield r)) (TP X ae σ Q) X.xe s
def F2:TT:=fun _ H Q=>Q true H
theorem cW:IJ X [] F2:=fun _ _ _ H _ I h=>wpAny_tests_nil ⟨H,I,h⟩
theorem lP(h:PT X c t):IJ X [c] t:=fun ae s σ H Q I q=>wpAny_tests_one (h ae s σ H Q I q)
def iZ(J:It)(g:TG)(tt:TT)(te:TE)(D:Addr)(dz:Hp->Prop)(σB:St)(H1:Hp):Prop:=
 ∃W:Nat->Nat->St->Hp->Prop,(∃m,W 0 m σB H1)/\∀i m σ H,W i m σ H->(J.stop i H/\dz H)\/(J.go i H/\∀x H',J.Ca i H x H'->g x σ H' fun σ2 H2=>tt σ2 H2 fun b H3=>
  if b=true then te σ2 H3 fun v H4=>∃ys,H4 D=some (.lst ys)/\ys.length<sizeLine/\∃m',m'<m/\W (i+1) m' σ2 (upd H4 D (.lst (ys++[v]))) else ∃m',m'<m/\W (i+1) m' σ2 H3)
def vh(G:Hp->Prop)(J:It)(g:TG)(tt:TT)(te:TE)(D:Addr)(dz:Hp->Prop)(σB:St)(H1:Hp):Prop:=
 ∃W:Nat->Nat->St->Hp->Prop,(∃m,W 0 m σB H1)/\∀i m σ H,W i m σ H->G H/\((J.stop i H/\dz H)\/(J.go i H/\∀x H',J.Ca i H x H'->g x σ H' fun σ2 H2=>tt σ2 H2 fun b H3=>
  if b=true then te σ2 H3 fun v H4=>∃ys,H4 D=some (.lst ys)/\ys.length<sizeLine/\∃m',m'<m/\W (i+1) m' σ2 (upd H4 D (.lst (ys++[v]))) else ∃m',m'<m/\W (i+1) m' σ2 H3))
theorem iZ.g{J:It}{g:TG}{tt:TT}{te:TE}{D:Addr}{dz:Hp->Prop}{σB:St}{H1:Hp}(h:iZ J g tt te D dz σB H1):vh (fun _=>True) J g tt te D dz σB H1:=let ⟨W,a,b⟩:=h;⟨W,a,fun i m σ H w=>⟨trivial,b i m σ H w⟩⟩
theorem xQ(hx:B.xe=fun _ _=>False)(hc:∀H,G H->B.calm=true\/J.M9 B.A H)(T:qB B.prog B.w B.K tg J fp it tn)(hg:PG B tg g)(ht:IJ B wv tt)(he:PE B yZ te)(I:aD B [] σB H1 s)(st:tn 0 s.heap)(hf:∀b∈fp,fA B [] H1 b)(hw:vh G J g tt te D dz σB H1)(hR:∀σ' H' s',aD B [] σ' H' s'->dz H'->R (.ok .next) s'):
  codeAny (model B.prog B.w) B.A (.compLoop (.ListComp yZ [⟨tg,gP,wv,0⟩] scope pos) 0 (.ref it) (.ref D) B.env) R s:=by
 obtain⟨W,⟨m0,w0⟩,zw⟩:=hw;have u4:∀ {H':Hp},(∀b∈fp,H' b=none)->∀b∈fp,fA B [] H' b:=fun hn b hb=>⟨hn b hb,(hf b hb).2⟩
 refine codeAny_loop rfl (fun n s'=>∃i σ' H',aD B [] σ' H' s'/\tn i s'.heap/\(∀b∈fp,H' b=none)/\W i n σ' H') ?_ m0 ⟨0,σB,H1,I,st,fun b hb=>(hf b hb).1,w0⟩;rintro n s3 ⟨i,σ3,H3,I3,u5,FO,w3⟩;show wpAny _ B.A ((compTurn (.ListComp yZ [⟨tg,gP,wv,0⟩] scope pos) 0 (.ref it) (.ref D) B.env).onRaise (fun x=>do noteFrame x B.env;theTreesLotGoes x)) _ _ s3;refine wpAny_noted ?_;rw[compTurn_list];have nx:∀ {α:Type} {t:Sem α} {Q:α->Shared->Prop} {E':Value->Shared->Prop} {s:Shared},wpAny (model B.prog B.w) B.A t Q B.xe s->wpAny (model B.prog B.w) B.A t Q E' s:=fun h=>
  jg h (fun _ _ q=>q) fun _ _ z=>by rw[hx] at z;exact z.elim
 obtain⟨hG,JZ⟩:=zw i n σ3 H3 w3;rcases JZ with ⟨stop,qn⟩|⟨go,step⟩
 .refine ai (kg (ai (cC (T.done B rfl rfl rfl i [] s3 σ3 H3 _ (hc _ hG) I3 (u4 FO) u5 stop) fun r s4 ⟨hr,I4⟩=>?_)));subst hr;exact wpAny_pure (hR σ3 H3 s4 I4 qn)
 .refine ai (kg (ai (cC (T.item B rfl rfl rfl i [] s3 σ3 H3 _ (hc _ hG) I3 (u4 FO) u5 go) fun r s4 ⟨u,hr,h4⟩=>?_)));subst hr;refine ai (cC h4 fun _ s5 ⟨x,H5,I5,r5,y5,rM,Of⟩=>?_);have Og:=I5.pinned (u4 Of) (T.obj _ _ rM);refine ai (nx (cC (hg _ s5 σ3 H5 x u _ Og r5 (step x H5 y5)) fun _ s6 ⟨σ6,H6,I6,q6⟩=>?_));have back:∀ {σ7:St} {H7:Hp} {s7:Shared} {m':Nat},aD B ([]++m6 fp s5.heap) σ7 H7 s7->m'<n->W (i+1) m' σ7 H7->∃m,m<n/\∃i σ' H',aD B [] σ' H' s7/\tn i s7.heap/\(∀b∈fp,H' b=none)/\W i m σ' H':=fun {σ7 H7 s7 m'} I7 hm w7=>by
   refine⟨m',hm,i+1,σ7,H7,I7.jN,T.keep _ _ _ rM fun b hb o e=>(I7.pin (b,o) (iP _ (iP _ (gh hb e)))).1,fun b hb=>?_,w7⟩;obtain⟨o,e,d⟩:=T.obj _ _ rM b hb;exact(I7.pin (b,o) (iP _ (iP _ (gh hb e)))).2.1
  refine ai (nx (cC (ht _ s6 σ6 H6 _ I6 q6) fun ok s7 ⟨H7,I7,q7⟩=>?_));cases ok with
  |false=>
   rw[am bq] at q7;obtain⟨m',hm,w7⟩:=q7;exact wpAny_pure ⟨rfl,back I7 hm w7⟩
  |true=>
   rw[ap rfl] at q7;refine ai (ai (nx (cC (he _ s7 σ6 H7 _ I7 q7) fun v s8 ⟨y,H8,I8,r8,ys,hD,hl,m',hm,w8⟩=>?_)));refine ai (nx (cC (dw _ s8 σ6 H8 (.ref D) [y] (.ref D) [v] (fun _ H9=>H9=upd H8 D (.lst (ys++[y]))) I8 rfl (.cons r8 .nil) ⟨D,ys,y,rfl,rfl,hD,hl,rfl⟩) fun _ s9 ⟨_,H9,I9,_,e9⟩=>?_));subst e9;exact wpAny_pure (wpAny_pure ⟨rfl,back I9 hm w8⟩)
theorem qJ(hQ:Q { scope:=scope,locals:=s.heap.objs.size,globals:=globals,cells:=cellsFrom (s.heap.objs.size+1) scope.names cl,qual:=qual,func:=none,code:=outer.code,frame:=outer.frame,builtins:=outer.builtins }
   { s with heap:=pushCells (s.heap.push { cls:=.type "dict",data:=.dict #[] }) scope.names }):
  wpAny M A (newFunctionEnv scope globals cl [] qual none .none (some outer)) Q E s:=by
 simp only[newFunctionEnv,Option.isSome_some,jh];refine ai (wpAny_alloc ?_);refine ai (wpAny_layCells _ (fun name kind cells=>by cases UZ:kind==NameKind.cell <;> simp[UZ]) _ _ _ _ ?_);rw[show ({ s with heap:=s.heap.push { cls:=.type "dict",data:=.dict #[] } }:Shared).heap.objs.size=s.heap.objs.size+1 from fU ..];refine ai ?_;rw[g7];exact wpAny_pure (wpAny_pure hQ)
section
variable {X:Cx} {yZ tg gP:Expr} {wv:List Expr} {scope:Scope} {pos:Pos} {wi:TI} {g:TG} {tt:TT} {te:TE} {NB:List Str} {src:List (Option Nat)}
def EK(src:List (Option Nat))(wi:TI)(g:TG)(tt:TT)(te:TE):TE:=fun σ H Q=>wi σ H fun J H1=>∀D,H1 D=none->iZ J g tt te D (fun H'=>Q (.ref D) H') (EJ src σ) (upd H1 D (.lst []))
theorem nr{ae:List (Addr×Obj)}{σ:St}{H2:Hp}{s2:Shared}{J:It}{fp:List Addr}{it:Addr}{tn:Nat->Heap->Prop}{cl:List (Str×Addr)}{dz:Addr->Hp->Prop}{E':Value->Shared->Prop}{RR:Value->Addr->Result->Shared->Prop}{G:Hp->Prop}(S:eV NB src scope X)(hc:∀H,G H->X.calm=true\/J.M9 X.A H)(c1:∀x c,cl.lookup x=some c->X.env.cells.lookup x=some c)(c2:∀x,(x,NameKind.free)∈scope.names->∃c,cl.lookup x=some c)(hg:∀cl C s₃ H₃ fp,PG (wu X NB scope cl C s₃ H₃ fp) tg g)(ht:∀cl C s₃ H₃ fp,IJ (wu X NB scope cl C s₃ H₃ fp) wv tt)(he:∀cl C s₃ H₃ fp,PE (wu X NB scope cl C s₃ H₃ fp) yZ te)(I2:aD X ae σ H2 s2)(T:qB X.prog X.w X.K tg J fp it tn)(oH:tn 0 s2.heap)(f2:∀b∈fp,fA X ae H2 b)(hw:∀D,H2 D=none->vh G J g tt te D (dz D) (EJ src σ) (upd H2 D (.lst [])))(hR:∀D C H' s',fA X ae H' C->aD X ae σ H' s'->(∃m,s'.heap.Ns C m)->dz D H'->RR (.ref D) C (.ok .next) s'):
  wpAny (model X.prog X.w) X.A (newList []) (fun di s₃=>wpAny (model X.prog X.w) X.A (newFunctionEnv scope X.env.globals cl [] X.env.qual none .none (some X.env)) (fun J0 s₄=>
   codeAny (model X.prog X.w) X.A (.compStart (.ListComp yZ [⟨tg,gP,wv,0⟩] scope pos) 0 (.ref it) di { J0 with scope:=relabel scope X.env }) (RR di J0.locals) s₄) E' s₃) E' s2:=by
 refine jb (qJ ?_);have I3:=I2.Ow (ys:=[]) (its:=[]) (t':=s2.toks) .nil (cK _);have hD:H2 s2.heap.objs.size=none:=I2.fresh;have fo:∀b∈fp,b<s2.heap.objs.size:=fun b hb=>by obtain⟨o,e,_⟩:=T.obj _ _ oH b hb;exact aU e
 have up:∀ {b:Addr},b∈fp->upd H2 s2.heap.objs.size (.lst []) b=H2 b:=fun {b} hb=>ao (aL (fo b hb));have f3:∀b∈fp,fA X ae (upd H2 s2.heap.objs.size (.lst [])) b:=fun b hb=>⟨by rw[up hb];exact(f2 b hb).1,(f2 b hb).2⟩
 have iW:(s2.heap.push { cls:=.type "list",data:=.seq ([]:List Value).toArray }).objs.size=s2.heap.objs.size+1:=by rw[fU]
 generalize Nc:({ s2 with heap:=s2.heap.push { cls:=.type "list",data:=.seq ([]:List Value).toArray } }:Shared)=s3 at I3 |-;have SF:s3.heap=s2.heap.push { cls:=.type "list",data:=.seq ([]:List Value).toArray }:=by rw[<-Nc]
 have SG:∀b∈fp,b<s3.heap.objs.size:=fun b hb=>by rw[SF,iW];exact bQ (fo b hb)
 have J1:(s3.heap.push { cls:=.type "dict",data:=.dict #[] }).objs.size=s3.heap.objs.size+1:=fU ..;have xP:∀x c,(cellsFrom (s3.heap.objs.size+1) scope.names cl).lookup x=some c->cl.lookup x=some c\/(s3.heap.objs.size<c/\(pushCells (s3.heap.push { cls:=.type "dict",data:=.dict #[] }) scope.names).IsCell c none):=fun x c e=>by
  rw[<-J1] at e;rcases kH _ _ _ _ _ e with z|⟨z1,z2⟩
  .exact .inl z
  .exact .inr ⟨by rw[J1] at z1;exact z1,z2⟩
 have J2:=(Heap.Ns.new s3.heap (.type "dict")).keeps (pushCells_keeps scope.names _);have keep:∀b o,s3.heap.get? b=some o->(pushCells (s3.heap.push { cls:=.type "dict",data:=.dict #[] }) scope.names).get? b=some o:=fun b o e=>pushCells_keeps _ _ b o (ba _ e);generalize XX:pushCells (s3.heap.push { cls:=.type "dict",data:=.dict #[] }) scope.names=h₁ at xP J2 keep |-;have IB:aD (wu X NB scope (cellsFrom (s3.heap.objs.size+1) scope.names cl) s3.heap.objs.size s3 (upd H2 s2.heap.objs.size (.lst [])) fp) [] (EJ src σ) (upd H2 s2.heap.objs.size (.lst [])) { s3 with heap:=h₁,toks:=s3.toks }:=
  CK I3 S c1 c2 f3 SG J2 keep xP
 have SH:tn 0 h₁:=T.keep 0 s2.heap h₁ oH fun b hb o e=>keep b o (by rw[SF];exact ba _ e);have fB:∀b∈fp,fA (wu X NB scope (cellsFrom (s3.heap.objs.size+1) scope.names cl) s3.heap.objs.size s3 (upd H2 s2.heap.objs.size (.lst [])) fp) [] (upd H2 s2.heap.objs.size (.lst [])) b:=fun b hb=>by
  refine⟨(f3 b hb).1,aL (SG b hb),fun z=>?_,.inl hb,fun x c e=>(IB.ok.NU b hb).2 x c e,fun p hp=>absurd (show p∈([]:List (Addr×Obj)) from hp) (by simp)⟩;rcases aY.mp (I3.qz b z) with e|e
  .exact(f3 b hb).2.1 e
  .exact(f3 b hb).2.2.1 e
 have loop:codeAny (model X.prog X.w) X.A (.compLoop (.ListComp yZ [⟨tg,gP,wv,0⟩] scope pos) 0 (.ref it) (.ref s2.heap.objs.size) (compEnvC scope (cellsFrom (s3.heap.objs.size+1) scope.names cl) s3.heap.objs.size X.env)) (RR (.ref s2.heap.objs.size) s3.heap.objs.size)
   { s3 with heap:=h₁,toks:=s3.toks }:=by
  refine xQ (B:=wu X NB scope (cellsFrom (s3.heap.objs.size+1) scope.names cl) s3.heap.objs.size s3 (upd H2 s2.heap.objs.size (.lst [])) fp) rfl hc T (hg _ _ _ _ _) (ht _ _ _ _ _) (he _ _ _ _ _) IB SH fB (hw _ hD) fun σ' H' s' J' q=>?_;obtain⟨m,hm,_⟩:=J'.loc;exact hR _ _ H' s' (I3.uY (aI _) J'.free) (I3.JY J' f3) ⟨m,hm⟩ q
 exact codeAny_compStart_list loop (T.self _ 0 _ _ _ SH loop)
theorem cL(S:eV NB src scope X)(hc:X.calm=true)(hi:PI X tg gP wi)(hg:∀cl C s₃ H₃ fp,PG (wu X NB scope cl C s₃ H₃ fp) tg g)(ht:∀cl C s₃ H₃ fp,IJ (wu X NB scope cl C s₃ H₃ fp) wv tt)(he:∀cl C s₃ H₃ fp,PE (wu X NB scope cl C s₃ H₃ fp) yZ te)(hs:∀x,foldedSetIterable gP X.env x=pure x:=by intro _;rfl):PE X (.ListComp yZ [⟨tg,gP,wv,0⟩] scope pos) (EK src wi g tt te):=by
 intro ae s σ H Q I h;obtain⟨cl,EL,c1,c2⟩:=jq I.ok S;rw[eval_ListComp];refine wpAny_comprehension_free (use:=none) (cl:=cl) rfl hs EL S.kind S.names (cC (hi ae s σ H _ I h) fun v s1 h1=>cC h1 fun M_ s2 h2=>?_);obtain⟨it,fp,tn,J,H2,e,I2,T,oH,f2,hw⟩:=h2;subst e;refine nr (RR:=fun di C=>compPost (model X.prog X.w) X.A X.xe none (EP X ae σ Q) di C) S (G:=fun _=>True) (fun _ _=>.inl hc) c1 c2 hg ht he I2 T oH f2 (fun D hD=>(hw D hD).g) fun D C H' s' fC I' hm q=>?_;obtain⟨m,hm⟩:=hm;refine⟨m,hm,fun h' sb=>⟨.ref D,H',?_,rfl,q⟩⟩;obtain⟨g0,g1,_,g3,g4,g5⟩:=fC;exact I'.turned (t':=s'.toks) (fun b o hb e=>(sb.2 b hb).trans e) g0 g1 g3 g4 g5
theorem jr{i:Nat}{y:Str}{py J3:Pos}(S:eV NB src scope X)(hc:X.calm=true)(hi:PI X tg gP wi)(hg:∀cl C s₃ H₃ fp,PG (wu X NB scope cl C s₃ H₃ fp) tg g)(ht:∀cl C s₃ H₃ fp,IJ (wu X NB scope cl C s₃ H₃ fp) wv tt)(he:∀cl C s₃ H₃ fp,PE (wu X NB scope cl C s₃ H₃ fp) yZ te)(hN:X.N.Nodup)(U0:X.N[i]?=some y)(hy:X.env.scope.names.lookup y=some .local)(U1:swapsWith (.ListComp yZ [⟨tg,gP,wv,0⟩] scope pos) (some (.Name y py)) J3.line X.env=pure true)(hs:∀x,foldedSetIterable gP X.env x=pure x:=by intro _;rfl):
  PS X (.Assign [.Name y py] (.ListComp yZ [⟨tg,gP,wv,0⟩] scope pos) J3) (FM (EK src wi g tt te) (cD i)):=by
 intro ae s σ H D0 I h;obtain⟨cl,EL,c1,c2⟩:=jq I.ok S;rw[exec_Assign_Name_used _ _ _ _ U1];refine ai (kg (ai ?_));show wpAny _ X.A (do let _ <- comprehension (.ListComp yZ [⟨tg,gP,wv,0⟩] scope pos) scope X.env _ (newList []) false (eval gP X.env) (some (assign (.Name y py) X.env))) _ _ s;refine ai (jg (wpAny_comprehension_free (use:=some (assign (.Name y py) X.env)) (Q:=fun _ s'=>SP X ae D0 .next s') (cl:=cl) rfl hs EL S.kind S.names
  (cC (hi ae s σ H _ I h) fun v s1 h1=>cC h1 fun M_ s2 h2=>?_)) (fun _ s' hq=>wpAny_pure (wpAny_pure hq)) fun _ _ e=>e)
 obtain⟨it,fp,tn,J,H2,e,I2,T,oH,f2,hw⟩:=h2;subst e;refine nr (RR:=fun di C=>compPost (model X.prog X.w) X.A X.xe (some (assign (.Name y py) X.env)) (fun _ s'=>SP X ae D0 .next s') di C) S (G:=fun _=>True) (fun _ _=>.inl hc) c1 c2 hg ht he I2 T oH f2 (fun D hD=>(hw D hD).g) fun D C H' s' fC I' hm q=>?_;obtain⟨m,hm⟩:=hm;obtain⟨g0,g1,_,g3,g4,g5⟩:=fC;show wpAny _ X.A (assign (.Name y py) X.env (.ref D)) _ _ _;refine wpAny_assign_Name (o6 I' hN U0 (.inl hy) (v:=.ref D) rfl (fun Cz U2 sb=>?_) (.inr hy));obtain⟨a,sb,ha⟩:=sb;have qI:C≠a:=by
  rcases ha with z|z
  .rw[z];exact g1
  .exact fun z'=>g4 y a z z'.symm
 refine⟨m,hm.sameBut sb qI,fun h' U3=>⟨_,H',U2.turned (t':=Cz.toks) (fun b o hb e=>(U3.2 b hb).trans e) g0 g1 g3 g4 g5,q⟩⟩
end
structure J4(P:Program)(w:World)(outer:List Env)(H:Hp)(s:Shared)(B:Heap)(p:Addr)(C a0:Value)(H':Hp)(s':Shared):Prop where
 os:s'.os=s.os
 bare:AllBare s'.gens
 bD:jL P w H' B
 keep:∀b o,s.heap.get? b=some o->H b=none->b∉kv outer->B.get? b=some o/\H' b=none
 frame:∀b o,s.heap.get? b=some o->H b=none->b∈kv outer->(∃sl,s'.heap.get? b=some { o with slots:=sl })/\H' b=none
 there:∀b o,s.heap.get? b=some o->H b≠none->∃o',B.get? b=some o'
 jk:∀b xs,H b=some (.tup xs)->H' b=some (.tup xs)
 kr:∀b o u,H b=some (.o5 o u)->H' b=some (.o5 o u)
 ku:∀b ps,H b=some (.lq ps)->∃more,H' b=some (.lq (ps++more))
 fl:xy B outer p C s'.heap
def eZ(P:Program)(w:World):rN:=fun outer H s E e s'=>∃p C a0 B H',e=.ref p/\J4 P w outer H s B p C a0 H' s'/\E C none H'
section
variable {P:Program} {w:World} {K:PySem.W.Frag} {mg:Str->Option Value} {base:Heap} {N:List Str} {qual:Str} {scope:Scope} {f:Addr} {cd:Value} {A:Around} {outer:List Env} {s:Shared} {H:Hp} {E:XK}
abbrev OA(h:Heap)(l:List Env):Heap:=PySem.W.hideAll h (kv l)
theorem CN{l:List Env}{H1:Hp}{h:Heap}(ok:jL P w H1 h)(nf:∀b∈kv l,H1 b=none):jL P w H1 (OA h l):=fun a o e=>by
 refine(ok a o e).lr (fun b u hb q=>pZ _ q fun z=>?_) (fun _ q=>q) fun _ _ q=>q;have n:=nf b z;rcases hb with rfl|hb
 .rw[n] at e;cases e
 .rw[n] at hb;cases hb
theorem h_{ae:List (Addr×Obj)}{σ:St}{H1:Hp}{s1:Shared}{h':Heap}{e:Addr}{C:Value}{vs:List Value}(I:aD (gu (eZ P w) P w K mg base N qual scope f cd A outer s H E) ae σ H1 s1)(hx:Heap.MadeExcOf s1.heap h' e C vs)(q:E C none H1):
  (gu (eZ P w) P w K mg base N qual scope f cd A outer s H E).xe (.ref e) { s1 with heap:=h' }:=by
 have B8:kv (envOfC qual scope s.heap.objs.size f cd::outer)=s.heap.objs.size::kv outer:=rfl;have OB:=I.stack;refine uW (B:=OA s1.heap (envOfC qual scope s.heap.objs.size f cd::outer)) (h:=s1.heap) (L:=s.heap.objs.size) I.ok.frames rfl (fun b o z=>PySem.W.of_hideAll _ z)
  (PySem.W.funFrames_hide OB fun env he b hb=>l4.mpr ⟨env,he,hb⟩) hx fun h2 x1 x4=>?_
 have U4:∀b o,s1.heap.get? b=some o->b∉kv outer->b<s.heap.objs.size->(OA s1.heap (envOfC qual scope s.heap.objs.size f cd::outer)).get? b=some o:=fun b o z hb dv=>
  pZ _ z fun m=>by
   rw[B8] at m;rcases aY.mp m with z'|z'
   .exact absurd dv (by rw[z'];exact eF _)
   .exact hb z'
 refine⟨e,C,.none,_,H1,rfl,⟨I.os,I.bare,CN I.bD I.qA,fun b o z n hb=>⟨U4 b o (I.base.keep b o z n hb (by intro m;exact absurd (show b∈([]:List Addr) from m) (by simp))) hb (aU z),I.base.free b o z n (by intro m;exact absurd (show b∈([]:List Addr) from m) (by simp))⟩,
  fun b o z n hb=>⟨?_,I.base.free b o z n (by intro m;exact absurd (show b∈([]:List Addr) from m) (by simp))⟩,fun b o z n=>?_,I.base.jk,I.base.kr,I.base.ku,x1⟩,q⟩
 .obtain⟨sl,z1⟩:=I.base.slot b o z n hb (by intro m;exact absurd (show b∈([]:List Addr) from m) (by simp));obtain⟨_,o',xB,nd⟩:=I.ok.jM.mem hb;have e':o'=o:=bG (xB.symm.trans z);subst e';obtain⟨FW,z2⟩:=x4 b _ (hx.keeps _ _ z1) nd;exact⟨FW,z2⟩
 .have U5:b∉kv (envOfC qual scope s.heap.objs.size f cd::outer):=fun m=>by
   rw[B8] at m;rcases aY.mp m with z'|z'
   .exact absurd (aU z) (by rw[z'];exact eF _)
   .exact n (I.ok.Ck b z')
  obtain⟨o',z1⟩:=I.base.there b o z (by intro m;exact absurd (show b∈([]:List Addr) from m) (by simp));exact⟨o',pZ _ z1 U5⟩
theorem nu{E':XK}(hE:∀C d H',E' C d H'->E C d H'):fD (eZ P w) (gu (eZ P w) P w K mg base N qual scope f cd A outer s H E) E':=by
 intro ae σ H1 s1 e s' I h;obtain⟨p,C,a0,B,H',rfl,F,q⟩:=h;have B8:kv (envOfC qual scope s.heap.objs.size f cd::outer)=s.heap.objs.size::kv outer:=rfl;have mV:∀b:Addr,b∉(gu (eZ P w) P w K mg base N qual scope f cd A outer s H E).ex:=fun b m=>absurd (show b∈([]:List Addr) from m) (by simp);have SJ:∀b o,s.heap.get? b=some o->b∉kv outer->b∉kv (gu (eZ P w) P w K mg base N qual scope f cd A outer s H E).stack:=fun b o z hb m=>by
  have m':b∈s.heap.objs.size::kv outer:=m;rcases aY.mp m' with z'|z'
  .exact absurd (aU z) (by rw[z'];exact eF _)
  .exact hb z'
 show wpAny _ _ (leaving (envOfC qual scope s.heap.objs.size f cd) (.ref p)) _ _ s';refine zj (outer:=outer) (L:=s.heap.objs.size) I.ok.frames rfl F.fl fun h2 x1 x2=>?_;refine⟨p,C,a0,B,H',rfl,⟨F.os.trans I.os,F.bare,F.bD,fun b o z n hb=>?_,fun b o z n hb=>?_,fun b o z n=>?_,fun b xs z=>F.jk b xs (I.base.jk b xs z),fun b o u z=>F.kr b o u (I.base.kr b o u z),fun b ps z=>?_,x1⟩,hE _ _ _ q⟩
 .exact F.keep b o (I.base.keep b o z n hb (mV b)) (I.base.free b o z n (mV b)) (SJ b o z hb)
 .obtain⟨sl,z1⟩:=I.base.slot b o z n hb (mV b);have r6:b∈kv (gu (eZ P w) P w K mg base N qual scope f cd A outer s H E).stack:=bA _ hb;obtain⟨⟨FW,z2⟩,n2⟩:=F.frame b _ z1 (I.base.free b o z n (mV b)) r6;obtain⟨_,o',xB,nd⟩:=I.ok.jM.mem hb;have e':o'=o:=bG (xB.symm.trans z);subst e';obtain⟨U6,z3⟩:=x2 b _ z2 nd;exact⟨⟨U6,z3⟩,n2⟩
 .obtain⟨o',z1⟩:=I.base.there b o z (mV b);have CO:b∉kv outer:=fun m=>n (I.ok.Ck b m);cases n1:H1 b with
  |none=>exact⟨o',(F.keep b o' z1 n1 (SJ b o z CO)).1⟩
  |some u=>exact F.there b o' z1 (by rw[n1];intro z';cases z')
 .obtain⟨m1,z1⟩:=I.base.ku b ps z;obtain⟨m2,z2⟩:=F.ku b _ z1;exact⟨m1++m2,by rw[z2,Array.append_assoc]⟩
theorem F3:PassesOwn (model P w) (gu (eZ P w) P w K mg base N qual scope f cd A outer s H E).A (gu (eZ P w) P w K mg base N qual scope f cd A outer s H E).env (gu (eZ P w) P w K mg base N qual scope f cd A outer s H E).xe:=by
 intro e s' h;exact PassesOwn.leaving (M:=model P w) (A:=A.deeper (envOfC qual scope s.heap.objs.size f cd)) (env:=envOfC qual scope s.heap.objs.size f cd) (Q₁:=fun e Cz=>eZ P w outer H s E e Cz) (E₁:=fun e' Cz=>eZ P w outer H s E e' Cz) e s' h
end
theorem fW{P:Program}{w:World}{X:Cx}:fD (eZ P w) X E0:=fun _ _ _ _ _ _ _ h=>by
 obtain⟨_,_,_,_,_,_,_,q⟩:=h;exact q.elim
open PySem PySem.Spec PyProof.Rows PySem.W
abbrev U7:List Value:=[.type "ValueError",.type "Exception",.type "BaseException",.type "object"]
structure ny(K:PySem.W.Frag)(C:Addr):Prop where
 ex:PySem.W.excIn K C U7 "ValueError.__new__"=true
 kp:PySem.W.keepIn K (.ref C)=true
 ga:PySem.W.findIn K (.ref C) "__getattribute__"=some (some (.builtin "BaseException.__getattribute__"))
 gt:PySem.W.findIn K (.ref C) "__getattr__"=some none
 cl:PySem.W.findIn K (.ref C) "__class__"=some (some (.builtin "object.__class__"))
 mo:PySem.W.mroIn K C (.type "object")=some true
 mb:PySem.W.mroIn K C (.type "BaseException")=some true
 ty:(PySem.W.clsIn K C).isSome=true
theorem zX{K:PySem.W.Frag}{h:Heap}{C:Addr}{SK:List Value}{EM:String}(X:K.In h)(q:PySem.W.excIn K C SK EM=true):
  ∃bm N nm qn bs hdct sn sub ab col dd k0 k1 k2 k3 k5 mN,h.get? C=some (excClassObj nm qn C N bs bm hdct sn sub ab col dd k0 k1 k2 k3 k5 EM)/\h.Ns N mN/\mN "__init__"=none/\OwnTail h SK bm:=by
 unfold PySem.W.excIn at q;split at q
 .rename_i dd cd sl ho;split at q
  .rename_i C' bm k0 k1 k2 k3 n k5 hm hs;simp only[gY,eG,Bool.not_eq_true'] at q;obtain⟨⟨⟨⟨⟨rfl,rfl⟩,J5⟩,ht⟩,bD⟩,Nd⟩:=q;obtain⟨nm,bs,mro,ns,qn,hd,sn,sub,ab,col,XY⟩:=cd;dsimp only at hm J5 bD Nd;subst hm J5;have IK:sl=#[k0,k1,k2,k3,some (.builtin n),k5]:=by
    obtain⟨l⟩:=sl;simp only at hs;rw[hs]
   subst IK;exact⟨bm,ns,nm,qn,bs,hd,sn,sub,ab,col,dd,k0,k1,k2,k3,k5,_,X _ _ ho,.of_isNs (isNs_of_in X bD),nsMap_none_of_in X bD Nd,tail_of_in X ht⟩
  .cases q
 .cases q
def OC(p:Addr)(C:Value)(h:Heap):Prop:=∃o,h.get? p=some o/\o.cls=C/\∃vs,o.data=.fields vs/\vs[2]?=some .none
abbrev OD(p:Addr)(C:Value):HO:=.ext (OC p C)
theorem ck.get(x:ck P w H h a o):∃u,h.get? a=some u:=by
 cases o with
 |lst xs=>obtain⟨_,_,_,_,e⟩:=x;exact⟨_,e⟩
 |tup xs=>obtain⟨_,_,_,ob,e,_⟩:=x;exact⟨_,e⟩
 |dK jK=>obtain⟨_,_,_,_,o,_,_,e,_⟩:=x;exact⟨_,e⟩
 |dT jK=>obtain⟨_,_,_,_,o,_,_,e,_⟩:=x;exact⟨_,e⟩
 |set S n=>obtain⟨o,_,_,_,e,_⟩:=x;exact⟨_,e⟩
 |ins C dx fs=>obtain⟨_,_,_,e,_⟩:=x;exact⟨_,e⟩
 |own y=>exact x
 |xd fs=>obtain⟨_,⟨_,_,_,e,_⟩,_⟩:=x;exact⟨_,e⟩
 |M0 lo hi=>obtain⟨_,_,_,e⟩:=x;exact⟨_,e⟩
 |o5 ob u=>obtain⟨e,_⟩:=x;exact⟨_,e⟩
 |lq ps=>exact⟨_,(show h.get? a=some _ from x)⟩
 |met f y=>exact⟨_,(show h.get? a=some _ from x)⟩
 |ext φ=>exact x.2.1
theorem jL.nA(x:jL P w H h)(e:h.get? a=none):H a=none:=by
 cases q:H a with
 |none=>rfl
 |some u=>obtain⟨o,z⟩:=(x a u q).get;rw[e] at z;cases z
theorem aD.zY(I:aD X ae σ H s)(k:∀b u,s.heap.get? b=some u->h'.get? b=some u)(hp:s.heap.get? a=none)(new:ck X.prog X.w (upd H a o) h' a o):
  aD X ae σ (upd H a o) { s with heap:=h',toks:=t' }:=by
 have hn:=I.bD.nA hp;have ne:∀b u,s.heap.get? b=some u->b≠a:=fun b u e z=>by rw[z,hp] at e;cases e
 refine I.un ⟨fun b u e _ _ _=>k b u e,fun b u e _ _ _=>⟨u.slots,k b u e⟩,fun b u e n _=>by rw[ao (ne b u e)];exact n,fun b u e _=>⟨u,k b u e⟩,fun b xs e=>by rw[ao (aq e hn)];exact e,fun b u v e=>by rw[ao (aq e hn)];exact e,fun b ps e=>⟨#[],by rw[ao (aq e hn),e];simp⟩⟩ fun b u e=>?_;by_cases hb:b=a
 .subst hb;rw[ah] at e;cases e;exact new
 .rw[ao hb] at e;exact(I.bD b u e).lr (fun c v _ q=>k c v q) (fun c q=>by rw[ao (aq q hn)];exact q) fun c xs q=>by rw[ao (aq q hn)];exact q
section
variable {prog:Program} {w:World} {A:Around} {E:Value->Shared->Prop} {s:Shared} {K:PySem.W.Frag} {x C:Addr} {ox:Obj}
theorem ww(hx:h.get? x=some ox)(hc:ox.cls=.ref C):PySem.W.Looks M h (typeOf (.ref x)) (.ref C):=hc ▸ (PySem.W.Looks.ld hx).andThen .now
open Builtin Builtin.ObjectAttr Builtin.Getset_descriptor in
theorem vi(X:K.In s.heap)(hx:s.heap.get? x=some ox)(hc:ox.cls=.ref C)(hm:PySem.W.mroIn K C (.type "object")=some true)(h:R (.ok (.ret (.ref C))) s):codeAny (model prog w) A (.call (.builtin "getset_descriptor.__get__") ⟨[.builtin "object.__class__",.ref x,tp],[]⟩) R s:=by
 obtain⟨hh,g,dr,t,os⟩:=s;have L0:=ww (M:=model prog w) hx hc;have L1:=looks_mroIn (M:=model prog w) X hm;refine uA KF.slot_gs.plain KF.entry_gs (KF.slot_gs.check _ _ _ _ _ _ _ _ KF.type_class (KF.args_gs _ _ _) ?_);unfold Builtin.«getset_descriptor.__get__» descrGet;rw[dga_obj];refine ai (wpAny_pure ?_);unfold descrGetter descrCheckInstance descrNameAndClass isInstance;simp only[KF.owner_class];repeat lk
 refine⟨Code.quiet_builtin _ (by decide +kernel),mC KF.entry_class ?_⟩;unfold Builtin.«object.__class__» shownTypeOf;repeat lk
 exact h
theorem xR{g d t os}(T:ny K C)(X:K.In h)(hx:h.get? x=some ox)(hc:ox.cls=.ref C)(hq:Q (.done (.ret (.ref C))) ⟨h,g,d,t,os⟩):
  wpAny (model prog w) A (Builtin.«object.__getattribute__» ⟨[.ref x,.str "__class__" tk],[]⟩) Q E ⟨h,g,d,t,os⟩:=by
 have f5:=F.typeOf_bexc_args;have XZ:(⟨h,g,d,t,os⟩:Shared).TypeIs (.builtin "object.__class__") "getset_descriptor":=zc;have X0:=zc;have f6:=F.slot_gs_get.lookup;have f7:=F.slot_gs_set.lookup;have L1:=looks_findIn (M:=model prog w) X T.cl;repeat (any_goals (first|assumption|(with_reducible refine uO hx ?_;rw[hc])|with_reducible refine L1.at ?_|wp_step))
 refine vi (s:=⟨h,g,d,t,os⟩) X hx hc T.mo ?_;repeat (any_goals (first|assumption|wp_step))
theorem xS{g d t os}(T:ny K C)(X:K.In h)(hx:h.get? x=some ox)(hc:ox.cls=.ref C)(hq:Q () ⟨h,g,d,t,os⟩):
  wpAny M A (checkBuiltinCall "BaseException.__getattribute__" ⟨[.ref x,J6],[]⟩) Q E ⟨h,g,d,t,os⟩:=by
 have hk:builtinKind "BaseException.__getattribute__"=some .slot:=by decide +kernel
 have F4:splitId "BaseException.__getattribute__"=some ("BaseException","__getattribute__"):=by decide +kernel
 have ha:=F.args_bexc_ga (.ref x) J6;have L1:=looks_mroIn (M:=M) X T.mb;simp only[checkBuiltinCall,hk,F4];refine ai ?_
 .unfold isInstance;repeat (first|(with_reducible refine uO hx ?_;rw[hc])|with_reducible refine L1.at ?_|wp_step)
  exact hq
theorem F5{tk:Tok}{fill Cq:Bool}{Q:Value->Shared->Prop}{h:Heap}{g d t os}(T:ny K C)(X:K.In h)(hx:h.get? x=some ox)(hc:ox.cls=.ref C)(hq:Q (.ref C) ⟨h,g,d,t,os⟩):
  wpAny (model prog w) A (getAttrBy (.ref x) (.str "__class__" tk) fill Cq) Q E ⟨h,g,d,t,os⟩:=by
 have f3:=F.attr_ValueError.ga.bind (.ref x);have X1:(Cq&&onTheHeap (Value.builtin "BaseException.__getattribute__"))=false:=by cases Cq <;> rfl
 have U8:(Value.builtin "BaseException.__getattribute__"==Value.builtin "object.__getattribute__")=false:=by decide +kernel
 have OE:(onTheHeap (Value.ref C)&&Value.builtin "BaseException.__getattribute__"==Value.builtin "object.__getattribute__")=false:=by rw[U8];rfl
 have L1:=looks_findIn (M:=model prog w) X T.ga;have L2:=looks_findIn (M:=model prog w) X T.gt;repeat (any_goals (first|assumption|(with_reducible refine uO hx ?_;rw[hc])|with_reducible refine L1.at ?_|with_reducible refine L2.at ?_|wp_step))
 refine uA F.attr_ValueError.ga.plain F.entry_bexc_ga (xS T X hx hc (xR T X hx hc ?_));repeat (any_goals (first|assumption|wp_step))
theorem zZ{Q:Option Value->Shared->Prop}{h:Heap}{g d t os}(T:ny K C)(X:K.In h)(hx:h.get? x=some ox)(hc:ox.cls=.ref C)(hq:Q (some (.ref C)) ⟨h,g,d,t+1,os⟩):
  wpAny (model prog w) A (getAttr? (.ref x) "__class__") Q E ⟨h,g,d,t,os⟩:=by
 unfold getAttr?;repeat (any_goals (first|assumption|with_reducible apply F5 T X hx hc|wp_step))
theorem z0(T:ny K C):PySem.W.KitX K (.ref x) (.ref C) (OC x (.ref C)) where
 ty:=fun _ _ _ ⟨o,e,c,_⟩=>ww e c
 it:=fun _ _ X _=>by
  obtain⟨U9,Cs⟩:=t_.mp T.ty;unfold clsIn at Cs;split at Cs
  .rename_i c' d' U_ NY ho;intro A' Q' E' s' k q;unfold isType loadHead;exact ai (wpAny_loadPart (k _ _ (X _ _ ho)) (wpAny_pure q))
  .cases Cs
 ne:=fun h tp dd its n sl X Nf=>by
  obtain⟨U9,Cs⟩:=t_.mp T.ty;refine qd.mpr fun q=>?_;have e:C=tp:=Value.ref.inj (eG.mp q);subst e;unfold clsIn at Cs;split at Cs
  .rename_i c' d' U_ NY ho;have z:=(X _ _ ho).symm.trans Nf;cases z
  .cases Cs
 ca:=fun {_ _ _ _ _ s} X ⟨o,e,c,_⟩ k=>by
  obtain⟨h,g,d,t,os⟩:=s;exact zZ T X e c k
end
section
variable {X:Cx}
inductive IL (K:PySem.W.Frag) (H:Hp):V->Value->Prop where
 |of {v:V} {t:Value} (h:kD K H v t):IL K H v t
 |exc {p C:Addr} (T:ny K C) (e:H p=some (OD p (.ref C))):IL K H (.ref p) (.ref C)
def OF(K:PySem.W.Frag):List V->Hp->VK->Prop:=fun xs H Q=>∃x c cv t b,xs=[x,c]/\(c=.ty cv/\PySem.W.kitOne K t (.type cv)=some b)/\IL K H x t/\Q (.bl b) H
theorem d7:dZ X (.builtin "isinstance") (OF X.K):=by
 intro ae s σ H xs us Q I r h;obtain⟨x,c,cv,t,b,rfl,⟨rfl,e⟩,ty,q⟩:=h;obtain⟨u1,u2,rfl,r1,r2⟩:=r.two;obtain rfl:u2=Value.type cv:=r2;cases ty with
 |of ty=>exact xK I r1 ty e fun tk=>⟨.bl b,H,I.tok tk,rfl,q⟩
 |@exc p C T ea=>
  obtain rfl:u1=Value.ref p:=r1;have p1:OC p (.ref C) s.heap:=(I.bD p _ ea).1;exact gG (z0 T) I.k6 p1 e (fun z=>nomatch z) fun tk=>⟨.bl b,H,I.tok tk,rfl,q⟩
end
section
variable {X:Cx} {x:Str} {C:Addr} {np lu pos:Pos} {e:Expr} {es:List Expr} {t:TA}
def F6(q:Hp->Prop)(t:TA):TS:=fun _ σ H=>t σ H fun vs H1=>vs.length<=sizeLine/\q H1
theorem ic{q:Hp->Prop}(hc:X.calm=true)(T:ny X.K C)(hg:Gl X x)(hm:X.mg x=some (.ref C))(ha:PA X (e::es) t)(Va:∀ (ae:List (Addr×Obj)) (σ:St) (H1:Hp) (s1:Shared) (h':Heap) (p:Addr) (vs:List Value),aD X ae σ H1 s1->Heap.MadeExcOf s1.heap h' p (.ref C) vs->q H1->X.xe (.ref p) { s1 with heap:=h' })(xL:(x==("__debug__":Str))=false:=by decide)(he:starEach (e::es) X.env=(false,eval e X.env)::starEach es X.env:=by rfl)(o4:(backTo lu (starEach (e::es) X.env)).any (·.1)=false:=by rfl):
  PS X (.Raise (some (.Call (.Name x np) (e::es) [] lu)) none pos) (F6 q t):=by
 intro ae s σ H D I h;obtain⟨bm,N,nm,qn,bs,hdct,sn,sub,ab,col,dd,k0,k1,k2,k3,k5,mN,hC,hN,Nd,TL⟩:=zX I.ok.mod.IG T.ex;refine wpAny_Raise_call_subT (C:=C) (nm:=nm) (q:=qn) (N:=N) (bs:=bs) (bm:=bm) (hdct:=hdct) (sn:=sn) (sub:=sub) (ab:=ab) (col:=col) (dd:=dd) (k0:=k0) (k1:=k1) (k2:=k2) (k3:=k3) (k5:=k5)
  zd (mN:=mN) (TL.hasType zd.hasBase) (I.ok.hd hc) o4 Nd (lK I hg hm ⟨rfl,?_⟩ xL)
 have h1:=ha lu ae s σ H _ I h;rw[he] at h1 |-;exact Calls.evalArgs_plain (jg h1 (fun us s2 ⟨vs,H2,I2,r,hl,z⟩=>⟨rfl,(by show us.length<=sizeLine;rw[<-r.length];exact hl),I2.bk _ _ hC,hN.keeps I2.bk,TL.keeps I2.bk,fun h' p m=>Va ae σ H2 s2 h' p us I2 m z⟩) fun _ _ y=>y)
end
section
variable {X:Cx} {CX:rN} {k:Nat} {f C:Addr} {fd:FuncData} {ps:List Str} {sp:Sp} {lN:List V} {ds:List Value} {E:St->XK} {x m:Str} {p pos ls:Pos} {e o:Expr} {es:List Expr} {ta:TE} {t:TA}
end
section
variable {X:Cx} {CX:rN} {k:Nat} {f:Addr} {fd:FuncData} {ps:List Str} {sp:Sp} {lN:List V} {ds:List Value} {E:XK} {x:Str} {p pos:Pos} {e:Expr} {es:List Expr} {t:TA}
end
section
variable {P:Program} {w:World} {K:PySem.W.Frag} {mg:Str->Option Value} {base:Heap}
theorem dU.EN{x qual:Str}{st:Stmt}{f:Addr}{fd:FuncData}{N ps:List Str}{k:Nat}{sp:Sp}(F:dU K x qual st f fd)(S:az N ps (ak st))(len:∀vs H Q E,sp vs H Q E->vs.length=ps.length)(ng:∀ (cI:Value) (A:Around) (outer:List Env) (s:Shared) (H:Hp) (vs:List V) (Q:VK) (E:XK),bt k (A.deeper (envOfC qual (ak st) s.heap.objs.size f cI))->sp vs H Q E->
   ∃t,tU (gu (eZ P w) P w K mg base N qual (ak st) f cI A outer s H E) (bp st) t/\t { nx:=fun _ H'=>Q .bV H',rt:=Q } (start N vs) H):a9 P w K mg base (eZ P w) (k+1) f fd ps sp:=by
 obtain⟨oc,od,kV,jA,pm,an,cI,ct,rY,rfl,lk,ot⟩:=F.ex;exact zN lk ot S len fun A outer s H vs Q E hr yX=>ng cI A outer s H vs Q E hr yX
end
section
variable {X:Cx} {ae:List (Addr×Obj)} {σ:St} {H:Hp} {s:Shared}
end
section
variable {X:Cx} {CX:rN} {k:Nat} {f:Addr} {fd:FuncData} {ps:List Str} {sp:Sp} {lN:List V} {ds:List Value} {E:XK} {x:Str} {p pos:Pos} {e:Expr} {es:List Expr} {t:TA}
end
section
variable {P:Program} {w:World} {K:PySem.W.Frag} {mg:Str->Option Value} {base:Heap}
end
theorem wz{h:Heap}{a:Addr}{m m':Str->Option Value}(x:h.Ns a m)(y:h.Ns a m'):m=m':=by
 obtain⟨o,es,ep,e,d,_,q⟩:=x;obtain⟨o',tT,M4,e',d',_,q'⟩:=y;rw[e] at e';cases e';rw[d] at d';cases d';funext z;rw[<-q z,q' z]
theorem aD.J7{X:Cx}{ae:List (Addr×Obj)}{σ:St}{H:Hp}{s:Shared}{h':Heap}{m:Str->Option Value}{D:Addr}{o:HO}{t':Nat}(I:aD X ae σ H s)(F:Fr X.base X.env.locals s.heap m)(F':Fr X.base X.env.locals h' m)(N':News X.base X.env.locals h' (fh X.base s.heap X.env.locals))(hD:s.heap.get? D=none)(new:ck X.prog X.w (upd H D o) h' D o):aD X ae σ (upd H D o) { s with heap:=h',toks:=t' }:=by
 have hn:=I.bD.nA hD;have ne:∀b u,s.heap.get? b=some u->b≠D:=fun b u e z=>by rw[z,hD] at e;cases e
 have keep:∀b u,b≠X.env.locals->s.heap.get? b=some u->h'.get? b=some u:=fun b u hb e=>by
  cases q:X.base.get? b with
  |some v=>
   have:=I.bk b v q;rw[e] at this;cases this;exact F'.keep b _ q
  |none=>exact(N' (b,u) (fj hb q e)).1
 refine I.step (g':=s.gens) (d':=s.drawn) (ch:=[]) (fun _ z=>absurd z (by simp)) (fun b u hb _ _ e _=>keep b u hb e) (fun b u hb _ _ e _=>⟨u.slots,keep b u hb e⟩) (fun b u _ e n=>by rw[ao (ne b u e)];exact n) (fun b u _ e=>?_)
  (fun b xs e=>by rw[ao (aq e hn)];exact e) (fun b u v e=>by rw[ao (aq e hn)];exact e) (fun b ps e=>⟨#[],by rw[ao (aq e hn),e];simp⟩) (fun m1 hm=>by rw[wz hm F.ns];exact F'.ns) (fun b u e=>?_) I.bare
 .by_cases hb:b=X.env.locals
  .obtain⟨o',_,_,q,_⟩:=F'.ns;exact⟨o',by rw[hb];exact q⟩
  .exact⟨u,keep b u hb e⟩
 .by_cases hb:b=D
  .subst hb;rw[ah] at e;cases e;exact new
  .rw[ao hb] at e;refine(I.bD b u e).lr (fun c v hc q=>keep c v ?_ q) (fun c q=>by rw[ao (aq q hn)];exact q) fun c xs q=>by rw[ao (aq q hn)];exact q
   rintro rfl;rcases hc with z|hc
   .have f:=I.free;rw[z,e] at f;cases f
   .rw[I.free] at hc;cases hc
theorem oK(I:aD X ae σ H s)(N:News X.base X.env.locals h' ((D,o)::fh X.base s.heap X.env.locals))(dv:∀q∈fh X.base s.heap X.env.locals,q.1<D):s.heap.get? D=none:=by
 cases e:s.heap.get? D with
 |none=>rfl
 |some u=>
  obtain⟨_,n1,n2⟩:=N (D,o) bX;exact absurd (dv (D,u) (fj n1 n2 e)) (eF _)
def z7(K:PySem.W.Frag)(H:Hp)(a:Addr)(y:Int×Int):Prop:=bL K H a [.int y.1,.int y.2]
section
variable {X:Cx}
theorem vj(I:aD X ae σ H s)(h:z7 X.K H a y):∃o n t u,s.heap.get? a=some o/\o.cls=.type "tuple"/\o.data=.seq #[.int y.1 t,.int y.2 u] n:=by
 obtain⟨its,r,p,_⟩:=I.tuple h;obtain⟨u1,u2,rfl,r1,r2⟩:=r.two;obtain⟨t,rfl⟩:=r1;obtain⟨t',rfl⟩:=r2;obtain⟨o,e,c,n,d⟩:=p;exact⟨o,n,t,t',e,c,d⟩
end
def F7(hs:Array Int)(i:Nat):Int:=(hs[i]?).getD 0
def dW(hs:Array Int)(t:SetTable)(h:Int):Option (Array Int×SetTable):=
 if t.gaveWay then none else
 match t.probe (F7 hs) h (t.probeStart h) with
 |some (.empty j none)=>
  let q:=t.put j
  let EO:=SetTable.insertAt hs q.2 h
  if q.1.fits EO.size&&decide (EO.size<=4096) then
   if q.1.tooFull then
    (match q.1.relaid EO (SetTable.grown (hs.size+1)) with
    |some (t2,gK)=>
     let pb:=gK.filterMap (EO[·]?)
     if pb.size==EO.size&&t2.fits pb.size&&decide (SetTable.sizeAbove (SetTable.grown (hs.size+1))<=4096) then some (pb,t2) else none
    |none=>none)
   else some (EO,q.1)
  else none
 |_=>none
def qK(led:Bool):List Int->Option (Array Int×SetTable):=fun l=>l.foldlM (fun q h=>dW q.1 q.2 h) (#[],SetTable.fresh 0 0 led)
def ie(h:Heap)(S:Addr)(hs:Array Int)(t:SetTable):Prop:=∃o es ep,h.get? S=some o/\o.cls=.type "set"/\(o.dict=none/\o.slots=#[])/\o.data=.set es ep t/\es.map (·.1)=hs/\t.fits es.size=true
section
variable {prog:Program} {w:World} {A:Around} {E:Value->Shared->Prop} {s:Shared} {S:Addr}
theorem F8(es:Array (Int×Value)):(fun i=>(es[i]?.map (·.1)).getD 0)=F7 (es.map (·.1)):=by
 funext i;unfold F7;rw[Array.getElem?_map]
theorem jQ(es:Array (Int×Value))(p:Nat)(x:Int×Value):(SetTable.insertAt es p x).map (·.1)=SetTable.insertAt (es.map (·.1)) p x.1:=by
 unfold SetTable.insertAt;simp
theorem kJ(es:Array (Int×Value))(gK:Array Nat):(gK.filterMap (es[·]?)).map (·.1)=gK.filterMap ((es.map (·.1))[·]?):=by
 apply Array.ext';rw[qg,pV,pV,List.map_filterMap];congr 1;funext i;rw[Array.getElem?_map]
theorem vk(hS:ie s.heap S hs t)(hg:t.gaveWay=false)(hp:t.probe (F7 hs) h (t.probeStart h)=some (.empty j none))(q:Q (.free j false) s):
  wpAny (model prog w) A (setSearch S x h true) Q E s:=by
 obtain⟨o,es,ep,ho,hc,SL,hd,hm,hf⟩:=hS;unfold setSearch setSearchFrom;refine ai (qh ho hd hf ?_);dsimp only;rw[hg,am bq];have IM:t.probe (fun i=>(es[i]?.map (·.1)).getD 0) h (t.probeStart h)=some (.empty j none):=by rw[F8,hm];exact hp
 refine ai (wpAny_pure ?_);erw[IM];exact wpAny_pure q
theorem xT(ho:s.heap.get? a=some o)(hc:o.cls=.type "tuple")(hd:o.data=.seq #[.int x t,.int y u] n)(q:Q true s):
  wpAny (model prog w) A (hashByValue 8 (.ref a)) Q E s:=by
 have hT:s.TypeIs (.ref a) "tuple":=⟨_,ho,hc⟩
 unfold hashByValue;refine ai (wpAny_specialOf hT PySem.F.slot_tuple_hash.lookup ?_);refine ai (fT ho hd ?_);refine ai ?_;show wpAny _ _ (forIn #[Value.int x t,Value.int y u] _ _) _ _ s;rw[<-Array.forIn_toList];refine wpAny_forIn_list _ (fun oE r s'=>r.1=none/\s'=s/\∀v∈oE,∃z k,v=Value.int z k) _ ?_ ?_ _ _ ⟨rfl,rfl,fun v hv=>?_⟩
 .rintro v oE r s' ⟨hr,rfl,oJ⟩;obtain⟨z,k,rfl⟩:=oJ v bX;refine ai (wpAny_pure ?_);exact wpAny_pure ⟨rfl,rfl,fun u' z8=>oJ u' (bA _ z8)⟩
 .rintro⟨r1,r2⟩ s' ⟨hr,rfl,_⟩;have oM:r1=none:=hr;subst oM;exact wpAny_pure q
 .rcases aY.mp hv with z|z
  .exact⟨_,_,z⟩
  .rcases aY.mp z with z|z
   .exact⟨_,_,z⟩
   .cases z
theorem wA(hS:ie s.heap S hs t)(hf:t'.fits tT.size=true)(hz:tT.size<=4096)(q:∀h',Heap.SameBut S s.heap h'->ie h' S (tT.map (·.1)) t'->Q () { s with heap:=h' }):wpAny (model prog w) A (storeSet S tT t') Q E s:=by
 obtain⟨o,es,ep,ho,hc,SL,hd,hm,_⟩:=hS;refine wpAny_storeSet_of ho hd (q _ (Heap.SameBut.update s.heap S (Obj.putSet tT t')) ?_) (bn hz (by decide));have g:=mj (Obj.putSet tT t') ho (by rw[putSet_of tT t' hd];rfl);rw[putSet_of tT t' hd] at g;exact⟨_,tT,ep+1,g,hc,SL,rfl,rfl,hf⟩
theorem CP(hu:A.units<cLine)(hS:ie s.heap S hs t)(ho:s.heap.get? a=some o)(hc:o.cls=.type "tuple")(hd:o.data=.seq #[.int x tx,.int y ty] n)(qI:a≠S)(gO:dW hs t (tupleKeyHash (intKind prog w) [x,y])=some (hs',t'))(q:∀h' tk,Heap.SameBut S s.heap h'->ie h' S hs' t'->Q true { s with heap:=h',toks:=tk }):wpAny (model prog w) A (setAdd S (.ref a)) Q E s:=by
 have hk:IsTupleKey (intKind prog w) s.heap [x,y] a:=⟨o,_,n,ho,hc,hd,.cons (intKind_is _ _ _ _) (.cons (intKind_is _ _ _ _) .nil)⟩
 unfold setAdd;refine gI (ai (wpAny_pyHash_tuple hu hk ?_));generalize Ol:s.toks+([x,y].length+1)=tk;generalize hh:tupleKeyHash (intKind prog w) [x,y]=h at gO |-;have SN:=hS;obtain⟨ob,es,ep,hb,OG,X2,B7,hm,hf⟩:=hS;unfold setAddHashed setAddHashedIn;refine gI (ai (qh (s:={ s with toks:=tk }) hb B7 hf ?_));dsimp only;have IN:byScan (.ref a) es=false:=by unfold byScan;rfl
 rw[IN,am bq];unfold dW at gO;cases hg:t.gaveWay with
 |true=>rw[hg,ap rfl] at gO;cases gO
 |false=>
  rw[hg,am bq] at gO;split at gO
  .rename_i j hp;dsimp only at gO;split at gO
   .rename_i Ng;rw[gY,j9] at Ng;refine ai (vk (s:={ s with toks:=tk }) SN hg hp ?_);dsimp only;refine ai (qh (s:={ s with toks:=tk }) hb B7 hf ?_);dsimp only;have Vb:∀ {kk:Bool->Sem Bool},wpAny (model prog w) A (kk true) Q E { s with toks:=tk }->wpAny (model prog w) A (if (t.put j).1.plain=true then hashByValue 8 (.ref a) >>= kk else pure true >>= kk) Q E { s with toks:=tk }:=fun {kk} hP=>by
     split
     .exact ai (xT (s:={ s with toks:=tk }) ho hc hd hP)
     .exact ai (wpAny_pure hP)
    refine Vb ?_;simp only[jh];have iW:(SetTable.insertAt es (t.put j).2 (h,Value.ref a)).size=(SetTable.insertAt hs (t.put j).2 h).size:=by
     rw[<-hm,<-jQ es (t.put j).2 (h,Value.ref a),jJ]
    refine ai (wA (s:={ s with toks:=tk }) SN (by rw[iW];exact Ng.1) (by rw[iW];exact Ng.2) fun h1 iF S1=>?_);rw[jQ,hm] at S1;split at gO
    .rename_i OH;rw[show (!false&&(t.put j).1.tooFull)=true by rw[OH];rfl,ap rfl];split at gO
     .rename_i t2 gK hr;split at gO
      .rename_i hq;rw[gY,gY,j9,eG] at hq;obtain⟨⟨EQ,Nh⟩,SO⟩:=hq;cases gO;have Vc:es.size=hs.size:=by rw[<-hm,jJ]
       refine ai ?_;unfold setRelay;obtain⟨o1,CQ,X3,g1,g2,g3,g4,g5,g6⟩:=id S1;refine ai (qh (s:={ s with heap:=h1,toks:=tk }) g1 g4 g6 ?_);dsimp only;rw[Vc];rw[am (by (have h4:(4096:Nat)<=sizeLine:=by decide);lia)];refine ai ?_;rw[g5,hr];have vl:(gK.filterMap (CQ[·]?)).size=CQ.size:=by
        have e1:=congrArg Array.size (kJ CQ gK);rw[jJ,g5] at e1;rw[e1,EQ,<-g5,jJ]
       refine wpAny_of_eq (show _=(pure (gK.filterMap (CQ[·]?),t'):Sem (Array (Int×Value)×SetTable)) from ?_) ?_
       .show (do
         let tT:=gK.filterMap (CQ[·]?)
         if tT.size != CQ.size then unsupported "internal:set-table-lost-an-element"
         pure (tT,t'):Sem (Array (Int×Value)×SetTable))=_
        simp[vl]
       dsimp only;have OI:CQ.size<=4096:=by
        have e1:=congrArg Array.size g5;rw[jJ] at e1;rw[e1];exact Ng.2
       have Vd:(gK.filterMap (CQ[·]?)).size=(gK.filterMap ((SetTable.insertAt hs (t.put j).2 h)[·]?)).size:=by
        have e1:=congrArg Array.size (kJ CQ gK);rw[jJ,g5] at e1;exact e1
       refine wA (s:={ s with heap:=h1,toks:=tk }) S1 (by rw[Vd];exact Nh) (by rw[vl];exact OI) fun h2 fX S2=>?_;rw[kJ,g5] at S2;exact wpAny_pure (q h2 tk (iF.trans fX) S2)
      .cases gO
     .cases gO
    .rename_i OH;cases gO;have OJ:(t.put j).1.tooFull=false:=by simpa using OH
     rw[show (!false&&(t.put j).1.tooFull)=false by rw[OJ];rfl,am bq];exact wpAny_pure (q h1 tk iF S1)
   .cases gO
  .cases gO
end
section
variable {prog:Program} {w:World} {A:Around} {E:Value->Shared->Prop} {s:Shared} {S Ia l:Addr} {R:Result->Shared->Prop}
def gv(h:Heap)(vs:List Value)(ys:List (Int×Int)):Prop:=vs.length=ys.length/\∀i v,vs[i]?=some v->∃a o n t u,v=.ref a/\h.get? a=some o/\o.cls=.type "tuple"/\o.data=.seq #[.int (ys.getD i (0,0)).1 t,.int (ys.getD i (0,0)).2 u] n
theorem gv.keeps(p:gv h vs ys)(k:∀b o,(∃xs n,o.data=.seq xs n)->h.get? b=some o->h'.get? b=some o):gv h' vs ys:=
 ⟨p.1,fun i v e=>let ⟨a,o,n,t,u,e1,e2,c,d⟩:=p.2 i v e;⟨a,o,n,t,u,e1,k a o ⟨_,_,d⟩ e2,c,d⟩⟩
def dB(prog:Program)(w:World)(y:Int×Int):Int:=tupleKeyHash (intKind prog w) [y.1,y.2]
theorem z9(hh:A.handled=none)(hu:A.units+1<cLine)(Ve:l≠S)(Vf:l≠Ia)(OK:S≠Ia):
  ∀ (k i:Nat) (s:Shared) (hs:Array Int) (t:SetTable),vs.length-i=k->i<=vs.length->s.heap.IsListIter Ia l i->s.heap.IsList l vs.toArray->gv s.heap vs ys->ie s.heap S hs t->
   ((ys.drop i).map (dB prog w)).foldlM (fun q h=>dW q.1 q.2 h) (hs,t)=some (hsN,tN)->
   (∀h' tk,(∀b o,b≠S->b≠Ia->s.heap.get? b=some o->h'.get? b=some o)->ie h' S hsN tN->R (.ok (.ret .none)) { s with heap:=h',toks:=tk })->
   codeAny (model prog w) A (.builtin "set.update.loop" ⟨[.ref S,.ref Ia],[]⟩) R s:=by
 intro k;induction k with
 |zero=>
  intro i s hs t hk hi mT hl hp hS hf hR;have e:i=vs.length:=by lia
  refine mC y9 ?_;rw[uE tW _];show wpAny _ A.in1 (pyNext (.ref Ia) >>= _) _ _ s;refine ai (wpAny_pyNext_list_end (show A.in1.handled=none from hh) mT hl (by simp;lia) fun h' eb=>?_);show wpAny _ A.in1 (ret Value.none) _ _ _;have hd:ys.drop i=[]:=by rw[List.drop_eq_nil_iff];have:=hp.1;lia
  rw[hd] at hf;cases hf;obtain⟨o,es,ep,q1,q2⟩:=hS;exact wpAny_pure (hR h' s.toks (fun b o hb Ni e=>eb b o Ni e) ⟨o,es,ep,eb S o OK q1,q2⟩)
 |succ k ih=>
  intro i s hs t hk hi mT hl hp hS hf hR;have dv:i<vs.length:=by lia
  refine mC y9 ?_;rw[uE tW _];show wpAny _ A.in1 (pyNext (.ref Ia) >>= _) _ _ s;have hv:vs[i]?=some vs[i]:=cu dv;refine ai (wpAny_pyNext_list_item mT hl (x:=vs[i]) (by simpa using hv) fun h1 OL iF=>?_);obtain⟨a,o,n,tx,ty,ea,eo,ec,ed⟩:=hp.2 i _ hv;rw[ea];have SS:∀b ob,(∃xs n,ob.data=.seq xs n)->s.heap.get? b=some ob->b≠Ia:=fun b ob ⟨xs,m,z⟩ e z'=>by
   obtain⟨oi,e1,_,d1⟩:=mT;rw[z',e1] at e;cases e;rw[d1] at z;cases z
  have Vg:gv h1 vs ys:=hp.keeps fun b ob hb e=>(iF.2 b (SS b ob hb e)).trans e;have SU:ie h1 S hs t:=by
   obtain⟨oS,es,ep,q1,q2⟩:=hS;exact⟨oS,es,ep,(iF.2 S OK).trans q1,q2⟩
  have Nj:h1.IsList l vs.toArray:=by
   obtain⟨ol,q1,q2⟩:=hl;exact⟨ol,(iF.2 l Vf).trans q1,q2⟩
  have SV:h1.get? a=some o:=(iF.2 a (SS a o ⟨_,_,ed⟩ eo)).trans eo;have SW:∀b ob,(∃xs n,ob.data=.seq xs n)->h1.get? b=some ob->b≠S:=fun b ob ⟨xs,m,z⟩ e z'=>by
   obtain⟨oS,es,ep,q1,_,_,q4,_⟩:=SU;rw[z',q1] at e;cases e;rw[q4] at z;cases z
  have Cc:i<ys.length:=by have:=hp.1;lia
  have Vh:ys.drop i=ys[i]::ys.drop (i+1):=l8 Cc;have Vi:ys.getD i (0,0)=ys[i]:=by rw[ce,cu Cc];rfl
  rw[Vh,iT,List.foldlM_cons] at hf;cases gO:dW hs t (dB prog w ys[i]) with
  |none=>rw[gO] at hf;cases hf
  |some q=>
   obtain⟨pb,t2⟩:=q;rw[gO] at hf;have SX:((ys.drop (i+1)).map (dB prog w)).foldlM (fun q h=>dW q.1 q.2 h) (pb,t2)=some (hsN,tN):=hf;show wpAny _ A.in1 (holding [Value.ref a] (setAdd S (.ref a)) >>= _) _ _ _;refine ai (gI (CP (s:={ s with heap:=h1 }) (by show A.units+1<cLine;exact hu) SU SV ec ed (SW a o ⟨_,_,ed⟩ SV) (hs':=pb) (t':=t2) (by rw[Vi];exact gO) fun h2 tk fX S2=>?_));refine wpAny_pure ⟨plainId_quiet tW _,?_⟩;refine ih (i+1) { s with heap:=h2,toks:=tk } pb t2 (by lia) dv ?_ ?_ (Vg.keeps fun b ob hb e=>(fX.2 b (SW b ob hb e)).trans e) S2 SX fun h3 Vj k3 S3=>?_
   .obtain⟨oi,q1,q2⟩:=OL;exact⟨oi,(fX.2 Ia (cS OK)).trans q1,q2⟩
   .obtain⟨ol,q1,q2⟩:=Nj;exact⟨ol,(fX.2 l Ve).trans q1,q2⟩
   .exact hR h3 Vj (fun b ob hb Ni e=>k3 b ob hb Ni ((fX.2 b hb).trans ((iF.2 b Ni).trans e))) S3
theorem z_{vs:List Value}{ys:List (Int×Int)}{hsN:Bool->Array Int}{tN:Bool->SetTable}{Q:Value->Shared->Prop}(hh:A.handled=none)(hu:A.units+8<cLine)(hl:s.heap.IsList l vs.toArray)(hp:gv s.heap vs ys)(xU:∀led,qK led (ys.map (dB prog w))=some (hsN led,tN led))(h:∀ (led:Bool) (h':Heap) (tk:Nat),ie h' s.heap.objs.size (hsN led) (tN led)->(∀b o,b<s.heap.objs.size->s.heap.get? b=some o->h'.get? b=some o)->Q (.ref s.heap.objs.size) { s with heap:=h',toks:=tk }):
  wpAny (model prog w) A (call (.type "set") [.ref l]) Q E s:=by
 obtain⟨c,tl,Vk⟩:=kY.mro;have c1:=kY.made;have c2:=kY.sub;refine wpAny_call (codeAny_of_tree ?_);show wpAny _ _ (callAny (.type "set") _) _ _ _;refine wpAny_pure ⟨Code.quiet_builtin _ (by decide +kernel),mC PySem.F.entry_type_call ?_⟩;rw[Around.under_plain (weight_type_call_type "set" [.ref l] []) rfl];have c3:=kY.notType;have c4:=kY.canCreate;have c5:=PySem.F.typeCall_set_1 (.ref l);repeat (any_goals (first|assumption|wp_step))
 refine km (code_set_new_1 (.ref l) (E:=E) (Q₁:=fun obj s₁=>∃led:Bool,obj=.ref s.heap.objs.size/\s₁={ s with heap:=s.heap.push { cls:=.type "set",dict:=none,data:=.set #[] 0 (.fresh 0 0 led) } }) fun led=>⟨led,rfl,rfl⟩) fun r s₁ hr=>?_;cases r with
 |error e=>exact hr
 |ok fl=>
  cases fl with
  |next=>exact hr.elim
  |brk=>exact hr.elim
  |cont=>exact hr.elim
  |ret obj=>
   obtain⟨led,rfl,rfl⟩:=hr;generalize OM:s.heap.push { cls:=.type "set",dict:=none,data:=.set #[] 0 (.fresh 0 0 led) }=hS;have iW:hS.objs.size=s.heap.objs.size+1:=by rw[<-OM,fU]
   have gS:hS.get? s.heap.objs.size=some { cls:=.type "set",dict:=none,data:=.set #[] 0 (.fresh 0 0 led) }:=by rw[<-OM];exact bv _ rfl
   have up:∀b o,s.heap.get? b=some o->hS.get? b=some o:=fun b o e=>by rw[<-OM];exact ba _ e
   have hT:Shared.TypeIs { s with heap:=hS } (.ref s.heap.objs.size) "set":=⟨_,gS,rfl⟩
   have c6:=kY.init.lookup;have c7:=kY.init.bind (.ref s.heap.objs.size);repeat (any_goals (first|assumption|wp_step))
   refine km (uA (R:=wants (fun r s₂=>r=.none/\∃h' tk,s₂={ s with heap:=h',toks:=tk }/\ie h' s.heap.objs.size (hsN led) (tN led)/\
     (∀b o,b<s.heap.objs.size->s.heap.get? b=some o->h'.get? b=some o)) E) kY.init.plain PySem.F.entry_set_init (check_set_init_1 hT ?_)) fun r₂ s₂ J8=>?_
   .obtain⟨ol,ER,EL,nl,SY⟩:=hl;obtain⟨Vl,SZ,S0,ON⟩:=ol;simp only at EL SY;subst EL;subst SY;have OO:=up _ _ ER;have c8:=PySem.F.sub_list_set;have c9:=PySem.F.sub_list_frozenset;have X4:(Value.type "list"==Value.type "dict")=false:=by decide
    have Nj:hS.IsList l vs.toArray:=⟨_,OO,rfl,nl,rfl⟩
    unfold Builtin.«set.__init__» noKeywords Builtin.Frozenset.updateFrom;generalize Vm:pyIter=PI
    wp_walk
    subst Vm;refine mw Nj ?_;refine ai (wpAny_runValue ?_);have dv:l<s.heap.objs.size:=aU ER;refine z9 (l:=l) (vs:=vs) (ys:=ys) (hsN:=hsN led) (tN:=tN led) (by simp[hh]) (by simp;lia) (aL dv) (by rw[iW];exact aL (bQ dv)) (by rw[iW];exact aL (iR _))
     (vs.length-0) 0 _ #[] (.fresh 0 0 led) rfl (cK _) ⟨_,bv _ rfl,rfl,rfl⟩ (Nj.push _) (hp.keeps fun b o _ e=>ba _ (up b o e)) ⟨_,#[],0,ba _ gS,rfl,⟨rfl,rfl⟩,rfl,by simp,rfl⟩ (xU led) fun h' tk k S'=>?_
    show wpAny _ _ _ _ _ _;refine wpAny_pure ?_;show wpAny _ _ (ret Value.none) _ _ _;refine wpAny_pure ⟨rfl,h',tk,rfl,S',fun b o hb e=>?_⟩;exact k b o (aL hb) (by rw[iW];exact aL (bQ hb)) (ba _ (up b o e))
   .cases r₂ with
    |error e=>exact J8
    |ok Vn=>
     cases Vn with
     |next=>exact J8.elim
     |brk=>exact J8.elim
     |cont=>exact J8.elim
     |ret r=>
      obtain⟨rfl,h',tk,rfl,S',k⟩:=J8;repeat (any_goals (first|assumption|wp_step))
      exact h led h' tk S' k
end
open PySem
def Aa(l:List Nat):Nat:=l.foldl (fun a x=>a ||| (1 <<< x)) 0
theorem xV(l:List Nat)(a j:Nat):(l.foldl (fun a x=>a ||| (1 <<< x)) a).testBit j=(a.testBit j||l.contains j):=by
 induction l generalizing a with
 |nil=>simp
 |cons x xs ih=>
  rw[qk,ih,Nat.testBit_or,List.contains_cons];have:(1 <<< x).testBit j=(j==x):=by
   rw[Nat.one_shiftLeft,Nat.testBit_two_pow];by_cases h:x=j
   .simp[h]
   .have h':¬ j=x:=fun e=>h e.symm;simp[h,h']
  rw[this,Bool.or_assoc]
theorem k8(h:Aa l=2 ^ n-1)(hj:j<n):j∈l:=by
 have e:=xV l 0 j;have h':l.foldl (fun a x=>a ||| (1 <<< x)) 0=2 ^ n-1:=h;rw[h',Nat.testBit_two_pow_sub_one] at e;simp[hj] at e;exact e
def Ab(M:Nat):Nat->Nat->Nat
 |0,i=>i
 |n+1,i=>Ab M n ((i*5+1) % M)
theorem lQ(M a:Nat):∀b i,Ab M (b+a) i=Ab M a (Ab M b i)
 |0,i=>by rw[Nat.zero_add];rfl
 |b+1,i=>by
  rw[show b+1+a=(b+a)+1 by lia];show Ab M (b+a) _=Ab M a (Ab M b _);exact lQ M a b _
def F9(M:Nat):Nat->Nat->List Nat
 |0,_=>[]
 |n+1,i=>i::F9 M n ((i*5+1) % M)
theorem nB:∀ {n i},j∈F9 M n i->∃k,k<n/\Ab M k i=j
 |0,_,h=>by cases h
 |n+1,i,h=>by
  rcases aY.mp h with z|z
  .exact⟨0,by lia,z.symm⟩
  .obtain⟨k,a,b⟩:=nB z;exact⟨k+1,by lia,b⟩
structure xW(M:Nat):Prop where
 all:Aa (F9 M M 0)=2 ^ M-1
 back:Ab M M 0=0
theorem OP:xW 8:=⟨by decide +kernel,by decide +kernel⟩
theorem ES:xW 32:=⟨by decide +kernel,by decide +kernel⟩
theorem Ac:xW 128:=⟨by decide +kernel,by decide +kernel⟩
theorem Ad:xW 512:=⟨by decide +kernel,by decide +kernel⟩
theorem xW.cover(R:xW M)(hi:i<M)(hj:j<M):∃n,n<M/\Ab M n i=j:=by
 obtain⟨a,ha,ea⟩:=nB (k8 R.all hi);obtain⟨b,hb,eb⟩:=nB (k8 R.all hj);by_cases h:a<=b
 .refine⟨b-a,by lia,?_⟩;rw[<-ea,<-lQ,show a+(b-a)=b by lia,eb]
 .refine⟨M+b-a,by lia,?_⟩;rw[<-ea,<-lQ,show a+(M+b-a)=M+b by lia,lQ,R.back,eb]
def eI(mask:Nat):Nat->Nat×Nat->Nat×Nat
 |0,q=>q
 |n+1,q=>eI mask n (SetTable.leap mask q.1 q.2)
theorem pq(m a:Nat):∀b q,eI m (b+a) q=eI m a (eI m b q)
 |0,q=>by rw[Nat.zero_add];rfl
 |b+1,q=>by
  rw[show b+1+a=(b+a)+1 by lia];exact pq m a b _
theorem r9:∀ {n:Nat} {q:Nat×Nat},q.1<m+1->(eI m n q).1<m+1
 |0,_,h=>h
 |n+1,q,h=>r9 (n:=n) (eH _ (qv _))
theorem wB:∀ {n:Nat} {q:Nat×Nat},(eI m n q).2=q.2 / 32 ^ n
 |0,_=>by simp[eI]
 |n+1,q=>by
  show (eI m n _).2=_;rw[wB];show q.2 / 32 / 32 ^ n=_;rw[oY,Nat.pow_succ,Nat.mul_comm]
theorem pu:∀ {n i:Nat},eI m n (i,0)=(Ab (m+1) n i,0)
 |0,_=>rfl
 |n+1,i=>by
  show eI m n (SetTable.leap m i 0)=_;unfold SetTable.leap;simp only[Nat.zero_div,Nat.add_zero];exact pu
theorem k9(R:xW (m+1))(hi:i<m+1)(hp:p<2 ^ 64)(hj:j<m+1):∃n,n<m+14/\(eI m n (i,p)).1=j:=by
 have h1:=r9 (m:=m) (n:=13) (q:=(i,p)) hi;have h2:(eI m 13 (i,p)).2=0:=by
  rw[wB];exact uG (bj hp (by decide))
 obtain⟨n,hn,e⟩:=R.cover h1 hj;refine⟨13+n,by lia,?_⟩;rw[pq];have:eI m 13 (i,p)=((eI m 13 (i,p)).1,0):=kq rfl h2;rw[this,pu];exact e
theorem wC(h:Int):SetTable.bits h<2 ^ 64:=by
 unfold SetTable.bits;have a:=ke h (show (2 ^ 64:Int)≠0 by decide);have b:=j8 h (show (0:Int)<2 ^ 64 by decide);lia
theorem J9{M:Nat}{l:List Nat}(h:l.length<M):∃j,j<M/\j∉l:=by
 have key:∀ (a b:List Nat),a.Nodup->(∀x∈a,x∈b)->a.length<=b.length:=by
  intro a;induction a with
  |nil=>intro b _ _;exact cK _
  |cons x xs ih=>
   intro b hn hs;obtain⟨h1,h2⟩:=fQ.mp hn;have hx:x∈b:=hs x bX;have:=ih (b.erase x) h2 fun y hy=>(List.mem_erase_of_ne (fun (e:y=x)=>h1 (e ▸ hy))).mpr (hs y (bA _ hy));rw[zh hx] at this;have:0<b.length:=List.length_pos_of_mem hx;rw[cR];lia
 apply pT;intro CO;have:=key (List.range M) l uH fun x hx=>pT fun oG=>CO ⟨x,eE.mp hx,oG⟩;rw[ja] at this;lia
def vm(mask i p:Nat):SetTable.Probe:={ j:=i,more:=SetTable.runEnd mask i-i,i:=i,perturb:=p,dummy:=none }
theorem F_(mask i:Nat):SetTable.runEnd mask i-i<=9:=by unfold SetTable.runEnd;split <;> lia
theorem qL{t:SetTable}(hd:t.dummies=#[])(j:Nat):t.slot j=.empty\/∃i,t.slot j=.live i/\t.place[i]?=some j:=by
 unfold SetTable.slot;dsimp only;split
 .rename_i h;exact .inr ⟨_,rfl,by simpa using h⟩
 .left;rw[hd];rfl
theorem vn{t:SetTable}(hd:t.dummies=#[]){j:Nat}(h:j∉t.place.toList):t.slot j=.empty:=by
 rcases qL hd j with e|⟨i,_,e2⟩
 .exact e
 .exact absurd (by rw[<-l_] at e2;exact cQ e2) h
section
variable {t:SetTable} {hashAt:Nat->Int} {h:Int}
theorem Ae(hd:t.dummies=#[])(hh:∀i,i<t.place.size->hashAt i≠h)(i p:Nat):∀ (r:Nat) (j d8:Nat),
  (∃j',SetTable.probe.go t hashAt h (d8+r+1) { j:=j,more:=r,i:=i,perturb:=p,dummy:=none }=some (.empty j' none))\/
  SetTable.probe.go t hashAt h (d8+r+1) { j:=j,more:=r,i:=i,perturb:=p,dummy:=none }=SetTable.probe.go t hashAt h d8 (vm t.mask (SetTable.leap t.mask i p).1 (SetTable.leap t.mask i p).2)
 |0,j,d8=>by
  rcases qL hd j with e|⟨k,e,e2⟩
  .exact .inl ⟨j,by unfold SetTable.probe.go;rw[e]⟩
  .right;have hk:k<t.place.size:=(l6.mp e2).1;conv=>lhs;unfold SetTable.probe.go
   rw[e];simp only[eG,hh k hk,ei];rfl
 |r+1,j,d8=>by
  rcases qL hd j with e|⟨k,e,e2⟩
  .exact .inl ⟨j,by rw[show d8+(r+1)+1=(d8+r+1)+1 by lia];unfold SetTable.probe.go;rw[e]⟩
  .have hk:k<t.place.size:=(l6.mp e2).1;have st:SetTable.probe.go t hashAt h (d8+(r+1)+1) { j:=j,more:=r+1,i:=i,perturb:=p,dummy:=none }=SetTable.probe.go t hashAt h (d8+r+1) { j:=j+1,more:=r,i:=i,perturb:=p,dummy:=none }:=by
    rw[show d8+(r+1)+1=(d8+r+1)+1 by lia];conv=>lhs;unfold SetTable.probe.go
    rw[e];simp only[eG,hh k hk,ei];rfl
   rw[st];exact Ae hd hh i p r (j+1) d8
theorem wD(hd:t.dummies=#[])(hh:∀i,i<t.place.size->hashAt i≠h):∀ (m:Nat) (i p d8:Nat),10*(m+1)<=d8->t.slot (eI t.mask m (i,p)).1=.empty->
  ∃j',SetTable.probe.go t hashAt h d8 (vm t.mask i p)=some (.empty j' none)
 |0,i,p,d8,hf,e=>by
  obtain⟨f,rfl⟩:∃f,d8=f+1:=⟨d8-1,by lia⟩
  refine⟨i,?_⟩;have e':t.slot i=.empty:=e;unfold SetTable.probe.go vm;dsimp only;rw[e']
 |m+1,i,p,d8,hf,e=>by
  have hr:=F_ t.mask i;obtain⟨f,CU⟩:∃f,d8=f+(SetTable.runEnd t.mask i-i)+1:=⟨d8-(SetTable.runEnd t.mask i-i)-1,by lia⟩
  rcases Ae (hashAt:=hashAt) (h:=h) hd hh i p (SetTable.runEnd t.mask i-i) i f with z|z
  .rw[CU];exact z
  .rw[CU];show ∃j',SetTable.probe.go t hashAt h _ { j:=i,more:=_,i:=i,perturb:=p,dummy:=none }=_;rw[z];exact wD hd hh m _ _ f (by lia) e
theorem vo(R:xW (t.mask+1))(hd:t.dummies=#[])(hs:t.place.size<=t.mask)(hh:∀i,i<t.place.size->hashAt i≠h):∃j,t.probe hashAt h (t.probeStart h)=some (.empty j none):=by
 obtain⟨j,hj,hn⟩:=J9 (M:=t.mask+1) (l:=t.place.toList) (by simpa using Nat.lt_succ_of_le hs);obtain⟨m,hm,e⟩:=k9 R (eH (SetTable.bits h) (qv t.mask)) (wC h) hj;refine wD hd hh m _ _ _ ?_ (by rw[e];exact vn hd hn);unfold SetTable.turns;lia
end
theorem Af{α β:Type}{f:α->Option β}:∀ {l:List α},(∀q∈l,(f q).isSome=true)->(l.filterMap f).length=l.length
 |[],_=>rfl
 |q::l,h=>by
  have hq:=h q bX;cases e:f q with
  |none=>rw[e] at hq;cases hq
  |some b=>rw[zi e,cR,cR,Af fun x hx=>h x (bA _ hx)]
theorem pz:∀ (m d8 i p:Nat),m<d8->owner.getD (eI mask m (i,p)).1 (some 0)=none->∃j,SetTable.layClean.free mask owner d8 i p=some j/\owner.getD j (some 0)=none
 |m,0,_,_,h,_=>by lia
 |m,d8+1,i,p,h,e=>by
  unfold SetTable.layClean.free;cases hf:(List.range (SetTable.runEnd mask i+1-i)).find? fun k=>(owner.getD (i+k) (some 0)).isNone with
  |some k=>
   refine⟨i+k,rfl,?_⟩;have:=List.find?_some hf;simpa using this
  |none=>
   cases m with
   |zero=>
    have h0:(0:Nat)∈List.range (SetTable.runEnd mask i+1-i):=eE.mpr (by unfold SetTable.runEnd;split <;> lia);have:=List.find?_eq_none.mp hf 0 h0;have e':owner.getD i (some 0)=none:=e;rw[Nat.add_zero,e'] at this;exact absurd rfl this
   |succ m=>
    exact pz m d8 _ _ (by lia) e
structure r_(M:Nat)(owner:Array (Option Nat))(k:Nat):Prop where
 size:owner.size=M
 cnt:owner.toList.countP Option.isSome=k
 lt:∀x,some x∈owner.toList->x<k
theorem vp{l:List (Option Nat)}{j:Nat}{x:Nat}(hj:l[j]?=some none):(l.set j (some x)).countP Option.isSome=l.countP Option.isSome+1:=by
 induction l generalizing j with
 |nil=>cases hj
 |cons a l ih=>
  cases j with
  |zero=>
   obtain rfl:a=none:=by simpa using hj
   simp
  |succ j=>
   rw[List.set_cons_succ,uK,uK,ih (by simpa using hj)];lia
theorem r_.one{mask:Nat}{owner:Array (Option Nat)}{k:Nat}(L:r_ (mask+1) owner k)(R:xW (mask+1))(hk:k<mask+1)(h:Int):
  ∃j,SetTable.layClean.free mask owner (SetTable.turns mask) (SetTable.bits h % (mask+1)) (SetTable.bits h)=some j/\r_ (mask+1) (owner.setIfInBounds j (some k)) (k+1):=by
 have CO:∃j,j<mask+1/\owner.toList[j]?=some none:=by
  apply pT;intro CO;have oJ:∀x∈owner.toList,x.isSome=true:=by
   intro x hx;obtain⟨j,hj,e⟩:=pX.mp hx;cases x with
   |some _=>rfl
   |none=>
    refine absurd ⟨j,?_,?_⟩ CO
    .rw[<-L.size];simpa using hj
    .rw[cu hj,e]
  have:=List.countP_eq_length.mpr oJ;rw[L.cnt,j7,L.size] at this;lia
 obtain⟨j0,Vo,e0⟩:=CO;obtain⟨m,hm,em⟩:=k9 R (eH (SetTable.bits h) (qv mask)) (wC h) Vo;obtain⟨j,ej,en⟩:=pz (mask:=mask) (owner:=owner) m (SetTable.turns mask) (SetTable.bits h % (mask+1)) (SetTable.bits h) (by unfold SetTable.turns;lia)
  (by rw[em,pS,<-l_,e0];rfl)
 refine⟨j,ej,?_⟩;have Vp:owner.toList[j]?=some none:=by
  rw[pS,<-l_] at en;cases hq:owner.toList[j]? with
  |none=>rw[hq] at en;cases en
  |some v=>rw[hq] at en;rw[show v=none from en]
 have J_:(owner.setIfInBounds j (some k)).toList=owner.toList.set j (some k):=by simp
 refine⟨by simp[L.size],by rw[J_,vp Vp,L.cnt],fun x hx=>?_⟩;rw[J_] at hx;rcases List.mem_or_eq_of_mem_set hx with z|z
 .exact bQ (L.lt x z)
 .cases z;exact iR _
theorem wE(R:xW (mask+1)):∀ (l:List Int) (owner:Array (Option Nat)) (k:Nat),r_ (mask+1) owner k->k+l.length<=mask->
  ∃Ag,l.foldl (fun di h=>do
   let (owner,k) <- di
   let j <- SetTable.layClean.free mask owner (SetTable.turns mask) (SetTable.bits h % (mask+1)) (SetTable.bits h)
   pure (owner.setIfInBounds j (some k),k+1)) (some (owner,k))=some (Ag,k+l.length)/\r_ (mask+1) Ag (k+l.length)
 |[],owner,k,L,_=>⟨owner,rfl,L⟩
 |h::l,owner,k,L,hl=>by
  rw[cR] at hl;obtain⟨j,ej,L'⟩:=L.one R (by lia) h;obtain⟨o',e,L2⟩:=wE R l _ _ L' (by lia);refine⟨o',?_,by rw[cR,show k+(l.length+1)=k+1+l.length by lia];exact L2⟩;rw[qk];have:(do
   let (owner,k) <- some (owner,k)
   let j <- SetTable.layClean.free mask owner (SetTable.turns mask) (SetTable.bits h % (mask+1)) (SetTable.bits h)
   pure (owner.setIfInBounds j (some k),k+1):Option (Array (Option Nat)×Nat))=some (owner.setIfInBounds j (some k),k+1):=by
   show (SetTable.layClean.free mask owner (SetTable.turns mask) (SetTable.bits h % (mask+1)) (SetTable.bits h)).bind _=_;rw[ej];rfl
  rw[this,e,cR,show k+(l.length+1)=k+1+l.length by lia]
theorem se(R:xW (mask+1))(hs:Array Int)(h:hs.size<=mask):∃owner,SetTable.layClean mask hs=some owner/\r_ (mask+1) owner hs.size:=by
 have L0:r_ (mask+1) (Array.replicate (mask+1) none) 0:=⟨by simp,by simp[List.countP_replicate],fun x hx=>by simp at hx⟩
 obtain⟨o,e,L⟩:=wE R hs.toList _ 0 L0 (by simpa using h);refine⟨o,?_,by simpa using L⟩;unfold SetTable.layClean;rw[<-Array.foldl_toList];have e':=congrArg (Option.map (·.1)) e;exact e'
theorem vq(L:r_ M owner n):
  ((List.range M).filterMap fun j=>(owner.getD j none).map (j,·)).length=n/\∀q∈(List.range M).filterMap (fun j=>(owner.getD j none).map (j,·)),q.2<n:=by
 constructor
 .rw[<-L.cnt];have e:owner.toList=(List.range M).map fun j=>owner.getD j none:=by
   apply List.ext_getElem
   .simp[L.size]
   .intro i h1 h2;simp only[List.getElem_map,List.getElem_range,Array.getElem_toList];rw[pS,t3 (by simpa using h1)];rfl
  conv=>rhs;rw[e]
  rw[List.countP_map];generalize List.range M=l;induction l with
  |nil=>rfl
  |cons a l ih=>
   rw[uK,<-ih];cases hq:owner.getD a none with
   |none=>rw[List.filterMap_cons_none (by rw[hq];rfl),show (Option.isSome ∘ fun j=>owner.getD j none) a=false by show (owner.getD a none).isSome=false;rw[hq];rfl];simp
   |some x=>rw[zi (b:=(a,x)) (by rw[hq];rfl),show (Option.isSome ∘ fun j=>owner.getD j none) a=true by show (owner.getD a none).isSome=true;rw[hq];rfl];simp
 .intro q hq;obtain⟨j,_,e⟩:=l4.mp hq;cases hx:owner.getD j none with
  |none=>rw[hx] at e;cases e
  |some x=>
   rw[hx] at e;cases e;refine L.lt x ?_;rw[pS,<-l_] at hx;cases hy:owner.toList[j]? with
   |none=>rw[hy] at hx;cases hx
   |some v=>rw[hy] at hx;obtain rfl:v=some x:=hx;exact cQ hy
structure sf(hs:Array Int)(t:SetTable):Prop where
 dm:t.dummies=#[]
 sz:t.place.size=hs.size
 ms:(t.mask=7/\hs.size<=4)\/(t.mask=31/\hs.size<=18)\/(t.mask=127/\hs.size<=76)\/(t.mask=511/\hs.size<=306)
theorem sf.Vq(T:sf hs t):xW (t.mask+1):=by
 rcases T.ms with ⟨e,_⟩|⟨e,_⟩|⟨e,_⟩|⟨e,_⟩ <;> rw[e]
 .exact OP
 .exact ES
 .exact Ac
 .exact Ad
theorem i0(xs:Array α)(p:Nat)(x:α):(SetTable.insertAt xs p x).size=xs.size+1:=by
 unfold SetTable.insertAt;simp;lia
theorem jR(h:y∈(SetTable.insertAt xs p x).toList):y=x\/y∈xs.toList:=by
 unfold SetTable.insertAt at h;rw[dt,j_,uk,uk] at h;rcases cY.mp h with z|z
 .rcases cY.mp z with z|z
  .right;rw[List.extract_eq_drop_take] at z;exact mh (mf z)
  .left;simpa using z
 .right;rw[List.extract_eq_drop_take] at z;exact mh (mf z)
theorem vt{hs:Array Int}{t:SetTable}{h:Int}(T:sf hs t)(hn:h∉hs.toList)(hl:hs.size<300):∃hs' t',dW hs t h=some (hs',t')/\sf hs' t'/\hs'.size=hs.size+1/\∀x∈hs'.toList,x=h\/x∈hs.toList:=by
 have OI:t.place.size<=t.mask:=by rw[T.sz];rcases T.ms with ⟨e,z⟩|⟨e,z⟩|⟨e,z⟩|⟨e,z⟩ <;> lia
 have hh:∀i,i<t.place.size->F7 hs i≠h:=by
  intro i hi e;rw[T.sz] at hi;unfold F7 at e;rw[t3 hi] at e;exact hn (by rw[<-e];simp)
 obtain⟨j,hp⟩:=vo (hashAt:=F7 hs) (h:=h) T.Vq T.dm OI hh;have hg:t.gaveWay=false:=by
  unfold SetTable.gaveWay;rcases T.ms with ⟨e,_⟩|⟨e,_⟩|⟨e,_⟩|⟨e,_⟩ <;> rw[e] <;> rfl
 have q1:(t.put j).1.place=SetTable.insertAt t.place (SetTable.below t.place j) j:=rfl;have q2:(t.put j).1.dummies=#[]:=by
  show (if SetTable.has t.dummies j=true then _ else t.dummies)=_;rw[T.dm];rfl
 have q3:(t.put j).1.mask=t.mask:=rfl;have s1:(SetTable.insertAt hs (t.put j).2 h).size=hs.size+1:=i0 _ _ _;have s2:(t.put j).1.place.size=hs.size+1:=by rw[q1,i0,T.sz]
 have fl:(t.put j).1.fill=hs.size+1:=by unfold SetTable.fill;rw[s2,q2];rfl
 have Vr:(t.put j).1.fits (SetTable.insertAt hs (t.put j).2 h).size=true:=by
  unfold SetTable.fits;rw[s1,s2,fl,q3];simp;rcases T.ms with ⟨e,z⟩|⟨e,z⟩|⟨e,z⟩|⟨e,z⟩ <;> lia
 unfold dW;rw[hg,am bq,hp];dsimp only;rw[ap (by rw[Vr,s1];simp;lia)];by_cases hf:(t.put j).1.tooFull=true
 .rw[ap hf];have CU:=hf;unfold SetTable.tooFull at CU;rw[fl,q3] at CU;have SX:(hs.size+1)*5>=t.mask*3:=by simpa using CU
  have gr:SetTable.grown (hs.size+1)=(hs.size+1)*4:=by unfold SetTable.grown;rw[am (by lia)]
  obtain⟨m2,S4,IP,R2⟩:∃m2,SetTable.sizeAbove (SetTable.grown (hs.size+1))=m2+1/\((m2=31/\hs.size+1<=18)\/(m2=127/\hs.size+1<=76)\/(m2=511/\hs.size+1<=306))/\xW (m2+1):=by
   rw[gr];rcases T.ms with ⟨e,z⟩|⟨e,z⟩|⟨e,z⟩|⟨e,z⟩
   .have:hs.size=4:=by lia
    exact⟨31,by rw[this];rfl,.inl ⟨rfl,by lia⟩,ES⟩
   .have:hs.size=18:=by lia
    exact⟨127,by rw[this];rfl,.inr (.inl ⟨rfl,by lia⟩),Ac⟩
   .have:hs.size=76:=by lia
    exact⟨511,by rw[this];rfl,.inr (.inr ⟨rfl,by lia⟩),Ad⟩
   .lia
  have S5:(SetTable.insertAt hs (t.put j).2 h).size<=m2:=by rw[s1];rcases IP with ⟨e,z⟩|⟨e,z⟩|⟨e,z⟩ <;> lia
  obtain⟨owner,eo,L⟩:=se R2 (SetTable.insertAt hs (t.put j).2 h) S5;obtain⟨Ka,OQ⟩:=vq L;rw[s1] at Ka OQ;generalize Kb:(List.range (m2+1)).filterMap (fun j=>(owner.getD j none).map (j,·))=live at Ka OQ;have er:(t.put j).1.relaid (SetTable.insertAt hs (t.put j).2 h) (SetTable.grown (hs.size+1))=some ({ mask:=m2,place:=(live.map (·.1)).toArray,dummies:=#[],finger:=(t.put j).1.finger,led:=(t.put j).1.led,moves:=(t.put j).1.movedTo m2,plain:=(t.put j).1.plain },(live.map (·.2)).toArray):=by
   unfold SetTable.relaid SetTable.laid;rw[S4];simp only[Nat.add_sub_cancel];rw[eo];show some _=some _;rw[<-Kb]
  rw[er];dsimp only;have vl:((live.map (·.2)).toArray.filterMap ((SetTable.insertAt hs (t.put j).2 h)[·]?)).size=hs.size+1:=by
   rw[<-j7,pV];show ((live.map (·.2)).filterMap _).length=_;rw[<-Ka,List.filterMap_map];refine Af fun q hq=>?_;show ((SetTable.insertAt hs (t.put j).2 h)[q.2]?).isSome=true;rw[t3 (by rw[s1];exact OQ q hq)];rfl
  have Vs:∀x,({ mask:=m2,place:=(live.map (·.1)).toArray,dummies:=#[],finger:=(t.put j).1.finger,led:=(t.put j).1.led,moves:=(t.put j).1.movedTo m2,plain:=(t.put j).1.plain }:SetTable).fits x=(decide (hs.size+1=x)&&decide (hs.size+1<=m2)):=by
   intro x;unfold SetTable.fits SetTable.fill;simp[Ka];rw[je];simp
  rw[ap (by
   rw[vl,s1,Vs,S4];have:hs.size+1<=m2:=by rw[<-s1];exact S5
   simp[this];rcases IP with ⟨e,z⟩|⟨e,z⟩|⟨e,z⟩ <;> lia)]
  refine⟨_,_,rfl,⟨rfl,?_,?_⟩,vl,fun x hx=>?_⟩
  .rw[vl];simp[Ka]
  .rw[vl];exact .inr IP
  .rw[pV] at hx;obtain⟨k,_,ek⟩:=l4.mp hx;refine jR (p:=(t.put j).2) ?_;rw[<-l_] at ek;exact cQ ek
 .rw[am hf];refine⟨_,_,rfl,⟨q2,by rw[s2,s1],?_⟩,s1,fun x hx=>jR hx⟩;have CU:¬ (hs.size+1)*5>=t.mask*3:=by
   intro z;refine hf ?_;unfold SetTable.tooFull;rw[fl,q3];simpa using z
  rw[s1,q3];rcases T.ms with ⟨e,z⟩|⟨e,z⟩|⟨e,z⟩|⟨e,z⟩ <;> lia
theorem k_:∀ (l:List Int) (hs:Array Int) (t:SetTable),sf hs t->(∀x∈l,x∉hs.toList)->l.Nodup->hs.size+l.length<=300->∃hs' t',l.foldlM (fun q h=>dW q.1 q.2 h) (hs,t)=some (hs',t')/\hs'.size=hs.size+l.length
 |[],hs,t,_,_,_,_=>⟨hs,t,rfl,rfl⟩
 |h::l,hs,t,T,hn,nd,hl=>by
  rw[cR] at hl;obtain⟨n1,n2⟩:=fQ.mp nd;obtain⟨EO,t1,e1,T1,z1,m1⟩:=vt T (hn h bX) (by lia);obtain⟨pb,t2,e2,z2⟩:=k_ l EO t1 T1 (fun x hx hy=>by
   rcases m1 x hy with e|e
   .exact n1 (e ▸ hx)
   .exact hn x (bA _ hx) e) n2 (by lia)
  refine⟨pb,t2,?_,by rw[z2,z1,cR];lia⟩;rw[List.foldlM_cons];show (dW hs t h).bind _=_;rw[e1];exact e2
theorem xX(led:Bool)(nd:l.Nodup)(hl:l.length<=300):∃hs t,qK led l=some (hs,t)/\hs.size=l.length:=by
 obtain⟨hs,t,e,z⟩:=k_ l #[] (SetTable.fresh 0 0 led) ⟨rfl,rfl,.inl ⟨rfl,by decide⟩⟩ (fun x _ h=>by simp at h) nd (by simpa using hl);exact⟨hs,t,e,by simpa using z⟩
def wF:List Nat->Nat->Bool
 |[],_=>true
 |x::xs,di=>bif Nat.testBit di x then false else wF xs (di ||| (1 <<< x))
theorem sg:∀ (l:List Nat) (di:Nat),wF l di=true->l.Nodup/\∀x∈l,di.testBit x=false
 |[],_,_=>⟨mB,fun x h=>(nomatch h)⟩
 |x::xs,di,h=>by
  unfold wF at h;cases hb:di.testBit x with
  |true=>rw[hb] at h;cases h
  |false=>
   rw[hb] at h;obtain⟨nd,hx⟩:=sg xs _ h;have S7:∀y∈xs,di.testBit y=false/\y≠x:=by
    intro y hy;have:=hx y hy;rw[Nat.testBit_or,Nat.one_shiftLeft,Nat.testBit_two_pow] at this;rw[Bool.or_eq_false_iff] at this;exact⟨this.1,fun e=>by have:=this.2;simp[e] at this⟩
   refine⟨fQ.mpr ⟨fun hm=>(S7 x hm).2 rfl,nd⟩,fun y hy=>?_⟩;rcases aY.mp hy with z|z
   .rw[z];exact hb
   .exact(S7 y z).1
def nC:List (Int×Int):=(List.range 32).flatMap fun a=>(List.range 32).map fun b=>(Int.ofNat a,Int.ofNat b)
def ET(h:Int):Nat:=(h % 6554).toNat
theorem xY(P:Program)(w:World):wF (nC.map fun y=>ET (dB P w y)) 0=true:=by kernel_rfl
theorem wG(h1:0<=y.1/\y.1<32)(h2:0<=y.2/\y.2<32):y∈nC:=by
 unfold nC;refine uI.mpr ⟨y.1.toNat,eE.mpr (by lia),bg.mpr ⟨y.2.toNat,eE.mpr (by lia),kq ?_ ?_⟩⟩
 .show ((y.1.toNat:Nat):Int)=y.1;lia
 .show ((y.2.toNat:Nat):Int)=y.2;lia
theorem i3:∀ {l:List α},(l.map f).Nodup->∀x∈l,∀y∈l,f x=f y->x=y
 |[],_,_,h,_,_,_=>by cases h
 |a::l,h,x,hx,y,hy,e=>by
  rw[iT] at h;obtain⟨h1,h2⟩:=fQ.mp h;rcases aY.mp hx with z|z <;> rcases aY.mp hy with z'|z'
  .rw[z,z']
  .exact absurd (bg.mpr ⟨y,z',by rw[<-e,z]⟩) h1
  .exact absurd (bg.mpr ⟨x,z,by rw[e,z']⟩) h1
  .exact i3 h2 x z y z' e
theorem qM(hx:(0<=x.1/\x.1<32)/\(0<=x.2/\x.2<32))(hy:(0<=y.1/\y.1<32)/\(0<=y.2/\y.2<32))(e:dB P w x=dB P w y):x=y:=
 i3 (sg _ _ (xY P w)).1 x (wG hx.1 hx.2) y (wG hy.1 hy.2) (congrArg ET e)
theorem kK:∀ {l:List α},l.Nodup->(∀x∈l,∀y∈l,f x=f y->x=y)->(l.map f).Nodup
 |[],_,_=>mB
 |a::l,h,hf=>by
  obtain⟨h1,h2⟩:=fQ.mp h;rw[iT];refine fQ.mpr ⟨fun z=>?_,kK h2 fun x hx y hy=>hf x (bA _ hx) y (bA _ hy)⟩;obtain⟨y,hy,e⟩:=bg.mp z;have:=hf y (bA _ hy) a bX e;exact h1 (this ▸ hy)
theorem si{P:Program}{w:World}(led:Bool){ys:List (Int×Int)}(nd:ys.Nodup)(hr:∀y∈ys,(0<=y.1/\y.1<32)/\(0<=y.2/\y.2<32))(hl:ys.length<=300):
  ∃hs t,qK led (ys.map (dB P w))=some (hs,t)/\hs.size=ys.length:=by
 obtain⟨hs,t,e,z⟩:=xX led (kK nd fun x hx y hy e=>qM (P:=P) (w:=w) (hr x hx) (hr y hy) e) (by rw[a_];exact hl);exact⟨hs,t,e,by rw[z,a_]⟩
theorem wH:∀ {as:List Addr} {its:List Value},aS (as.map V.ref) its->its=as.map Value.ref
 |[],_,r=>by cases r;rfl
 |a::as,_,r=>by
  cases r with
  |cons r rr=>
   obtain rfl:=(show _=Value.ref a from r)
   rw[wH rr];rfl
def CV(D:Addr)(n:Nat):HO:=.ext fun h=>∃hs t,ie h D hs t/\hs.size=n
section
variable {X:Cx}
def Kc(K:PySem.W.Frag):List V->Hp->VK->Prop:=fun xs H Q=>∃ (l:Addr) (as:List Addr) (ys:List (Int×Int)),xs=[.ref l]/\bo K H l (as.map V.ref)/\as.length=ys.length/\
 (∀i,i<ys.length->z7 K H (as.getD i 0) (ys.getD i (0,0)))/\ys.Nodup/\(∀y∈ys,(0<=y.1/\y.1<32)/\(0<=y.2/\y.2<32))/\ys.length<=300/\∀D,H D=none->Q (.ref D) (upd H D (CV D ys.length))
theorem xZ(hc:X.calm=true)(hu:X.A.units+8<cLine):dZ X (.type "set") (Kc X.K):=by
 intro ae s σ H xs us Q I r h;obtain⟨l,as,ys,rfl,hl,fE,hp,nd,rg,h3,q⟩:=h;obtain⟨u1,rfl,r1⟩:=r.one;obtain rfl:u1=Value.ref l:=r1;obtain⟨its,rv,pl,hz⟩:=I.list hl;have e:=wH rv;subst e;have Vt:gv s.heap (as.map Value.ref) ys:=⟨by rw[a_,fE],fun i v hv=>by
  rw[bJ] at hv;cases ea:as[i]? with
  |none=>rw[ea] at hv;cases hv
  |some a=>
   rw[ea] at hv;obtain rfl:Value.ref a=v:=bG hv;have hi:i<as.length:=(cj.mp ea).1;obtain⟨o,n,t,u,e1,c,d⟩:=vj I (hp i (by lia));have eg:as.getD i 0=a:=by rw[ce,ea];rfl
   rw[eg] at e1;exact⟨a,o,n,t,u,rfl,e1,c,d⟩⟩
 have xU:∀led,∃q:Array Int×SetTable,qK led (ys.map (dB X.prog X.w))=some q/\q.1.size=ys.length:=fun led=>
  let ⟨hs,t,e,z⟩:=si (P:=X.prog) (w:=X.w) led nd rg h3;⟨(hs,t),e,z⟩
 refine z_ (I.ok.hd hc) hu pl.isList Vt (hsN:=fun led=>(xU led).choose.1) (tN:=fun led=>(xU led).choose.2) (fun led=>(xU led).choose_spec.1) fun led h' tk S' k=>?_;refine⟨.ref s.heap.objs.size,_,I.zY (t':=tk) (o:=CV s.heap.objs.size ys.length) (fun b u e=>k b u (aU e) e) (p_ (aI _)) ⟨⟨_,_,S',(xU led).choose_spec.2⟩,?_,fun h1 h2 ⟨hs,t,⟨o,es,ep,q1,q2⟩,z⟩ kk=>⟨hs,t,⟨o,es,ep,kk o q1,q2⟩,z⟩⟩,rfl,q _ I.fresh⟩;obtain⟨o,_,_,q1,_⟩:=S';exact⟨o,q1⟩
theorem sj:dZ X (.builtin "len") (fun xs H Q=>∃D n,xs=[.ref D]/\H D=some (CV D n)/\n<=4096/\Q (.int n) H):=by
 intro ae s σ H xs us Q I r h;obtain⟨D,n,rfl,e,hn,q⟩:=h;obtain⟨u1,rfl,r1⟩:=r.one;obtain rfl:u1=Value.ref D:=r1;obtain⟨⟨hs,t,⟨o,es,ep,q1,q2,q3,q4,q5,q6⟩,z⟩,_⟩:=(show ck X.prog X.w H s.heap D (CV D n) from I.bD D _ e)
 have iW:es.size=n:=by rw[<-z,<-q5,jJ]
 exact call_len_set q1 ⟨q2,q3.1,q3.2⟩ q4 q6 (by rw[iW];lia) ⟨.int n,H,I.tok _,⟨_,by rw[iW]⟩,q⟩
end
def jS(e:V->V->Bool):List V->List V->Bool
 |[],[]=>true
 |x::xs,y::ys=>e x y&&jS e xs ys
 |_,_=>false
theorem lc:∀ {xs ys:List V},xs.length=ys.length->jS e xs ys=(List.range xs.length).all fun i=>e (xs.getD i .bV) (ys.getD i .bV)
 |[],[],_=>rfl
 |x::xs,y::ys,h=>by
  have h':xs.length=ys.length:=by simpa using h
  rw[jS,lc h',cR,oZ,mD,List.all_map];rfl
 |[],_::_,h=>by simp at h
 |_::_,[],h=>by simp at h
theorem pA:∀ {xs ys:List V},xs.length≠ys.length->jS e xs ys=false
 |[],[],h=>absurd rfl h
 |x::xs,y::ys,h=>by
  have h':xs.length≠ys.length:=fun z=>h (by simp[z]);rw[jS,pA h',Bool.and_false]
 |[],_::_,_=>rfl
 |_::_,[],_=>rfl
section
variable {X:Cx}
def Kd(X:Cx)(H:Hp)(e:V->V->Bool)(x y:V):Prop:=∀ (ae:List (Addr×Obj)) (s:Shared) (σ:St) (A:Around) (u v:Value),aD X ae σ H s->A.units+1<cLine->bh x u->bh y v->SeqAt.EqAt A s u v (e x y)
def OR(X:Cx)(FZ:Bool)(e:V->V->Bool):R2:=fun x y H Q=>∃p q xs ys,x=.ref p/\y=.ref q/\bo X.K H p xs/\bo X.K H q ys/\(∀i,i<xs.length->i<ys.length->Kd X H e (xs.getD i .bV) (ys.getD i .bV))/\Q (.bl (if FZ then !jS e xs ys else jS e xs ys)) H
theorem Ah(I:aD X ae σ H s)(hu:A.units+1<cLine)(rx:aS xs us)(ry:aS ys vs)(he:∀i,i<xs.length->i<ys.length->Kd X H e (xs.getD i .bV) (ys.getD i .bV)):∀j (h1:j<us.toArray.size) (h2:j<vs.toArray.size),SeqAt.EqAt A s us.toArray[j] vs.toArray[j] (e (xs.getD j .bV) (ys.getD j .bV)):=by
 intro j h1 h2;have j1:j<xs.length:=by rw[rx.length];simpa using h1
 have j2:j<ys.length:=by rw[ry.length];simpa using h2
 have e1:xs[j]?=some (xs.getD j .bV):=by rw[ce,cu j1];rfl
 have e2:ys[j]?=some (ys.getD j .bV):=by rw[ce,cu j2];rfl
 obtain⟨u,OS,ru⟩:=rx.get e1;obtain⟨v,CW,rv⟩:=ry.get e2;have eu:us.toArray[j]=u:=by
  have:us[j]?=some us.toArray[j]:=by simp at h1 |-
  rw[OS] at this;exact(bG this).symm
 have ev:vs.toArray[j]=v:=by
  have:vs[j]?=some vs.toArray[j]:=by simp at h2 |-
  rw[CW] at this;exact(bG this).symm
 rw[eu,ev];exact he j j1 j2 ae s σ A u v I hu ru rv
theorem Ga{e:V->V->Bool}(hu:X.A.units+2<cLine):jO X (compareOp .NotEq) (OR X true e):=by
 intro ae s σ H x y v u Q I rx ry h;obtain⟨p,q,xs,ys,rfl,rfl,hp,hq,he,k⟩:=h;obtain rfl:v=Value.ref p:=rx;obtain rfl:u=Value.ref q:=ry;obtain⟨us,r1,p1,_⟩:=I.list hp;obtain⟨vs,r2,p2,_⟩:=I.list hq;by_cases hl:xs.length=ys.length
 .refine SeqAt.RcNeAt.lists (e:=fun i=>e (xs.getD i .bV) (ys.getD i .bV)) p1.isList p2.isList (by simp only[cp];rw[<-r1.length,<-r2.length];exact hl) (by lia) (Ah I (by show X.A.units+1+1<cLine;lia) r1 r2 he) _ _ _ _ ⟨.bl _,H,I,rfl,?_⟩;rw[show us.toArray.size=xs.length by rw[cp,r1.length],<-lc hl];exact k
 .refine SeqAt.RcNeAt.lists_lengths p1.isList p2.isList (by simp only[cp];rw[<-r1.length,<-r2.length];simpa using hl) (by lia) _ _ _ _ ⟨.bl _,H,I,rfl,?_⟩;have k':=k;rw[pA hl] at k';exact k'
theorem x0(hc:X.calm=true):dZ X (.builtin "any") (fun xs H Q=>∃ (p:Addr) (bs:List Bool),xs=[.ref p]/\bo X.K H p (bs.map V.bl)/\Q (.bl (bs.any id)) H):=by
 intro ae s σ H xs us Q I r h;obtain⟨p,bs,rfl,hp,q⟩:=h;obtain⟨u1,rfl,r1⟩:=r.one;obtain rfl:u1=Value.ref p:=r1;obtain⟨its,rv,pl,hz⟩:=I.list hp;have Ai:its=bs.map Value.bool:=by
  have go:∀ (bs:List Bool) (its:List Value),aS (bs.map V.bl) its->its=bs.map Value.bool:=by
   intro bs;induction bs with
   |nil=>intro its r;cases r;rfl
   |cons b bs ih=>
    intro its r;cases r with
    |cons r rr=>
     obtain rfl:=(show _=Value.bool b from r)
     rw[ih _ rr];rfl
  exact go bs its rv
 subst Ai;obtain⟨ob,OT,_⟩:=id pl.isList;have dv:p<s.heap.objs.size:=aU OT;refine call_any_walk (mw pl.isList ⟨s.heap.objs.size,_,_,_,_,_,fun i=>bs.getD i false,rfl,Walks.list (show X.A.in1.handled=none from I.ok.hd hc) _ p (aL dv) _,⟨⟨_,bv _ rfl,rfl,rfl⟩,pl.isList.push _⟩,fun i v s1 Q' E' hv hq=>?_,fun h' tk k=>?_⟩)
 .have xI:(bs.map Value.bool)[i]?=some v:=by simpa using hv
  rw[bJ] at xI;cases eb:bs[i]? with
  |none=>rw[eb] at xI;cases xI
  |some b=>
   rw[eb] at xI;obtain rfl:Value.bool b=v:=bG xI;have:bs.getD i false=b:=by rw[ce,eb];rfl
   have Cw:Q' b s1:=by rw[<-this];exact hq
   exact wpAny_pure Cw
 .have keep:∀b o,s.heap.get? b=some o->h'.get? b=some o:=fun b o e=>k b o (by simpa using aL (aU e)) (ba _ e);refine⟨.bl (bs.any id),H,I.kept (t':=tk) keep,?_,q⟩;show Value.bool _=Value.bool _;congr 1;have go:∀ (bs:List Bool),((List.range bs.length).any fun i=>bs.getD i false)=bs.any id:=by
   intro bs;induction bs with
   |nil=>rfl
   |cons b bs ih=>
    rw[cR,oZ,qr,List.any_map,qr,<-ih];rfl
  rw[<-go bs];simp
end
def pB(c:Addr)(qual:Str):HO:=.ext fun h=>h.CodeRec (.ref c) qual
theorem Aj(x:h.CodeRec (.ref c) qual):ck P w H h c (pB c qual):=by
 refine⟨x,?_,?_⟩
 .obtain⟨c',o,vs,t,e,ho,_⟩:=x;cases e;exact⟨o,ho⟩
 .rintro h1 h2 ⟨c',o,vs,t,e,ho,r⟩ k;cases e;exact⟨c,o,vs,t,rfl,k o ho,r⟩
def EU(f:Addr)(qual:Str)(params:Arguments)(body:Expr)(scope:Scope)(cells:List (Str×Addr))(c:Addr)(h:Heap):Prop:=
 ∃ (ig:List (Str×Addr)) (pm wI:Value),(∀x a,ig.lookup x=some a->cells.lookup x=some a)/\(∀x,(x,NameKind.free)∈scope.names->∃a,ig.lookup x=some a)/\
  h.get? f=some (PySem.W.kla_obj "<lambda>" qual params body scope ig pm c wI)
def vu(f:Addr)(qual:Str)(params:Arguments)(body:Expr)(scope:Scope)(cells:List (Str×Addr))(c:Addr):HO:=.ext (EU f qual params body scope cells c)
theorem wJ(x:EU f qual params body scope cells c h):
  ck P w H h f (vu f qual params body scope cells c):=by
 refine⟨x,?_,?_⟩
 .obtain⟨_,_,_,_,_,e⟩:=x;exact⟨_,e⟩
 .rintro h1 h2 ⟨ig,pm,wI,a,b,e⟩ k;exact⟨ig,pm,wI,a,b,k _ e⟩
def pC(lp:Pos)(qual:Str)(P:Addr)(H:Hp):Prop:=H P=some (.lq #[])\/∃c,H P=some (.lq #[rawInt lp.line,rawInt lp.col,.ref c])/\H c=some (pB c qual)
structure CY(X:Cx)(c P:Addr):Prop where
 code:X.env.code=.ref c
 hd:PySem.W.CodeHd X.base c P
 bm:∃bm o,X.mg "__builtins__"=some (.ref bm)/\bm≠builtinsNs/\bm≠mainGlobals/\X.base.get? bm=some o/\o.cls=.type "module"/\o.dict=some builtinsNs/\o.data=.plain
def OU(lp:Pos)(qual:Str)(P:Addr)(params:Arguments)(body:Expr)(scope:Scope)(cells:List (Str×Addr)):TE:=fun _ H Q=>pC lp qual P H/\
 ∀ (f c:Addr) (H2:Hp),pC lp qual P H2->(∀b o,H b=some o->b≠P->H2 b=some o)->H2 c=some (pB c qual)->H2 f=some (vu f qual params body scope cells c)->Q (.ref f) H2
theorem sk{lp:Pos}{c:Addr}:TriplesOk (#[rawInt lp.line,rawInt lp.col,.ref c]:Array Value).toList:=trivial
theorem x_:codeAmong lp (#[rawInt lp.line,rawInt lp.col,.ref c]:Array Value).toList=some (.ref c):=by
 show (if ((lp.line:Int)==(lp.line:Int)&&(lp.col:Int)==(lp.col:Int))=true then some (Value.ref c) else _)=_;simp
section
variable {X:Cx} {c P:Addr} {params:Arguments} {body:Expr} {scope:Scope} {lp:Pos} {NB:List Str} {src:List (Option Nat)}
theorem CY.at(C:CY X c P)(I:aD X ae σ H s)(hP:H P=some (.lq ps)):s.heap.BuiltinsAt X.mg P:=by
 obtain⟨bm,o,b1,b2,b3,b4,b5,b6,b7⟩:=C.bm;refine⟨bm,o,b1,b2,b3,fun z=>?_,I.bk _ _ b4,b5,b6,b7⟩;have:=(I.bs _ _ b4).2;rw[z,hP] at this;cases this
theorem aD.EV(I:aD X ae σ H s):s.heap.Ns mainGlobals X.mg:=I.mod.glob.keeps I.bk
theorem Gb(C:CY X c P)(S:eV NB src scope X)(OV:defaultsOf params X.env=([],[]):=by rfl):PE X (.Lambda params body scope lp) (OU lp (X.env.qual++"<lambda>") P params body scope X.env.cells):=by
 intro ae s σ H Q I h;obtain⟨Vu,h⟩:=h;obtain⟨ig,S_,c1,c2⟩:=jq I.ok S;refine PySem.W.kla_eval OV ?_;have iW:∀b o,s.heap.get? b=some o->b<s.heap.objs.size:=fun b o e=>aU e;rcases Vu with hP|⟨c',hP,FG⟩
 .-- Vv first time
  have Ke:s.heap.get? P=some (PySem.W.tabObj #[]):=I.bD P _ hP;have Vw:X.env.locals≠P:=fun z=>by have f:=I.free;rw[z,hP] at f;cases f
  have Vx:mainGlobals≠P:=fun z=>by
   obtain⟨o,es,ep,e,d,_⟩:=I.mod.glob;have:=(I.bs _ _ e).2;rw[z,hP] at this;cases this
  refine PySem.W.kla_makeFunction (mg:=X.mg) S_ I.ok.glob I.EV C.code (C.hd.keeps I.bk) Ke (by trivial) rfl Vx (C.at I hP) fun c' wI h' tk hx CZ dv OW Ta=>?_;have C0:∀b o,b≠P->s.heap.get? b=some o->(h'.push (PySem.W.kla_obj "<lambda>" (X.env.qual++"<lambda>") params body scope ig ((X.mg "__name__").getD .none) c' wI)).get? b=some o:=fun b o hb e=>ba _ (hx b o hb e);have Vy:c'≠P:=gJ (bj (iW _ _ Ke) CZ);have Vz:h'.objs.size≠P:=gJ (bj (iW _ _ Ke) (bn CZ (g8 dv)));have VA:h'.objs.size≠c':=gJ dv;have nf:H h'.objs.size=none:=I.bD.fresh (by lia);have nc:H c'=none:=I.bD.fresh CZ
  let H2:Hp:=upd (upd (upd H P (.lq #[rawInt lp.line,rawInt lp.col,.ref c'])) c' (pB c' (X.env.qual++"<lambda>"))) h'.objs.size (vu h'.objs.size (X.env.qual++"<lambda>") params body scope X.env.cells c')
  have eP:H2 P=some (.lq #[rawInt lp.line,rawInt lp.col,.ref c']):=by
   show upd _ _ _ _=_;rw[ao Vz.symm,ao Vy.symm,ah]
  have ec:H2 c'=some (pB c' (X.env.qual++"<lambda>")):=by
   show upd _ _ _ _=_;rw[ao VA.symm,ah]
  have ef:H2 h'.objs.size=some (vu h'.objs.size (X.env.qual++"<lambda>") params body scope X.env.cells c'):=ah;have eo:∀b,b≠P->b≠c'->b≠h'.objs.size->H2 b=H b:=fun b h1 h2 h3=>by
   show upd _ _ _ _=_;rw[ao h3,ao h2,ao h1]
  have gR:∀b o,H b=some o->b≠P->H2 b=some o:=fun b o e hb=>by
   rw[eo b hb (aq e nc) (aq e nf)];exact e
  have I2:aD X ae σ H2 { s with heap:=h'.push (PySem.W.kla_obj "<lambda>" (X.env.qual++"<lambda>") params body scope ig ((X.mg "__name__").getD .none) c' wI),toks:=tk }:=by
   refine I.step (g':=s.gens) (d':=s.drawn) (ch:=[]) (fun _ z=>absurd z (by simp)) (fun b o _ _ _ e n=>C0 b o (fun z=>by rw[z,hP] at n;cases n) e) (fun b o _ _ _ e n=>⟨o.slots,C0 b o (fun z=>by rw[z,hP] at n;cases n) e⟩)
    (fun b o _ e n=>?_) (fun b o _ e=>?_) (fun b xs e=>gR b _ e fun z=>by rw[z,hP] at e;cases e) (fun b o u e=>gR b _ e fun z=>by rw[z,hP] at e;cases e) (fun b ps e=>?_) (fun m hm=>?_) (fun b o e=>?_) I.bare
   .rw[eo b (fun z=>by rw[z,hP] at n;cases n) (aL (bj (iW b o e) CZ)) (aL (bj (iW b o e) (bn CZ (g8 dv))))];exact n
   .by_cases hb:b=P
    .exact⟨_,by rw[hb];exact ba _ Ta⟩
    .exact⟨o,C0 b o hb e⟩
   .by_cases hb:b=P
    .rw[hb] at e |-;rw[hP] at e;cases e;exact⟨#[rawInt lp.line,rawInt lp.col,.ref c'],by rw[eP];simp⟩
    .exact⟨#[],by rw[gR b _ e hb];simp⟩
   .exact(hm.extBut hx Vw).push _
   .by_cases Tb:b=h'.objs.size
    .subst Tb;rw[ef] at e;cases e;exact wJ ⟨ig,_,wI,c1,c2,bv _ rfl⟩
    .by_cases OG:b=c'
     .subst OG;rw[ec] at e;cases e;refine Aj ?_;obtain⟨c₂,oc,vs,t,e2,M6,r⟩:=OW;exact⟨c₂,oc,vs,t,e2,ba _ M6,r⟩
     .by_cases OX:b=P
      .subst OX;rw[eP] at e;cases e;exact ba _ Ta
      .rw[eo b OX OG Tb] at e;refine(I.bD b o e).lr (fun d u hd q=>C0 d u ?_ q) (fun d q=>gR d _ q fun z=>by rw[z,hP] at q;cases q) fun d xs q=>gR d _ q fun z=>by rw[z,hP] at q;cases q
       rintro rfl;rcases hd with z|z
       .exact OX z.symm
       .rw[hP] at z;cases z
  exact⟨.ref h'.objs.size,H2,I2,rfl,h _ c' H2 (.inr ⟨c',eP,ec⟩) gR ec ef⟩
 .-- again
  have Ke:s.heap.get? P=some (PySem.W.tabObj #[rawInt lp.line,rawInt lp.col,.ref c']):=I.bD P _ hP;refine PySem.W.kla_makeFunctionHit (mg:=X.mg) S_ I.ok.glob I.EV C.code (C.hd.keeps I.bk) Ke sk x_ (C.at I hP) fun wI h' tk hk CZ=>?_;have nf:H h'.objs.size=none:=I.bD.fresh CZ
  let H2:Hp:=upd H h'.objs.size (vu h'.objs.size (X.env.qual++"<lambda>") params body scope X.env.cells c')
  have ef:H2 h'.objs.size=some (vu h'.objs.size (X.env.qual++"<lambda>") params body scope X.env.cells c'):=ah;have gR:∀b o,H b=some o->H2 b=some o:=fun b o e=>by
   show upd _ _ _ _=_;rw[ao (aq e nf)];exact e
  have C0:∀b o,s.heap.get? b=some o->(h'.push (PySem.W.kla_obj "<lambda>" (X.env.qual++"<lambda>") params body scope ig ((X.mg "__name__").getD .none) c' wI)).get? b=some o:=fun b o e=>ba _ (hk b o e);have I2:aD X ae σ H2 { s with heap:=h'.push (PySem.W.kla_obj "<lambda>" (X.env.qual++"<lambda>") params body scope ig ((X.mg "__name__").getD .none) c' wI),toks:=tk }:=by
   refine I.step (g':=s.gens) (d':=s.drawn) (ch:=[]) (fun _ z=>absurd z (by simp)) (fun b o _ _ _ e n=>C0 b o e) (fun b o _ _ _ e n=>⟨o.slots,C0 b o e⟩)
    (fun b o _ e n=>?_) (fun b o _ e=>⟨o,C0 b o e⟩) (fun b xs e=>gR b _ e) (fun b o u e=>gR b _ e) (fun b ps e=>⟨#[],by rw[gR b _ e];simp⟩) (fun m hm=>(hm.keeps hk).push _) (I.bD.laid C0 CZ (wJ ⟨ig,_,wI,c1,c2,bv _ rfl⟩)) I.bare
   .show upd _ _ _ _=_;rw[ao (aL (bj (iW b o e) CZ))];exact n
  exact⟨.ref h'.objs.size,H2,I2,rfl,h _ c' H2 (.inr ⟨c',gR _ _ hP,gR _ _ FG⟩) (fun b o e _=>gR b o e) (gR _ _ FG) ef⟩
end
def Ak(X:Cx)(id:String)(ks:List Str)(r:St->List V->List V->Hp->VK->Prop):Prop:=
 ∀ (ae:List (Addr×Obj)) (s:Shared) (σ:St) (H:Hp) (vs zs:List V) (us ws:List Value) (Q:VK),aD X ae σ H s->aS vs us->aS zs ws->r σ vs zs H Q->
  wpAny (model X.prog X.w) X.A (call (.builtin id) us (ks.zip ws)) (EP X ae σ Q) X.xe s
def OY(r:St->List V->List V->Hp->VK->Prop)(t tk:TA):TE:=fun σ H Q=>t σ H fun vs H1=>tk σ H1 fun zs H2=>r σ vs zs H2 Q
section
variable {X:Cx} {x:Str} {p pos:Pos} {e:Expr} {es:List Expr} {zM:List Keyword} {t tk:TA} {id:String} {ks:List Str} {r:St->List V->List V->Hp->VK->Prop}
theorem ya(hc:Ak X id ks r)(hg:Gl X x)(hm:X.mg x=none)(hv:bootBuiltins x=some (.builtin id))(ha:PA X (e::es) t)(VB:PK X zM tk)(hn:x≠"__name__":=by decide)(xL:(x==("__debug__":Str))=false:=by decide)(VC:(backToKw pos (keywordEach zM X.env)).filterMap (·.1)=ks:=by rfl)(he:backTo pos (starEach (e::es) X.env)=(false,eval e X.env)::backTo pos (starEach es X.env):=by rfl)(vg:(backTo pos (starEach (e::es) X.env)).any (·.1)=false:=by rfl)(oJ:(backToKw pos (keywordEach zM X.env)).all (·.1.isSome)=true:=by rfl)(CO:(backToKw pos (keywordEach zM X.env)).any (·.1.isNone)=false:=by rfl):PE X (.Call (.Name x p) (e::es) zM pos) (OY r t tk):=by
 intro ae s σ H Q I h;refine mn (ge I hg hm hv ?_ hn xL);refine PyProof.Rows.callWith_kw (cC (ha pos ae s σ H _ I h) fun us s1 ⟨vs,H1,I1,r1,q1⟩=>?_) he vg oJ CO;refine cC (VB pos ae s1 σ H1 _ I1 q1) fun ws s2 ⟨zs,H2,I2,rz,q2⟩=>?_;rw[VC];exact hc ae s2 σ H2 vs zs us ws Q I2 r1 rz q2
end
def Gc(za zb:Int)(ns out:List Int):Prop:=∃ps:List (Int×Int),ps.Perm (ns.map fun z=>((z-za) % zb,z))/\out=ps.map (·.2)/\ps.Pairwise fun p q=>p.1<=q.1
def Gd(X:Cx)(qual:Str)(params:Arguments)(body:Expr)(scope:Scope)(ia ib:Nat):St->List V->List V->Hp->VK->Prop:=fun σ vs zs H Q=>
 ∃ (l f c:Addr) (ns:List Int) (za zb:Int),vs=[.ref l]/\zs=[.ref f]/\bo X.K H l (ns.map V.int)/\ns.length<64/\H f=some (vu f qual params body scope X.env.cells c)/\H c=some (pB c qual)/\
  σ[ia]?=some (some (.int za))/\σ[ib]?=some (some (.int zb))/\0<zb/\∀ (r:Addr) (out:List Int),H r=none->Gc za zb ns out->Q (.ref r) (upd H r (.lst (out.map V.int)))
theorem pD:∀ {ns:List Int} {vs:List Value},aS (ns.map V.int) vs->IntsAre vs ns
 |[],_,.nil=>.nil
 |_::_,_,.cons ⟨t,e⟩ r=>by subst e;exact .cons _ t (pD r)
structure Kg(X:Cx)(qual:Str)(params:Arguments)(body:Expr)(scope:Scope)(y a b:Str)(ia ib:Nat):Prop where
 bd:∃p1 p2 p3 p4 p5,body=.BinOp (.BinOp (.Name y p1) .Sub (.Name a p2) p3) .Mod (.Name b p4) p5
 bind:∀ig pm c wI v,bindArgs (PySem.W.kla_fn "<lambda>" qual params body scope ig pm (.ref c) wI) ⟨[v],[]⟩=pure [(y,v)]
 na:X.N[ia]?=some a
 nb:X.N[ib]?=some b
 ca:X.env.scope.names.lookup a=some .cell
 cb:X.env.scope.names.lookup b=some .cell
 ly:scope.names.lookup y=some .local
 fa:scope.names.lookup a=some .free
 fb:scope.names.lookup b=some .free
 ma:(a,NameKind.free)∈scope.names
 mb:(b,NameKind.free)∈scope.names
 Ge:∀z∈scope.names,z.2≠.cell
 kind:scope.kind=.function
 co:scope.isCoroutine=false
 gen:scope.isGenerator=false
 dy:(y==("__debug__":Str))=false
 da:(a==("__debug__":Str))=false/\(a==("__classdict__":Str))=false
 db:(b==("__debug__":Str))=false/\(b==("__classdict__":Str))=false
theorem vv(S:Kg X qual params body scope y a b ia ib)(hr:bt k X.A):
  Ak X "sorted" ["key"] (Gd X qual params body scope ia ib):=by
 intro ae s σ H vs zs us ws Q I r rz h;obtain⟨l,f,c,ns,za,zb,rfl,rfl,hl,Kh,hf,hc,sa,sb,OZ,q⟩:=h;obtain⟨u1,rfl,r1⟩:=r.one;obtain rfl:u1=Value.ref l:=r1;obtain⟨w1,rfl,VD⟩:=rz.one;obtain rfl:w1=Value.ref f:=VD;obtain⟨its,rv,pl,hz⟩:=I.list hl;have hI:=pD rv;obtain⟨m,F⟩:=I.fr;obtain⟨p1,p2,p3,p4,p5,rfl⟩:=S.bd;obtain⟨ig,pm,wI,c1,c2,JW⟩:=(I.bD f _ hf).1;have VE:s.heap.CodeRec (.ref c) qual:=(I.bD c _ hc).1;obtain⟨m',M5,Tc⟩:=I.loc;have Ki:∃ca ta,ig.lookup a=some ca/\s.heap.IsCell ca (some (.int za ta)):=by
  obtain⟨u,⟨ta,rfl⟩,lk⟩:=Tc ia a (.int za) S.na sa (.inr (.inl S.ca));obtain⟨ca,e1⟩:=c2 a S.ma;rcases lk with ⟨z,_⟩|⟨_,X5,e2,e3⟩
  .have z':X.env.scope.names.lookup a=some .local:=z;rw[S.ca] at z';cases z'
  .have e4:=c1 a ca e1;rw[e2] at e4;cases e4;exact⟨ca,ta,e1,e3⟩
 have Kj:∃cb tb,ig.lookup b=some cb/\s.heap.IsCell cb (some (.int zb tb)):=by
  obtain⟨u,⟨tb,rfl⟩,lk⟩:=Tc ib b (.int zb) S.nb sb (.inr (.inl S.cb));obtain⟨cb,e1⟩:=c2 b S.mb;rcases lk with ⟨z,_⟩|⟨_,X6,e2,e3⟩
  .have z':X.env.scope.names.lookup b=some .local:=z;rw[S.cb] at z';cases z'
  .have e4:=c1 b cb e1;rw[e2] at e4;cases e4;exact⟨cb,tb,e1,e3⟩
 obtain⟨ca,ta,ea,ha⟩:=Ki;obtain⟨cb,tb,eb,hb⟩:=Kj;have Nk:∀b' (o:Obj),s.heap.get? b'=some o->(∀es ep,o.data≠.dict es ep)->b'≠X.env.locals:=fun b' o e d z=>by
  obtain⟨o',es,ep,e',d',_⟩:=F.ns;rw[z,e'] at e;cases e;exact d _ _ d'
 have len:(ns.map fun z=>(z-za) % zb).length=its.length:=by rw[a_,hI.length]
 refine ksk_sorted (b:=false) (f:=.ref f) (kz:=ns.map fun z=>(z-za) % zb) F rQ pl.isList len (by rw[hI.length];exact Kh) (ksk_s1 _ _) (fun x=>ksk_l1 _ _) (fun x=>ksk_t1 _ _) ?_ ?_
 .-- one key
  intro i v k hv hk h tk own F' N';have at_:∀b' u,b'≠X.env.locals->s.heap.get? b'=some u->h.get? b'=some u:=fun b' u qI e=>by
   cases z:X.base.get? b' with
   |some o=>
    have:=I.bk b' o z;rw[e] at this;cases this;exact F'.keep b' _ z
   |none=>exact(N' (b',u) (kU _ (fj qI z e))).1
  have O0:=at_ f _ (Nk f _ JW (by intro es ep z;cases z)) JW;have O1:h.CodeRec (.ref c) qual:=by
   obtain⟨c0,o,VF,t0,e0,ho,hd,VG⟩:=VE;refine⟨c0,o,VF,t0,e0,at_ _ _ (Nk _ _ ho (by rw[hd];intro es ep z;cases z)) ho,hd,VG⟩
  have JV:h.IsCell ca (some (.int za ta)):=by
   obtain⟨o,ho,hd⟩:=ha;exact⟨o,at_ _ _ (Nk _ _ ho (by rw[hd];intro es ep z;cases z)) ho,hd⟩
  have r6:h.IsCell cb (some (.int zb tb)):=by
   obtain⟨o,ho,hd⟩:=hb;exact⟨o,at_ _ _ (Nk _ _ ho (by rw[hd];intro es ep z;cases z)) ho,hd⟩
  obtain⟨z,tz,rfl,rfl⟩:∃z tz,v=.int z tz/\k=(z-za) % zb:=by
   obtain⟨n,t,e⟩:=hI.all v (cQ hv);refine⟨n,t,e,?_⟩;rw[bJ] at hk;have hn:=hI.nums;have e1:(its.map numOf)[i]?=some n:=by rw[bJ,hv,e];rfl
   rw[hn] at e1;rw[e1] at hk;exact(bG hk).symm
  have Kk:X.A.in1.in1.depth<recursionLimit:=by
   have:=hr.dp;show X.A.depth<_;lia
  refine wpAny_call (PySem.W.kla_callFunE Kk O0 rfl S.co S.gen rfl O1 ?_);rw[S.bind];refine wpAny_pure (wpAny_newFunctionEnv S.Ge (fun x hx=>by rw[dH.mp hx];exact S.ly) (fun h₁ vw Td=>⟨((I.ok.mod.nolimit).keeps F'.keep).fresh _ Td,?_⟩) S.kind);have Kl:∀b o,h.get? b=some o->h₁.get? b=some o:=fun b o e=>Td.extBut b o (aL (aU e)) (ba _ e);have VH:=JV.keeps Kl;have VI:=r6.keeps Kl;refine PySem.W.kla_codeExpr ?_;refine wpAny_BinOp (wpAny_BinOp ?_);refine kn (uz S.kind S.ly vw (v:=.int z tz) (by simp) ?_) S.dy;refine kn (uF S.kind S.fa ea VH ?_ S.da.2) S.da.1;refine sub_int ?_;refine kn (uF S.kind S.fb eb VI ?_ S.db.2) S.db.1;refine mod_int' (by lia) ?_;rw[tY _ (by lia)];refine KskEnd.intro (news':=fh X.base s.heap X.env.locals++own) ⟨F'.ns.keeps Kl,fun b o e=>Kl b o (F'.keep b o e),F'.above⟩ (fun p hp=>⟨Kl _ _ (N' p hp).1,(N' p hp).2⟩) fun p hp=>hp
 .-- Vv list
  intro D h' tk out cc F' N' dv O2;have hD:=oK I N' dv;obtain⟨ps,hp,ho,hs⟩:=O2;have CM:∀p∈ps,∃n t,p.2=.int n t:=fun p IM=>by
   have:=hp.mem_iff.mp IM;exact hI.all _ (my this).2
  have VJ:((ns.map fun z=>(z-za) % zb).zip its).map (fun p=>(p.1,numOf p.2))=ns.map fun z=>((z-za) % zb,z):=by
   have hn:=hI.nums;rw[<-hn];have go:∀ (l:List Value),((((l.map numOf).map fun z=>(z-za) % zb).zip l).map fun p=>(p.1,numOf p.2))=(l.map numOf).map fun z=>((z-za) % zb,z):=by
    intro l;induction l with
    |nil=>rfl
    |cons x l ih=>simp only[iT,List.zip_cons_cons,ih]
   exact go its
  have zU:aS ((ps.map fun p=>(p.1,numOf p.2)).map (fun p=>V.int p.2)) (ps.map Prod.snd):=by
   have go:∀ (l:List (Int×Value)),(∀p∈l,∃n t,p.2=.int n t)->aS ((l.map fun p=>(p.1,numOf p.2)).map (fun p=>V.int p.2)) (l.map Prod.snd):=by
    intro l;induction l with
    |nil=>intro _;exact .nil
    |cons x l ih=>
     intro hx;refine .cons ?_ (ih fun p hp=>hx p (bA _ hp));obtain⟨n,t,e⟩:=hx x bX;show ∃t,x.2=Value.int (numOf x.2) t;rw[e];exact⟨t,rfl⟩
   exact go ps CM
  have yb:Gc za zb ns ((ps.map fun p=>(p.1,numOf p.2)).map (·.2)):=by
   refine⟨ps.map fun p=>(p.1,numOf p.2),?_,rfl,?_⟩
   .rw[<-VJ];exact hp.map _
   .refine jF.mpr (hs.imp fun {p q} z=>?_);simpa using z
  have VL:h'.get? D=some (seqObj "list" out cc):=(N' _ bX).1;have I2:aD X ae σ (upd H D (.lst (((ps.map fun p=>(p.1,numOf p.2)).map (·.2)).map V.int))) { s with heap:=h',toks:=tk }:=by
   refine I.J7 F F' (fun p hp=>N' p (bA _ hp)) hD ⟨?_,ps.map Prod.snd,cc,?_,?_⟩
   .have h1:=hp.length_eq;rw[List.length_zip,len,Nat.min_self] at h1;simp only[a_];rw[h1,hI.length];exact bn (g8 Kh) (by decide)
   .have ev:=zU;simp only[dY] at ev |-;exact ev
   .rw[VL,<-ho]
  exact⟨.ref D,_,I2,rfl,q D _ (I.bD.nA hD) yb⟩
def qN(mg:Str->Option Value)(base:Heap):Prop:=∃bm o,mg "__builtins__"=some (.ref bm)/\bm≠builtinsNs/\bm≠mainGlobals/\base.get? bm=some o/\o.cls=.type "module"/\o.dict=some builtinsNs/\o.data=.plain
def wK(ts:List Addr)(H:Hp):Prop:=(∀P∈ts,H P=some (.lq #[]))/\∀b,H b=none\/(b∈ts/\H b=some (.lq #[]))\/∃o xs,H b=some (.o5 o (.lst xs))
theorem yc{P:Program}{w:World}{K:PySem.W.Frag}{mg mb:Str->Option Value}{CX:rN}{k:Nat}{fa a:Addr}{fd:FuncData}{x:Str}{sp:Sp}{s₁:Shared}{vs:List Value}{ns:List Int}{ts:List Addr}(KX:K.In s₁.heap)(vw:s₁.heap.Ns mainGlobals mg)(hb:s₁.heap.Ns builtinsNs mb)(VM:∀x:Str,x≠"__name__"->mb x=bootBuiltins x)(O4:s₁.heap.NoLimit)(hg:s₁.gens=#[])(VN:qN mg s₁.heap)(Km:∀P∈ts,s₁.heap.get? P=some (PySem.W.tabObj #[]))(ot:∀P∈ts,∃c,PySem.W.codeHdIn K c P=true)(O5:∀P∈ts,K.lookup P=none)(ha:s₁.heap.get? a=some { cls:=.type "list",data:=.seq vs.toArray })(hi:IntsAre vs ns)(hl:ns.length<=sizeLine)(hr:bt k callerA)(F:∀base:Heap,K.In base->base.Ns mainGlobals mg->qN mg base->a9 P w K mg base CX k fa fd [x] sp)(Kn:∀ (s:Shared) (u:Value),BindsTo s fd ⟨[u],[]⟩ [(x,u)])(yX:∀H:Hp,wK ts H->bo K H a (ns.map V.int)->sp [.ref a] H (fun v _=>v=.bl true) fun _ _ _=>False)(O6:∀H e s',CX [] H s₁ (fun _ _ _=>False) e s'->False):
  codeAny (model P w) callerA (.call (.ref fa) ⟨[.ref a],[]⟩) (fun r s'=>r=.ok (.ret (.bool true))/\OldK s₁.heap s'.heap/\s'.os=s₁.os/\AllBare s'.gens) s₁:=by
 have rv:=kF hi;have O7:=hi.length;have Tf:a∉ts:=fun z=>by
  have:=Km a z;rw[ha] at this;cases this
 have Ko:∀H:Hp,wK ts H->bo K H a (ns.map V.int)->jL P w H s₁.heap->(∀b,H b≠none->b=a\/b∈ts)->(H a≠none->K.lookup a=none)->
   codeAny (model P w) callerA (.call (.ref fa) ⟨[.ref a],[]⟩) (fun r s'=>r=.ok (.ret (.bool true))/\OldK s₁.heap s'.heap/\s'.os=s₁.os/\AllBare s'.gens) s₁:=by
  intro H hO hS bD hA hK;have qO:∀ {b:Addr} {o:Obj},s₁.heap.get? b=some o->H b=none->(oB s₁.heap H).get? b=some o:=fun e n=>zm e n;have II:∀ {b:Addr} {o:Obj},s₁.heap.get? b=some o->(∀v n,o.data≠.seq v n)->(∀v,o.data≠.fields v)->H b=none:=fun {b o} e d1 d2=>by
   cases q:H b with
   |none=>rfl
   |some u=>
    rcases hA b (by rw[q];simp) with e'|e'
    .subst e';rw[ha] at e;cases e;exact absurd rfl (d1 _ _)
    .rw[Km b e'] at e;cases e;exact absurd rfl (d2 _)
  have Nl:∀ {b:Addr} {m:Str->Option Value},s₁.heap.Ns b m->(oB s₁.heap H).Ns b m:=fun {b m} ⟨o,es,ep,e,d,r⟩=>⟨o,es,ep,qO e (II e (by rw[d];intro v n z;cases z) (by rw[d];intro v z;cases z)),d,r⟩
  have Tg:K.In (oB s₁.heap H):=fun b o e=>qO (KX b o e) (by
   cases q:H b with
   |none=>rfl
   |some u=>
    rcases hA b (by rw[q];simp) with e'|e'
    .subst e';rw[hK (by rw[q];simp)] at e;cases e
    .rw[O5 b e'] at e;cases e)
  have hB:qN mg (oB s₁.heap H):=by
   obtain⟨bm,o,b1,b2,b3,b4,b5,b6,b7⟩:=VN;exact⟨bm,o,b1,b2,b3,qO b4 (II b4 (by rw[b7];intro v n z;cases z) (by rw[b7];intro v z;cases z)),b5,b6,b7⟩
  have hM:Mod K mg (oB s₁.heap H):=⟨Tg,Nl vw,⟨mb,Nl hb,VM⟩,let ⟨mc,h1,h2⟩:=O4;⟨mc,Nl h1,h2⟩⟩
  have e0:vc P w K mg (oB s₁.heap H) callerA [] s₁ H:=⟨rfl,hM,fun b o e=>Ci e,mJ (xA _ _),trivial,fun b hb=>absurd (show b∈([]:List Addr) from hb) (by simp),bD,.of_eq hg⟩
  refine km ((F _ Tg (Nl vw) hB).run callerA [] s₁ H ⟨[.ref a],[]⟩ [.ref a] [.ref a] _ _ hr e0 (Kn s₁ (.ref a)) (.cons rfl .nil) (yX H hO hS)) fun r s' h=>?_;cases r with
  |error e=>exact(O6 H e s' h).elim
  |ok fl=>
   cases fl with
   |next=>exact False.elim h
   |brk=>exact False.elim h
   |cont=>exact False.elim h
   |ret u=>
    obtain⟨v,H',os,bare,un,Kp,r',q⟩:=h;have q':v=.bl true:=q;subst q';obtain rfl:u=Value.bool true:=r';refine⟨rfl,⟨fun b o e=>?_,fun b o e=>un.there b o e (by simp)⟩,os,bare⟩;cases q:H b with
    |none=>exact .inl (un.keep b o e q (by intro z;exact absurd (show b∈([]:List Addr) from z) (by simp)) (by simp))
    |some u=>
     rcases hO.2 b with z|⟨zt,z⟩|⟨ob,xs,z⟩
     .rw[q] at z;cases z
     .obtain⟨more,z2⟩:=un.ku b _ z;have e1:=Km b zt;rw[e] at e1;cases e1;have e2:s'.heap.get? b=some { cls:=.none,data:=.fields (#[]++more) }:=Kp b _ z2;obtain⟨c,hc⟩:=ot b zt;obtain⟨oc,VO,_,_,_,_,_,_,_,g1,g2,g3,g4,_⟩:=PySem.W.codeHd_of_K KX hc;exact .inr (.inl ⟨⟨c,oc,VO,g1,g2,g3,g4⟩,rfl,#[],more,rfl,e2⟩)
     .have z2:=un.kr b ob _ z;obtain⟨e1,_⟩:=bD b _ z;obtain⟨e2,_⟩:=Kp b _ z2;rw[e] at e1;cases e1;exact .inl e2
 have Th:∀ (H:Hp),(∀P∈ts,H P=some (.lq #[]))->True:=fun _ _=>trivial
 classical
 cases hk:K.lookup a with
 |some o=>
  have e:=KX a o hk;rw[ha] at e;cases e;refine Ko (fun b=>if b∈ts then some (.lq #[]) else none) ⟨fun P hP=>ap hP,fun b=>?_⟩ (.inr ⟨_,vs.toArray,_,hk,rfl,rfl,rfl,by rw[cp,O7];exact hl,by simpa using rv⟩) (fun b u z=>?_) (fun b z=>?_) fun z=>absurd (am Tf) z
  .by_cases hb:b∈ts
   .exact .inr (.inl ⟨hb,ap hb⟩)
   .exact .inl (am hb)
  .by_cases hb:b∈ts
   .have z':=(ap hb).symm.trans z;cases z';exact Km b hb
   .have z':=(am hb).symm.trans z;cases z'
  .by_cases hb:b∈ts
   .exact .inr hb
   .exact absurd (am hb) z
 |none=>
  refine Ko (fun b=>if b=a then some (.o5 { cls:=.type "list",data:=.seq vs.toArray } (.lst (ns.map V.int))) else if b∈ts then some (.lq #[]) else none) ⟨fun P hP=>?_,fun b=>?_⟩ (.inl (.inr ⟨{ cls:=.type "list",data:=.seq vs.toArray },ap rfl⟩)) (fun b u z=>?_) (fun b z=>?_) fun _=>hk
  .have:P≠a:=fun z=>Tf (z ▸ hP);show (if P=a then _ else if P∈ts then _ else _)=_;rw[am this,ap hP]
  .by_cases hb:b=a
   .exact .inr (.inr ⟨_,_,ap hb⟩)
   .by_cases ht:b∈ts
    .exact .inr (.inl ⟨ht,by show (if b=a then _ else if b∈ts then _ else _)=_;rw[am hb,ap ht]⟩)
    .exact .inl (by show (if b=a then _ else if b∈ts then _ else _)=_;rw[am hb,am ht])
  .by_cases hb:b=a
   .have z':=(ap hb).symm.trans z;cases z';subst hb;exact⟨ha,by rw[a_];exact hl,vs,_,rv,ha⟩
   .have z1:(if b∈ts then some (HO.lq #[]) else none)=some u:=(am hb).symm.trans z;by_cases ht:b∈ts
    .rw[ap ht] at z1;cases z1;exact Km b ht
    .rw[am ht] at z1;cases z1
  .by_cases hb:b=a
   .exact .inl hb
   .by_cases ht:b∈ts
    .exact .inr ht
    .exact absurd (by show (if b=a then _ else if b∈ts then _ else _)=_;rw[am hb,am ht]) z
theorem Al{l:PySem.W.OpenLaw}{n k:Nat}{q:Program}{pj:List Str}{XP:(Str->Option Value)->Heap->Prop}{YP:World->Heap->Prop}{d:DefRec}{K:Params->PySem.W.Frag}{CX:World->rN}{sp:World->Sp}{x:Str}{ts:List Addr}(hn:l.most=some n)(EI:n<=sizeLine)(JT:d.params.defaults=[])(hr:bt k callerA)(hY:∀ (w:World) (h:Heap),YP w h->(K w.params).In h)(hT:∀ (w:World) (h:Heap),YP w h->∀P∈ts,h.get? P=some (PySem.W.tabObj #[]))(ot:∀ (w:World),∀P∈ts,∃c,PySem.W.codeHdIn (K w.params) c P=true)(O5:∀ (w:World),∀P∈ts,(K w.params).lookup P=none)(F:∀ (w:World) (mg:Str->Option Value) (fa:Addr) (h:Heap),(K w.params).In h->h.Ns mainGlobals mg->mg d.name=some (.ref fa)->
   ∃fd:FuncData,(∀ (s:Shared) (u:Value),BindsTo s fd ⟨[u],[]⟩ [(x,u)])/\
    ∀base:Heap,(K w.params).In base->base.Ns mainGlobals mg->qN mg base->a9 l.prog w (K w.params) mg base (CX w) k fa fd [x] (sp w))(yX:∀ (w:World) (H:Hp) (a:Addr) (ns:List Int),ns.length<=n->wK ts H->bo (K w.params) H a (ns.map V.int)->sp w [.ref a] H (fun v _=>v=.bl true) fun _ _ _=>False)(O6:∀ (w:World) (H:Hp) (s:Shared) (e:Value) (s':Shared),CX w [] H s (fun _ _ _=>False) e s'->False):
  PySem.W.WalkO q pj XP YP l.row.toRowW d [] (fun f vs=>PySem.call f vs):=by
 refine SE.rZ hn JT fun w s₀ s₁ mg mb fa o pm cd jA a vs ns G Y ho hd VP JU F1 zV fE hg=>?_;have KX:=hY w _ Y;obtain⟨fd,hb,hF⟩:=F w mg fa _ KX G.T.g JU;have hB:qN mg s₁.heap:=by
  obtain⟨bm,ob,b1,b2,b3,b4,b5,b6⟩:=G.T.bmain;refine⟨bm,ob,b1,b2,fun z=>?_,b3,b4,b5,b6⟩;obtain⟨o',es,ep,e,Jn,_⟩:=G.T.g;rw[z,e] at b3;cases b3;rw[Jn] at b6;cases b6
 exact yc KX G.T.g G.T.b G.T.builtins G.T.nolimit hg hB (hT w _ Y) (ot w) (O5 w) F1 zV (bn fE EI) hr hF hb (fun H hO hS=>yX w H a ns fE hO hS) fun H e s'=>O6 w H s₁ e s'
structure vx(K:PySem.W.Frag)(x qual:Str)(st:Stmt)(f:Addr)(fd:FuncData)(c:Addr):Prop where
 ex:∃ (oc:Value) (od:Option Addr) (kV jA pm:Value) (an:Option Addr) (ct:Value) (rY:Array (Option Value)),
  fd=PySem.W.fnOf x qual (b9 st) (bp st) (ak st) .none kV jA pm an (.ref c) ct/\K.lookup f=some ⟨oc,od,.func fd,rY⟩/\PySem.W.codeIn K (.ref c) qual=true
 kp:PySem.W.keepIn K (.ref f)=true
theorem vx.fun{K:PySem.W.Frag}{x qual:Str}{st:Stmt}{f:Addr}{fd:FuncData}{c:Addr}(F:vx K x qual st f fd c):dU K x qual st f fd:=by
 obtain⟨oc,od,kV,jA,pm,an,ct,rY,e,lk,ot⟩:=F.ex;exact⟨⟨oc,od,kV,jA,pm,an,_,ct,rY,e,lk,ot⟩,F.kp⟩
section
variable {P:Program} {w:World} {K:PySem.W.Frag} {mg:Str->Option Value} {base:Heap}
theorem vx.ok{x qual:Str}{st:Stmt}{f:Addr}{fd:FuncData}{c:Addr}{N ps:List Str}{k:Nat}{sp:Sp}(F:vx K x qual st f fd c)(S:az N ps (ak st))(len:∀vs H Q E,sp vs H Q E->vs.length=ps.length)(ng:∀ (A:Around) (outer:List Env) (s:Shared) (H:Hp) (vs:List V) (Q:VK) (E:XK),bt k (A.deeper (envOfC qual (ak st) s.heap.objs.size f (.ref c)))->sp vs H Q E->
   ∃t,tU (gu aX P w K mg base N qual (ak st) f (.ref c) A outer s H E).EE (bp st) t/\t { nx:=fun _ H'=>Q .bV H',rt:=Q } (start N vs) H):a9 P w K mg base aX (k+1) f fd ps sp:=by
 obtain⟨oc,od,kV,jA,pm,an,ct,rY,rfl,lk,ot⟩:=F.ex;refine zN lk ot S len fun A outer s H vs Q E hr yX=>?_;obtain⟨t,h,q⟩:=ng A outer s H vs Q E hr yX;exact⟨t,h.EE,q⟩
theorem C1{x qual:Str}{st:Stmt}{f c:Addr}{oc:Value}{od an:Option Addr}{rY:Array (Option Value)}{kV jA pm ct:Value}(l:K.lookup f=some ⟨oc,od,.func (PySem.W.fnOf x qual (b9 st) (bp st) (ak st) .none kV jA pm an (.ref c) ct),rY⟩)(ot:PySem.W.codeIn K (.ref c) qual=true)(kp:PySem.W.keepIn K (.ref f)=true):vx K x qual st f (PySem.W.fnOf x qual (b9 st) (bp st) (ak st) .none kV jA pm an (.ref c) ct) c:=⟨⟨oc,od,kV,jA,pm,an,ct,rY,rfl,l,ot⟩,kp⟩
theorem C2(kb:K.In base)(hb:qN mg base)(hc:PySem.W.codeHdIn K c P'=true):
  CY (gu CX P w K mg base N qual scope f (.ref c) A outer s H E).EE c P':=⟨rfl,PySem.W.codeHd_of_K kb hc,hb⟩
end
def lR(sc O8:Scope)(y:Str×NameKind):Bool:=match y.2 with
 |.cell=>(match sc.names.lookup y.1 with|some .cell=>true|_=>false)
 |.local=>(match sc.names.lookup y.1 with|some .local=>true|_=>false)
 |.free=>(match O8.names.lookup y.1 with|some .cell=>true|some .free=>true|_=>false)
 |_=>true
def Am(NB:List Str)(src:List (Option Nat))(sc:Scope)(N:List Str)(i:Nat):Bool:=match NB[i]?,src[i]? with
 |some x,some (some j)=>(N[j]?==some x)&&(match sc.names.lookup x with|some .free=>true|_=>false)
 |_,_=>true
def wL(sc:Scope):Bool:=match sc.kind with|.function=>true|_=>false
def An(NB:List Str)(src:List (Option Nat))(sc O8:Scope)(N:List Str):Bool:=
 wL sc&&decide NB.Nodup&&(src.length==NB.length)&&(sc.names.all (lR sc O8))&&(List.range NB.length).all (Am NB src sc N)
theorem cJ(h:An NB src sc X.env.scope X.N=true):eV NB src sc X:=by
 unfold An at h;simp only[gY,j9,eG,jH] at h;obtain⟨⟨⟨⟨h1,h2⟩,h3⟩,h4⟩,h5⟩:=h;refine⟨?_,h2,h3,fun y hy z=>?_,fun y hy z=>?_,fun y hy z=>?_,fun i x j e1 e2=>?_⟩
 .unfold wL at h1;split at h1
  .assumption
  .cases h1
 .have:=h4 y hy;obtain⟨n,k⟩:=y;obtain rfl:k=.cell:=z;dsimp only[lR] at this |-;split at this
  .assumption
  .cases this
 .have:=h4 y hy;obtain⟨n,k⟩:=y;obtain rfl:k=.local:=z;dsimp only[lR] at this |-;split at this
  .assumption
  .cases this
 .have:=h4 y hy;obtain⟨n,k⟩:=y;obtain rfl:k=.free:=z;dsimp only[lR] at this |-;split at this
  .exact .inl (by assumption)
  .exact .inr (by assumption)
  .cases this
 .have hi:i<NB.length:=(cj.mp e1).1;have:=h5 i (eE.mpr hi);unfold Am at this;rw[e1,e2] at this;simp only[gY,eG] at this;refine⟨this.1,?_⟩;have t2:=this.2;split at t2
  .assumption
  .cases t2
theorem fZ{K:PySem.W.Frag}{a D:Addr}{xs:List V}{g:TG}{tt:TT}{te:TE}{dz:Hp->Prop}{σB:St}{H0:Hp}(Pv:Nat->List V->St->Hp->Prop)(h0:Pv 0 [] σB H0)(hl:∀i ys σ H,i<=xs.length->Pv i ys σ H->bo K H a xs)(hs:∀i x ys σ H (Kt:V->St->Hp->Prop) (Kf:St->Hp->Prop),xs[i]?=some x->Pv i ys σ H->
   (∀v σ2 H4,H4 D=some (.lst ys)->ys.length<sizeLine->Pv (i+1) (ys++[v]) σ2 (upd H4 D (.lst (ys++[v])))->Kt v σ2 H4)->(∀σ2 H3,Pv (i+1) ys σ2 H3->Kf σ2 H3)->
   g x σ H fun σ2 H2=>tt σ2 H2 fun b H3=>if b=true then te σ2 H3 fun v H4=>Kt v σ2 H4 else Kf σ2 H3)(hd:∀ys σ H,Pv xs.length ys σ H->dz H):iZ (Cn K a) g tt te D dz σB H0:=by
 refine⟨fun i m σ H=>m=xs.length-i/\i<=xs.length/\∃ys,Pv i ys σ H,⟨xs.length,by simp,cK _,[],h0⟩,?_⟩;rintro i m σ H ⟨rfl,hi,ys,p⟩;have q:=hl i ys σ H hi p;by_cases dv:i<xs.length
 .refine .inr ⟨⟨xs,xs[i],q,by simp[dv]⟩,?_⟩;rintro x H' ⟨rfl,y⟩;exact hs i x ys σ _ (fun v σ2 H4=>∃ys,H4 D=some (.lst ys)/\ys.length<sizeLine/\∃m',m'<xs.length-i/\m'=xs.length-(i+1)/\i+1<=xs.length/\∃ss,Pv (i+1) ss σ2 (upd H4 D (.lst (ys++[v]))))
   (fun σ2 H3=>∃m',m'<xs.length-i/\m'=xs.length-(i+1)/\i+1<=xs.length/\∃ss,Pv (i+1) ss σ2 H3) (y xs q) p
   (fun v σ2 H4 z1 z2 z3=>⟨ys,z1,z2,_,by lia,rfl,dv,_,z3⟩) (fun σ2 H3 z=>⟨_,by lia,rfl,dv,_,z⟩)
 .have e:i=xs.length:=by lia
  subst e;exact .inl ⟨⟨xs,q,aI _⟩,hd ys σ H p⟩
theorem eW{lo:Int}{n:Nat}{D:Addr}{g:TG}{tt:TT}{te:TE}{dz:Hp->Prop}{σB:St}{H0:Hp}(Pv:Nat->List V->St->Hp->Prop)(h0:Pv 0 [] σB H0)(hs:∀i ys σ H (Kt:V->St->Hp->Prop) (Kf:St->Hp->Prop),i<n->Pv i ys σ H->
   (∀v σ2 H4,H4 D=some (.lst ys)->ys.length<sizeLine->Pv (i+1) (ys++[v]) σ2 (upd H4 D (.lst (ys++[v])))->Kt v σ2 H4)->(∀σ2 H3,Pv (i+1) ys σ2 H3->Kf σ2 H3)->
   g (.int (lo+i)) σ H fun σ2 H2=>tt σ2 H2 fun b H3=>if b=true then te σ2 H3 fun v H4=>Kt v σ2 H4 else Kf σ2 H3)(hd:∀ys σ H,Pv n ys σ H->dz H):iZ (FN lo n) g tt te D dz σB H0:=by
 refine⟨fun i m σ H=>m=n-i/\i<=n/\∃ys,Pv i ys σ H,⟨n,by simp,cK _,[],h0⟩,?_⟩;rintro i m σ H ⟨rfl,hi,ys,p⟩;by_cases dv:i<n
 .refine .inr ⟨dv,?_⟩;rintro x H' ⟨rfl,rfl⟩;exact hs i ys σ _ (fun v σ2 H4=>∃ys,H4 D=some (.lst ys)/\ys.length<sizeLine/\∃m',m'<n-i/\m'=n-(i+1)/\i+1<=n/\∃ss,Pv (i+1) ss σ2 (upd H4 D (.lst (ys++[v]))))
   (fun σ2 H3=>∃m',m'<n-i/\m'=n-(i+1)/\i+1<=n/\∃ss,Pv (i+1) ss σ2 H3) dv p
   (fun v σ2 H4 z1 z2 z3=>⟨ys,z1,z2,_,by lia,rfl,dv,_,z3⟩) (fun σ2 H3 z=>⟨_,by lia,rfl,dv,_,z⟩)
 .have e:i=n:=by lia
  subst e;exact .inl ⟨aI _,hd ys σ H p⟩
section
variable {κ:Type} [DecidableEq κ]
end
section
variable {P:Program} {w:World} {H:Hp} {h:Heap} {a:Addr}
end
section
variable {X:Cx} {ae:List (Addr×Obj)} {σ:St} {H:Hp} {s:Shared} {a:Addr} {y v:V} {u r:Value} {o:Option V} {A:Around} {E:Value->Shared->Prop}
end
section
variable {X:Cx} {ae:List (Addr×Obj)} {σ:St} {H:Hp} {s:Shared} {a:Addr} {jK:List (oz×V)} {k:oz} {u:Value} {A:Around} {E:Value->Shared->Prop}
end
section
variable {X:Cx} {o i e value:Expr} {pos xE zK:Pos} {td ty tv:TE}
end
section
variable {X:Cx} {pos:Pos}
end
section
variable {X:Cx} {ae:List (Addr×Obj)} {σ:St} {H:Hp} {s:Shared} {a:Addr} {y d:V} {u r:Value} {o:Option V} {A:Around} {E:Value->Shared->Prop}
end
section
variable {X:Cx} {o e f:Expr} {ls lu:Pos} {td ty tx:TE}
end
section
variable {X:Cx} {ae:List (Addr×Obj)} {σ:St} {H:Hp} {s:Shared} {a:Addr} {jK:List (oz×V)} {A:Around} {E:Value->Shared->Prop}
end
section
variable {X:Cx} {ae:List (Addr×Obj)} {σ:St} {H:Hp} {s:Shared} {a:Addr} {y:V} {u:Value} {A:Around} {E:Value->Shared->Prop}
end
section
variable {X:Cx}
end
section
variable {κ:Type} [DecidableEq κ]
end
section
variable {X:Cx}
end
section
variable {prog:Program} {w:World} {A:Around} {E:Value->Shared->Prop} {s:Shared}
theorem vy(mT:s.heap.IsTupleIter it t i)(ht:s.heap.IsTuple t xs)(hx:xs[i]?=some x)(q:∀h',h'.IsTupleIter it t (i+1)->Heap.SameBut it s.heap h'->Q x { s with heap:=h' }):wpAny (model prog w) A (Builtin.SmallTypes.nextOf (.ref it)) Q E s:=by
 obtain⟨o,h1,h2,h3⟩:=id mT;obtain⟨p,k1,_,n,k3⟩:=ht;unfold Builtin.SmallTypes.nextOf;refine ai (jD (name:=Str.ofString "__next__") mT.typeIs F.slot_tuple_iterator_next (iS F.slot_tuple_iterator_next mT.typeIs F.entry_tuple_iterator_next ?_ (F.args_tuple_iterator_next_1 _)));change wpAny _ _ (field (.ref it) 0 >>= _) _ _ s;refine ai (br h1 h3 (x:=.ref t) rfl ?_);change wpAny _ _ (if (Value.ref t==Value.none)=true then _ else _) _ _ s;rw[am (by exact bq)];change wpAny _ _ (field (.ref it) 1 >>= _) _ _ s;refine ai (br h1 h3 (x:=.int i 0) rfl ?_);change wpAny _ _ (seqItems? (.ref t) >>= _) _ _ s;refine ai (fT k1 k3 ?_);simp only[qc,hx];refine ai (mE h1 h3 (by simp) (wpAny_pure ⟨x,rfl,wpAny_pure (q _ ?_ (Heap.SameBut.update ..))⟩));refine⟨_,mj _ h1 (uw (mq h3 _)),(uP ..).trans h2,?_⟩;rw[mq h3];simp[rawInt]
theorem yd(hh:A.handled=none)(mT:s.heap.IsTupleIter it t i)(ht:s.heap.IsTuple t xs)(hx:xs[i]?=none)(q:∀h' e,Heap.ExtBut it s.heap h'->(∃o,h'.get? e=some o/\o.cls=.type "StopIteration")->E (.ref e) { s with heap:=h' }):wpAny (model prog w) A (Builtin.SmallTypes.nextOf (.ref it)) Q E s:=by
 obtain⟨o,h1,h2,h3⟩:=id mT;obtain⟨p,k1,_,n,k3⟩:=ht;unfold Builtin.SmallTypes.nextOf;refine ai (jD (name:=Str.ofString "__next__") mT.typeIs F.slot_tuple_iterator_next (iS F.slot_tuple_iterator_next mT.typeIs F.entry_tuple_iterator_next ?_ (F.args_tuple_iterator_next_1 _)));change wpAny _ _ (field (.ref it) 0 >>= _) _ _ s;refine ai (br h1 h3 (x:=.ref t) rfl ?_);change wpAny _ _ (if (Value.ref t==Value.none)=true then _ else _) _ _ s;rw[am (by exact bq)];change wpAny _ _ (field (.ref it) 1 >>= _) _ _ s;refine ai (br h1 h3 (x:=.int i 0) rfl ?_);change wpAny _ _ (seqItems? (.ref t) >>= _) _ _ s;refine ai (fT k1 k3 ?_);simp only[qc,hx];refine ai (fg (ai (mE h1 h3 (by simp) ?stop)));case stop=>
  change wpAny _ _ (newExc (.type "StopIteration") [] >>= _) _ _ _;refine ai ?_;simp only[newExc,newTuple];refine ai (jb (ai (m:=firstArgMember _ _) (wpAny_of_eq (a:=Value.none) (by simp only[firstArgMember];rfl) (jb ?_ (by size_fits)))) (by size_fits));simp only[raiseNew];refine ai (wpAny_handled ?_);rw[show A.in1.handled=none from hh];exact ai (wpAny_pure (wpAny_throw (q _ _ (fun b u hb z=>ba _ (ba _ ((me _ _ (cS hb)).trans z))) ⟨_,bv _ rfl,rfl⟩)))
end
section
variable {X:Cx}
end
section
variable {X:Cx} {tg:Expr}
end
section
variable {prog:Program} {w:World} {A:Around} {E:Value->Shared->Prop} {s:Shared} {R:Result->Shared->Prop} {l d Ia:Addr}
end
section
variable {prog:Program} {w:World} {A:Around} {E:Value->Shared->Prop} {s:Shared} {l:Addr}
end
section
variable {X:Cx}
theorem ye(hc:X.calm=true):dZ X (.builtin "all") (fun xs H Q=>∃ (p:Addr) (bs:List Bool),xs=[.ref p]/\bo X.K H p (bs.map V.bl)/\Q (.bl (bs.all id)) H):=by
 intro ae s σ H xs us Q I r h;obtain⟨p,bs,rfl,hp,q⟩:=h;obtain⟨u1,rfl,r1⟩:=r.one;obtain rfl:u1=Value.ref p:=r1;obtain⟨its,rv,pl,hz⟩:=I.list hp;have Ai:its=bs.map Value.bool:=by
  have go:∀ (bs:List Bool) (its:List Value),aS (bs.map V.bl) its->its=bs.map Value.bool:=by
   intro bs;induction bs with
   |nil=>intro its r;cases r;rfl
   |cons b bs ih=>
    intro its r;cases r with
    |cons r rr=>
     obtain rfl:=(show _=Value.bool b from r)
     rw[ih _ rr];rfl
  exact go bs its rv
 subst Ai;obtain⟨ob,OT,_⟩:=id pl.isList;have dv:p<s.heap.objs.size:=aU OT;refine call_all_walk (mw pl.isList ⟨s.heap.objs.size,_,_,_,_,_,fun i=>bs.getD i true,rfl,Walks.list (show X.A.in1.handled=none from I.ok.hd hc) _ p (aL dv) _,⟨⟨_,bv _ rfl,rfl,rfl⟩,pl.isList.push _⟩,fun i v s1 Q' E' hv hq=>?_,fun h' tk k=>?_⟩)
 .have xI:(bs.map Value.bool)[i]?=some v:=by simpa using hv
  rw[bJ] at xI;cases eb:bs[i]? with
  |none=>rw[eb] at xI;cases xI
  |some b=>
   rw[eb] at xI;obtain rfl:Value.bool b=v:=bG xI;have:bs.getD i true=b:=by rw[ce,eb];rfl
   have Cw:Q' b s1:=by rw[<-this];exact hq
   exact wpAny_pure Cw
 .have keep:∀b o,s.heap.get? b=some o->h'.get? b=some o:=fun b o e=>k b o (by simpa using aL (aU e)) (ba _ e);refine⟨.bl (bs.all id),H,I.kept (t':=tk) keep,?_,q⟩;show Value.bool _=Value.bool _;congr 1;have go:∀ (bs:List Bool),((List.range bs.length).all fun i=>bs.getD i true)=bs.all id:=by
   intro bs;induction bs with
   |nil=>rfl
   |cons b bs ih=>
    rw[cR,oZ,mD,List.all_map,mD,<-ih];rfl
  rw[<-go bs];simp
end
structure cg(P:Program)(w:World)(K:PySem.W.Frag)(mg:Str->Option Value)(base:Heap)(CX:rN)(k:Nat)(x:Str)(ps:List Str)(sp:Sp):Prop where
 ex:∃f fd,mg x=some (.ref f)/\PySem.W.keepIn K (.ref f)=true/\fV K fd ps []/\a9 P w K mg base CX k f fd ps sp
theorem aw(C:cg X.prog X.w X.K X.mg X.base CX k x ps sp)(hr:bt k X.A)(hx:fD CX X E)(ha:PA X (e::es) t)(hg:Gl X x:=by rfl)(xL:(x==("__debug__":Str))=false:=by decide)(he:starEach (e::es) X.env=(false,eval e X.env)::starEach es X.env:=by rfl)(o4:(backTo pos (starEach es X.env)).any (·.1)=false:=by rfl):
  PE X (.Call (.Name x p) (e::es) [] pos) (iX sp [] E t):=by
 obtain⟨f,fd,a,b,c,d⟩:=C.ex;exact Cv d hr hg a b c .nil hx ha xL he o4
theorem au(h:H D=none):aM H (upd H D o):=fun b u e=>by rw[ao (aq e h)];exact e
def bC(p:Addr)(H H':Hp):Prop:=∀b o,H b=some o->b≠p->H' b=some o
theorem bC.trans(a:bC p H H1)(b:bC p H1 H2):bC p H H2:=fun c o h n=>b c o (a c o h n) n
theorem bC.upd:bC p H (upd H p o):=fun b u h n=>by rw[ao n];exact h
theorem bC.of(s:aM H H'):bC p H H':=fun b o h _=>s b o h
theorem jT(h:j<n):zP n (j:Int)=some j:=by
 unfold zP;rw[ap (by lia),ap (by lia)];simp
theorem yf(h:as.length=n):(as++[t]).getD j 0=if j=n then t else as.getD j 0:=by
 rw[ce,ce];by_cases hj:j=n
 .subst hj;subst h;rw[ap rfl,tX (aI _),Nat.sub_self];rfl
 .rw[am hj];by_cases dv:j<as.length
  .rw[l7 dv]
  .rw[tX (by lia),j5 (by simp;lia),j5 (by lia)]
def Holds(H:Hp)(as:List Addr)(n:Nat)(o:Nat->HO):Prop:=as.length=n/\∀j,j<n->H (as.getD j 0)=some (o j)
theorem Holds.nil:Holds H [] 0 o:=⟨rfl,fun j hj=>absurd hj (by lia)⟩
theorem Holds.snoc(h:Holds H as n o)(ht:H t=some (o n)):Holds H (as++[t]) (n+1) o:=by
 refine⟨by rw[iQ,h.1];rfl,fun j hj=>?_⟩;rw[yf h.1];by_cases e:j=n
 .rw[ap e,e];exact ht
 .rw[am e];exact h.2 j (by lia)
theorem Holds.mono(h:Holds H as n o)(e:∀j,j<n->H (as.getD j 0)=some (o j)->H' (as.getD j 0)=some (o j)):Holds H' as n o:=⟨h.1,fun j hj=>e j hj (h.2 j hj)⟩
end L2
namespace PyProof.Rows
open PySem
def fm:Bool->Keyed->Array Keyed->Nat->Nat->Nat->StateT SortSt Sem (Option Nat):=sortPriv% PySem.Builtin.gallop
def nE:Array Keyed->Array Keyed->StateT SortSt Sem (Array Keyed):=sortPriv% PySem.Builtin.mergeLo
def nF:Array Keyed->Array Keyed->StateT SortSt Sem (Array Keyed):=sortPriv% PySem.Builtin.mergeHi
def fG:Nat->StateT SortSt Sem Unit:=sortPriv% PySem.Builtin.setMinGallop
def su(prog:Program)(w:World)(A:Around)(s:Shared)(κ:SortKind)(a₀:Array Keyed):Prop:=
 ∀x y,x∈a₀.toList->y∈a₀.toList->∀ (Q:Bool->Shared->Prop) (E:Value->Shared->Prop),(∀b,Q b s)->wpAny (model prog w) A (keyLt' κ x.1 y.1) Q E s
structure SQ(κ:SortKind)(a₀:Array Keyed)(pd:Array (Nat×Nat×Nat))(st:SortSt):Prop where
 perm:(arrOf st).Perm a₀
 kind:kindOf st=κ
 failed:failedOf st=none
 pend:pendingOf st=pd
section
variable {prog:Program} {w:World} {A:Around} {E:Value->Shared->Prop} {s:Shared} {κ:SortKind} {a₀:Array Keyed} {pd:Array (Nat×Nat×Nat)}
theorem SQ.size{st:SortSt}(h:SQ κ a₀ pd st):(arrOf st).size=a₀.size:=h.perm.size_eq
theorem SQ.setArr{st:SortSt}(h:SQ κ a₀ pd st){xs:Array Keyed}(hp:xs.Perm (arrOf st)):SQ κ a₀ pd (setArr st xs):=⟨hp.trans h.perm,h.kind,h.failed,h.pend⟩
theorem SQ.at{st:SortSt}(h:SQ κ a₀ pd st){i:Nat}(hi:i<a₀.size):∃p,(arrOf st)[i]?=some p/\p∈a₀.toList:=by
 have EW:i<(arrOf st).size:=by rw[h.size];exact hi
 exact⟨(arrOf st)[i],cr _ i EW,(jC.mp h.perm).mem_iff.mp (by simp)⟩
theorem nG{st:SortSt}{x y:Keyed}{Q:Option Bool->SortSt->Prop}(hC:su prog w A s κ a₀)(hk:kindOf st=κ)(hx:x∈a₀.toList)(hy:y∈a₀.toList)(h:∀b,Q (some b) st):wpS (model prog w) A E s (lt' x y) Q st:=by
 rw[lt'_eq];refine aB (eR ?_);rw[hk];refine aB (ji (ki (hC x y hx hy _ _ fun b=>⟨rfl,?_⟩)));exact aE (h b)
theorem aV{st:SortSt}{arr:Array Keyed}{i:Nat}{p:Keyed}{Q:Keyed->SortSt->Prop}(hi:arr[i]?=some p)(h:Q p st):wpS (model prog w) A E s (elem' arr i) Q st:=by
 rw[elem'_eq,hi];exact aE h
theorem dC{st:SortSt}{i j:Nat}{Q:Option Bool->SortSt->Prop}(hC:su prog w A s κ a₀)(hB:SQ κ a₀ pd st)(hi:i<a₀.size)(hj:j<a₀.size)(h:∀b,Q (some b) st):wpS (model prog w) A E s (ltAt' i j) Q st:=by
 obtain⟨p,e1,m1⟩:=hB.at hi;obtain⟨q,e2,m2⟩:=hB.at hj;rw[ltAt'_eq];refine aB (eR ?_);exact aB (aV e1 (aB (aV e2 (nG hC hB.kind m1 m2 h))))
theorem eJ{st:SortSt}{i j:Nat}{Q:Unit->SortSt->Prop}(hB:SQ κ a₀ pd st)(h:∀aQ,SQ κ a₀ pd aQ->Q () aQ):wpS (model prog w) A E s (reverseSlice' i j) Q st:=by
 rw[reverseSlice'_eq];exact eh (h _ (hB.setArr (mirror_perm _ _ _ _)))
theorem Ao{st:SortSt}{i j:Nat}{Q:Unit->SortSt->Prop}(hB:SQ κ a₀ pd st)(h:∀aQ,SQ κ a₀ pd aQ->Q () aQ):wpS (model prog w) A E s (moveDown' i j) Q st:=by
 rw[moveDown'_eq];exact eh (h _ (hB.setArr (bubble_perm _ _ _)))
theorem C3{st:SortSt}{lo n ok:Nat}{Q:Bool->SortSt->Prop}(hC:su prog w A s κ a₀)(hn:lo+n<=a₀.size)(hB:SQ κ a₀ pd st)(h:∀aQ,SQ κ a₀ pd aQ->Q true aQ):wpS (model prog w) A E s (binarySort' lo n ok) Q st:=by
 rw[binarySort'_eq];refine aB (cG (dM (I:=fun _ c aQ=>c=(none,())/\SQ κ a₀ pd aQ) (Q:=fun c aQ=>c=(none,())/\SQ κ a₀ pd aQ) ?_ (fun c aQ hh=>hh) ⟨rfl,hB⟩) ?_)
 .rintro k c aQ X7 VQ ⟨rfl,O9⟩;dsimp only;refine aB (cG (dM (I:=fun _ c Gf=>(∃l r,c=(none,l,r)/\r<=k)/\SQ κ a₀ pd Gf) (Q:=fun c Gf=>(∃l r,c=(none,l,r)/\r<=k)/\SQ κ a₀ pd Gf) ?_ (fun c aQ hh=>hh) ⟨⟨_,_,rfl,aI _⟩,O9⟩) ?_)
  .rintro x c oH _ _ ⟨⟨l,r,rfl,hr⟩,oN⟩;dsimp only;by_cases wM:l>=r
   .rw[ap wM];exact aE ⟨⟨_,_,rfl,hr⟩,oN⟩
   .rw[am wM];refine aB (dC hC oN (by lia) (by lia) fun b=>?_);cases b
    .exact aE ⟨⟨_,_,rfl,hr⟩,oN⟩
    .exact aE ⟨⟨_,_,rfl,by lia⟩,oN⟩
  .rintro c oH ⟨⟨l,r,rfl,hr⟩,oN⟩;dsimp only;exact aB (Ao oN fun u5 lx=>aE ⟨rfl,lx⟩)
 .rintro c aQ ⟨rfl,O9⟩;exact aE (h aQ O9)
end
theorem vz(left:Bool)(key:Keyed)(arr:Array Keyed)(base n js:Nat):fm left key arr base n js=(do
 let qP (i:Nat):StateT SortSt Sem (Option Bool):=do
  let x <- elem' arr (base+i)
  if left then lt' x key else return (<-lt' key x).map (!·)
 let mut lastofs:=0
 let mut ofs:=1
 let mut lo:=0
 let mut hi:=0
 let some right <- qP js|return none
 if right then
  let nI:=n-js
  for _ in [0:n] do
   if ofs>=nI then break
   let some more <- qP (js+ofs)|return none
   if !more then break
   lastofs:=ofs
   ofs:=2*ofs+1
  lo:=js+lastofs+1
  hi:=js+min ofs nI
 else
  let nI:=js+1
  for _ in [0:n] do
   if ofs>=nI then break
   let some Ap <- qP (js-ofs)|return none
   if Ap then break
   lastofs:=ofs
   ofs:=2*ofs+1
  lo:=js+1-min ofs nI
  hi:=js-lastofs
 for _ in [0:n] do
  if lo>=hi then break
  let m:=lo+(hi-lo) / 2
  let some more <- qP m|return none
  if more then lo:=m+1 else hi:=m
 return some hi):=rfl
section
variable {prog:Program} {w:World} {A:Around} {E:Value->Shared->Prop} {s:Shared} {κ:SortKind} {a₀:Array Keyed} {pd:Array (Nat×Nat×Nat)}
theorem eX{st:SortSt}{left:Bool}{key:Keyed}{arr:Array Keyed}{j:Nat}{Q:Option Bool->SortSt->Prop}(hC:su prog w A s κ a₀)(hk:kindOf st=κ)(oI:key∈a₀.toList)(pE:∀x∈arr.toList,x∈a₀.toList)(hj:j<arr.size)(h:∀b,Q (some b) st):
  wpS (model prog w) A E s (do
  let x <- elem' arr j
  if left then lt' x key else return (<-lt' key x).map (!·)) Q st:=by
 have hm:arr[j]∈a₀.toList:=pE _ (by simp);refine aB (aV (cr arr j hj) ?_);cases left
 .rw[am (by decide)];exact aB (nG hC hk oI hm fun b=>aE (h (!b)))
 .rw[ap rfl];exact nG hC hk hm oI h
theorem dP{st:SortSt}{left:Bool}{key:Keyed}{arr:Array Keyed}{base n js:Nat}{Q:Option Nat->SortSt->Prop}(hC:su prog w A s κ a₀)(hk:kindOf st=κ)(oI:key∈a₀.toList)(pE:∀x∈arr.toList,x∈a₀.toList)(hn:base+n<=arr.size)(hh:js<n)(h:∀k,k<=n->Q (some k) st):wpS (model prog w) A E s (fm left key arr base n js) Q st:=by
 rw[vz];refine aB (eX hC hk oI pE (by lia) fun right=>?_);cases right
 .dsimp only;rw[am (by decide)];refine aB (cG (dM (I:=fun _ c aQ=>(∃l o,c=(none,l,o))/\st=aQ) (Q:=fun c aQ=>(∃l o,c=(none,l,o))/\st=aQ) ?_ (fun c aQ hh=>hh) ⟨⟨_,_,rfl⟩,rfl⟩) ?_)
  .rintro x c aQ _ _ ⟨⟨l,o,rfl⟩,rfl⟩;dsimp only;by_cases wM:o>=js+1
   .rw[ap wM];exact aE ⟨⟨_,_,rfl⟩,rfl⟩
   .rw[am wM];refine aB (eX hC hk oI pE (by lia) fun Ap=>?_);cases Ap
    .exact aE ⟨⟨_,_,rfl⟩,rfl⟩
    .exact aE ⟨⟨_,_,rfl⟩,rfl⟩
  .rintro c aQ ⟨⟨l,o,rfl⟩,rfl⟩;dsimp only;refine aB (cG (dM (I:=fun _ c aQ=>(∃l u,c=(none,l,u)/\u<=n)/\st=aQ) (Q:=fun c aQ=>(∃l u,c=(none,l,u)/\u<=n)/\st=aQ) ?_ (fun c aQ hh=>hh) ⟨⟨_,_,rfl,by lia⟩,rfl⟩) ?_)
   .rintro x c aQ _ _ ⟨⟨l,u,rfl,hu⟩,rfl⟩;dsimp only;by_cases wM:l>=u
    .rw[ap wM];exact aE ⟨⟨_,_,rfl,hu⟩,rfl⟩
    .rw[am wM];refine aB (eX hC hk oI pE (by lia) fun more=>?_);cases more
     .exact aE ⟨⟨_,_,rfl,by lia⟩,rfl⟩
     .exact aE ⟨⟨_,_,rfl,hu⟩,rfl⟩
   .rintro c aQ ⟨⟨l,u,rfl,hu⟩,rfl⟩;exact aE (h u hu)
 .dsimp only;rw[ap rfl];refine aB (cG (dM (I:=fun _ c aQ=>(∃l o,c=(none,l,o))/\st=aQ) (Q:=fun c aQ=>(∃l o,c=(none,l,o))/\st=aQ) ?_ (fun c aQ hh=>hh) ⟨⟨_,_,rfl⟩,rfl⟩) ?_)
  .rintro x c aQ _ _ ⟨⟨l,o,rfl⟩,rfl⟩;dsimp only;by_cases wM:o>=n-js
   .rw[ap wM];exact aE ⟨⟨_,_,rfl⟩,rfl⟩
   .rw[am wM];refine aB (eX hC hk oI pE (by lia) fun more=>?_);cases more
    .exact aE ⟨⟨_,_,rfl⟩,rfl⟩
    .exact aE ⟨⟨_,_,rfl⟩,rfl⟩
  .rintro c aQ ⟨⟨l,o,rfl⟩,rfl⟩;dsimp only;refine aB (cG (dM (I:=fun _ c aQ=>(∃l u,c=(none,l,u)/\u<=n)/\st=aQ) (Q:=fun c aQ=>(∃l u,c=(none,l,u)/\u<=n)/\st=aQ) ?_ (fun c aQ hh=>hh) ⟨⟨_,_,rfl,by lia⟩,rfl⟩) ?_)
   .rintro x c aQ _ _ ⟨⟨l,u,rfl,hu⟩,rfl⟩;dsimp only;by_cases wM:l>=u
    .rw[ap wM];exact aE ⟨⟨_,_,rfl,hu⟩,rfl⟩
    .rw[am wM];refine aB (eX hC hk oI pE (by lia) fun more=>?_);cases more
     .exact aE ⟨⟨_,_,rfl,by lia⟩,rfl⟩
     .exact aE ⟨⟨_,_,rfl,hu⟩,rfl⟩
   .rintro c aQ ⟨⟨l,u,rfl,hu⟩,rfl⟩;exact aE (h u hu)
end
structure SM(κ:SortKind)(ar:Array Keyed)(pd:Array (Nat×Nat×Nat))(st:SortSt):Prop where
 arr:arrOf st=ar
 kind:kindOf st=κ
 failed:failedOf st=none
 pend:pendingOf st=pd
abbrev lA:=Option (Array Keyed)
abbrev pF:=StateT SortSt Sem
def sv{τ:Type}(c:Bool)(d:Prop)[Decidable d](r:Array Keyed)(t:τ):pF (ForInStep (lA×τ)):=if c then pure (.done (some r,t)) else if d then pure (.done (none,t)) else pure (.yield (none,t))
def Ti{α β γ:Type}(N:Nat)(f:Nat->lA×α×β×γ×Nat×Nat->pF (ForInStep (lA×α×β×γ×Nat×Nat)))(g:lA×α×β×γ×Nat×Nat×Nat->pF (ForInStep (lA×α×β×γ×Nat×Nat×Nat)))(s:lA×α×β×γ×Nat):pF (ForInStep (lA×α×β×γ×Nat)):=do
 let t <- forIn [0:N] ((none,s.2.1,s.2.2.1,s.2.2.2.1,0,0):lA×α×β×γ×Nat×Nat) fun _ t=>f s.2.2.2.2 t
 match t.1 with
 |some r=>pure (.done (some r,t.2.1,t.2.2.1,t.2.2.2.1,s.2.2.2.2))
 |none=>do
  liftM (rule "list.sort.gallop")
  let u <- forIn [0:N] ((none,t.2.1,t.2.2.1,t.2.2.2.1,s.2.2.2.2+1,t.2.2.2.2.1,t.2.2.2.2.2):lA×α×β×γ×Nat×Nat×Nat) fun _ u=>g u
  match u.1 with
  |some r=>pure (.done (some r,u.2.1,u.2.2.1,u.2.2.2.1,u.2.2.2.2.1))
  |none=>do
   fG (u.2.2.2.2.1+1)
   pure (.yield (none,u.2.1,u.2.2.1,u.2.2.2.1,u.2.2.2.2.1+1))
def Nm{α β γ:Type}(N:Nat)(f:Nat->lA×α×β×γ×Nat×Nat->pF (ForInStep (lA×α×β×γ×Nat×Nat)))(g:lA×α×β×γ×Nat×Nat×Nat->pF (ForInStep (lA×α×β×γ×Nat×Nat×Nat)))(x:α)(y:β)(z:γ):pF (Array Keyed):=do
 let st <- get
 let s <- forIn [0:N] ((none,x,y,z,gallopOf st):lA×α×β×γ×Nat) fun _ s=>Ti N f g s
 match s.1 with
 |some r=>pure r
 |none=>liftM (unsupported "internal:list.sort.merge-bound")
section
variable {prog:Program} {w:World} {A:Around} {E:Value->Shared->Prop} {s:Shared} {κ:SortKind} {a₀:Array Keyed} {pd:Array (Nat×Nat×Nat)} {ar:Array Keyed} {F:Array Keyed->Prop}
def GP{τ:Type}(κ:SortKind)(ar:Array Keyed)(pd:Array (Nat×Nat×Nat))(F:Array Keyed->Prop)(D J:τ->Prop)(r:ForInStep (lA×τ))(st:SortSt):Prop:=SM κ ar pd st/\
 ((∃x t,r=.done (some x,t)/\F x)\/(∃t,r=.done (none,t)/\D t)\/∃t,r=.yield (none,t)/\J t)
theorem dD{τ:Type}{D J:τ->Prop}{st:SortSt}{x:Array Keyed}{t:τ}(m:SM κ ar pd st)(h:F x):wpS (model prog w) A E s (pure (.done (some x,t))) (GP κ ar pd F D J) st:=aE ⟨m,.inl ⟨_,_,rfl,h⟩⟩
theorem f8{τ:Type}{D J:τ->Prop}{c:Bool}{d:Prop}[Decidable d]{r:Array Keyed}{t:τ}{st:SortSt}(m:SM κ ar pd st)(h1:c=true->F r)(h2:c=false->D t/\J t):wpS (model prog w) A E s (sv c d r t) (GP κ ar pd F D J) st:=by
 unfold sv;cases c
 .rw[am bq];split
  .exact aE ⟨m,.inr (.inl ⟨_,rfl,(h2 rfl).1⟩)⟩
  .exact aE ⟨m,.inr (.inr ⟨_,rfl,(h2 rfl).2⟩)⟩
 .rw[ap rfl];exact dD m (h1 rfl)
theorem kL{τ:Type}{D:τ->Prop}{J:Nat->τ->Prop}{N:Nat}{f:lA×τ->pF (ForInStep (lA×τ))}{t:τ}{st:SortSt}{Q:lA×τ->SortSt->Prop}(m:SM κ ar pd st)(hJ:J 0 t)(up:∀t,J N t->D t)(b:∀t st,SM κ ar pd st->∀i,J i t->wpS (model prog w) A E s (f (none,t)) (GP κ ar pd F D (J (i+1))) st)(h1:∀x t aQ,SM κ ar pd aQ->F x->Q (some x,t) aQ)(h2:∀t aQ,SM κ ar pd aQ->D t->Q (none,t) aQ):wpS (model prog w) A E s (forIn [0:N] ((none,t):lA×τ) fun _ c=>f c) Q st:=by
 refine dM (I:=fun i c aQ=>c.1=none/\SM κ ar pd aQ/\J i c.2) ?_ ?_ ⟨rfl,m,hJ⟩
 .rintro i ⟨_,t⟩ aQ _ _ ⟨rfl,m',j⟩;refine cG (b t aQ m' i j) ?_;rintro r oH ⟨m2,⟨x,t,rfl,h⟩|⟨t,rfl,h⟩|⟨t,rfl,h⟩⟩
  .exact h1 _ _ _ m2 h
  .exact h2 _ _ m2 h
  .exact⟨rfl,m2,h⟩
 .rintro⟨_,t⟩ aQ ⟨rfl,m',j⟩;rw[Nat.max_eq_right (cK _)] at j;exact h2 _ _ m' (up _ j)
theorem wN{α β γ:Type}{N:Nat}{f:Nat->lA×α×β×γ×Nat×Nat->pF (ForInStep (lA×α×β×γ×Nat×Nat))}{g:lA×α×β×γ×Nat×Nat×Nat->pF (ForInStep (lA×α×β×γ×Nat×Nat×Nat))}{x:α}{y:β}{z:γ}{J:Nat->α->β->γ->Prop}{st:SortSt}{Q:Array Keyed->SortSt->Prop}(m:SM κ ar pd st)(h0:J 0 x y z)(dn:∀i k x y z,J (i+k) x y z->J i x y z)(no:∀x y z,¬ J N x y z)(N1:1<=N)(hf:∀mg n k x y z p st,SM κ ar pd st->J (n+k) x y z->wpS (model prog w) A E s (f mg (none,x,y,z,p)) (GP κ ar pd F (fun t=>J (n+1) t.1 t.2.1 t.2.2.1) fun t=>J (n+(k+1)) t.1 t.2.1 t.2.2.1) st)(hg:∀n x y z p st,SM κ ar pd st->J n x y z->wpS (model prog w) A E s (g (none,x,y,z,p)) (GP κ ar pd F (fun t=>J n t.1 t.2.1 t.2.2.1) fun t=>J n t.1 t.2.1 t.2.2.1) st)(h:∀x aQ,F x->SM κ ar pd aQ->Q x aQ):wpS (model prog w) A E s (Nm N f g x y z) Q st:=by
 unfold Nm;refine aB (eR ?_);refine aB (kL (F:=F) (D:=fun _=>False) (J:=fun n (t:α×β×γ×Nat)=>J n t.1 t.2.1 t.2.2.1) m h0 (fun t h=>no _ _ _ h) ?_ (fun x t st m hx=>aE (h _ _ hx m)) fun t st m j=>j.elim);intro t st m i j;unfold Ti;refine aB (kL (F:=F) (D:=fun t=>J (i+1) t.1 t.2.1 t.2.2.1) (J:=fun n (t:α×β×γ×Nat×Nat)=>J (i+n) t.1 t.2.1 t.2.2.1) m j (fun t h=>dn _ (N-1) _ _ _ (by rw[show i+1+(N-1)=i+N by lia];exact h)) (fun t st m n j=>hf _ _ _ _ _ _ _ _ m j) (fun x t st m hx=>dD m hx) ?_);intro t st m j;refine aB (ji (fg ⟨rfl,?_⟩));refine aB (kL (F:=F) (D:=fun t=>J (i+1) t.1 t.2.1 t.2.2.1) (J:=fun n (t:α×β×γ×Nat×Nat×Nat)=>J (i+1) t.1 t.2.1 t.2.2.1) m j (fun _ h=>h) (fun t st m n j=>hg _ _ _ _ _ _ m j) (fun x t st m hx=>dD m hx) ?_);intro t st m j;refine aB (eh ?_);exact aE ⟨⟨m.arr,m.kind,m.failed,m.pend⟩,.inr (.inr ⟨_,rfl,j⟩)⟩
end
abbrev ii(a b out:Array Keyed)(ia ib:Nat):=out++a.extract ia a.size++b.extract ib b.size
abbrev qQ(a b out:Array Keyed)(ia ib:Nat):=out++b.extract ib b.size++a.extract ia a.size
abbrev EX ρ:=lA×Array Keyed×Nat×Nat×ρ
def Tj(a b:Array Keyed)(mg:Nat)(t:EX (Nat×Nat)):pF (ForInStep (EX (Nat×Nat))):=do
 let x <- elem' b t.2.2.2.1
 let y <- elem' a t.2.2.1
 let some w <- lt' x y|pure (.done (some (ii a b t.2.1 t.2.2.1 t.2.2.2.1),t.2.1,t.2.2.1,t.2.2.2.1,t.2.2.2.2.1,t.2.2.2.2.2))
 if w then do
  let x <- elem' b t.2.2.2.1
  sv (t.2.2.2.1+1==b.size) (t.2.2.2.2.2+1>=mg) (ii a b (t.2.1.push x) t.2.2.1 (t.2.2.2.1+1)) (t.2.1.push x,t.2.2.1,t.2.2.2.1+1,0,t.2.2.2.2.2+1)
 else do
  let x <- elem' a t.2.2.1
  sv (t.2.2.1+1+1==a.size) (t.2.2.2.2.1+1>=mg) (qQ a b (t.2.1.push x) (t.2.2.1+1) t.2.2.2.1) (t.2.1.push x,t.2.2.1+1,t.2.2.2.1,t.2.2.2.2.1+1,0)
def O_(a b out:Array Keyed)(ia ib mg ac bc:Nat):pF (ForInStep (EX (Nat×Nat×Nat))):=do
 let x <- elem' a ia
 sv (ia+1+1==a.size) ((ac<7&&bc<7)=true) (qQ a b (out.push x) (ia+1) ib) (out.push x,ia+1,ib,mg,ac,bc)
def Pa(a b out:Array Keyed)(ia ib mg ac bc:Nat):pF (ForInStep (EX (Nat×Nat×Nat))):=do
 let x <- elem' b ib
 if ib+1==b.size then pure (.done (some (ii a b (out.push x) ia (ib+1)),out.push x,ia,ib+1,mg,ac,bc))
 else do
  let y <- elem' a ia
  let some k <- fm true y b (ib+1) (b.size-(ib+1)) 0|pure (.done (some (ii a b (out.push x) ia (ib+1)),out.push x,ia,ib+1,mg,ac,bc))
  if k > 0 then
   if ib+1+k==b.size then pure (.done (some (ii a b (out.push x++b.extract (ib+1) (ib+1+k)) ia (ib+1+k)),out.push x++b.extract (ib+1) (ib+1+k),ia,ib+1+k,mg,ac,k))
   else O_ a b (out.push x++b.extract (ib+1) (ib+1+k)) ia (ib+1+k) mg ac k
  else O_ a b (out.push x) ia (ib+1) mg ac k
def Pb(a b out:Array Keyed)(ia ib mg ac bc:Nat):pF (ForInStep (EX (Nat×Nat×Nat))):=do
 fG mg
 let y <- elem' b ib
 let some k <- fm false y a ia (a.size-ia) 0|pure (.done (some (ii a b out ia ib),out,ia,ib,mg,ac,bc))
 if k > 0 then
  if ia+k+1==a.size then pure (.done (some (qQ a b (out++a.extract ia (ia+k)) (ia+k) ib),out++a.extract ia (ia+k),ia+k,ib,mg,k,bc))
  else if ia+k==a.size then pure (.done (some (ii a b (out++a.extract ia (ia+k)) (ia+k) ib),out++a.extract ia (ia+k),ia+k,ib,mg,k,bc))
  else Pa a b (out++a.extract ia (ia+k)) (ia+k) ib mg k bc
 else Pa a b out ia ib mg k bc
def Tk(a b:Array Keyed)(t:EX (Nat×Nat×Nat)):pF (ForInStep (EX (Nat×Nat×Nat))):=
 if t.2.2.2.2.1 > 1 then Pb a b t.2.1 t.2.2.1 t.2.2.2.1 (t.2.2.2.2.1-1) t.2.2.2.2.2.1 t.2.2.2.2.2.2 else Pb a b t.2.1 t.2.2.1 t.2.2.2.1 t.2.2.2.2.1 t.2.2.2.2.2.1 t.2.2.2.2.2.2
theorem sw(a b:Array Keyed):nE a b=(do
 liftM (rule "list.sort.merge-lo")
 let x <- elem' b 0
 if 1==b.size then pure (ii a b #[x] 0 1) else if 0+1==a.size then pure (qQ a b #[x] 0 1) else Nm (a.size+b.size) (Tj a b) (Tk a b) #[x] 0 1):=by kernel_rfl
def PI(a b out:Array Keyed)(ia ib:Nat):Prop:=out.toList.Perm (a.toList.take ia++b.toList.take ib)
theorem sB{l:List Keyed}{i:Nat}(h:i<l.length):l.take (i+1)=l.take i++[l[i]]:=by rw[dI,cu h];rfl
theorem PI.pG{a b out:Array Keyed}{ia ib:Nat}(h:PI a b out ia ib)(hi:ia<a.size):PI a b (out.push a[ia]) (ia+1) ib:=by
 unfold PI at h |-;rw[j_,sB (by simpa using hi),cq];refine(h.append_right _).trans ?_;rw[cq];refine kS _ ?_;have:a.toList[ia]'(by simpa using hi)=a[ia]:=by simp
 rw[this];exact gU
theorem PI.pH{a b out:Array Keyed}{ia ib:Nat}(h:PI a b out ia ib)(hi:ib<b.size):PI a b (out.push b[ib]) ia (ib+1):=by
 unfold PI at h |-;rw[j_,sB (by simpa using hi),<-cq];have:b.toList[ib]'(by simpa using hi)=b[ib]:=by simp
 rw[this];exact h.append_right _
theorem cU{a:Array Keyed}{i j:Nat}:(a.extract i j).toList=(a.toList.drop i).take (j-i):=by
 rw[uk,List.extract_eq_take_drop]
theorem PI.yg{a b out:Array Keyed}{ia ib:Nat}(h:PI a b out ia ib)(k:Nat):PI a b (out++a.extract ia (ia+k)) (ia+k) ib:=by
 unfold PI at h |-;rw[dt,cU,Nat.add_sub_cancel_left,List.take_add,cq];refine(h.append_right _).trans ?_;rw[cq];exact kS _ gU
theorem PI.yh{a b out:Array Keyed}{ia ib:Nat}(h:PI a b out ia ib)(k:Nat):PI a b (out++b.extract ib (ib+k)) ia (ib+k):=by
 unfold PI at h |-;rw[dt,cU,Nat.add_sub_cancel_left,List.take_add,<-cq];exact h.append_right _
theorem PI.done{a b out:Array Keyed}{ia ib:Nat}(h:PI a b out ia ib):(out++a.extract ia a.size++b.extract ib b.size).Perm (a++b):=by
 rw[jC];unfold PI at h;rw[dt,dt,dt,cU,cU];have e1:(a.toList.drop ia).take (a.size-ia)=a.toList.drop ia:=ug (by simp);have e2:(b.toList.drop ib).take (b.size-ib)=b.toList.drop ib:=ug (by simp);rw[e1,e2];refine((h.append_right _).append_right _).trans ?_;conv=>rhs;rw[<-j4 ia a.toList,<-j4 ib b.toList]
 rw[cq,cq,cq];refine kS _ ?_;rw[<-cq,<-cq];exact uh _ gU
theorem PI.last{a b out:Array Keyed}{ia ib:Nat}(h:PI a b out ia ib):(out++b.extract ib b.size++a.extract ia a.size).Perm (a++b):=by
 refine Array.Perm.trans ?_ h.done;rw[jC];rw[dt,dt,dt,dt,cq,cq];exact kS _ gU
section
variable {prog:Program} {w:World} {A:Around} {E:Value->Shared->Prop} {s:Shared} {κ:SortKind} {a₀:Array Keyed} {pd:Array (Nat×Nat×Nat)} {ar:Array Keyed} {a b out:Array Keyed} {ia ib mg ac bc n:Nat} {st:SortSt}
def JL(a b:Array Keyed)(n:Nat)(out:Array Keyed)(ia ib:Nat):Prop:=PI a b out ia ib/\ia+1<a.size/\ib<b.size/\n<=ia+ib
abbrev GL{ρ:Type}(κ:SortKind)(ar:Array Keyed)(pd:Array (Nat×Nat×Nat))(a b:Array Keyed)(n m:Nat):ForInStep (EX ρ)->SortSt->Prop:=GP κ ar pd (fun x=>x.Perm (a++b)) (fun t=>JL a b n t.1 t.2.1 t.2.2.1) fun t=>JL a b m t.1 t.2.1 t.2.2.1
theorem wO(hB:SM κ ar pd st)(h:JL a b n out ia ib):wpS (model prog w) A E s (O_ a b out ia ib mg ac bc) (GL κ ar pd a b n n) st:=by
 obtain⟨p,la,lb,li⟩:=h;refine aB (aV (cr a ia (by lia)) ?_);have p:=p.pG (show ia<a.size by lia);refine f8 hB (fun _=>p.last) fun f=>?_;have g:=kd f;have j:JL a b n (out.push a[ia]) (ia+1) ib:=⟨p,by lia,lb,by lia⟩
 exact⟨j,j⟩
theorem wP(hC:su prog w A s κ a₀)(ha:∀x∈a.toList,x∈a₀.toList)(hb:∀x∈b.toList,x∈a₀.toList)(hB:SM κ ar pd st)(h:JL a b n out ia ib):wpS (model prog w) A E s (Pa a b out ia ib mg ac bc) (GL κ ar pd a b n n) st:=by
 obtain⟨p,la,lb,li⟩:=h;refine aB (aV (cr b ib lb) ?_);have p:=p.pH lb;split
 .exact dD hB p.done
 next f=>
 have g:ib+1≠b.size:=by simpa using f
 refine aB (aV (cr a ia (by lia)) ?_);refine aB (dP hC hB.kind (ha _ (by simp)) hb (by lia) (by lia) fun k hk=>?_);dsimp only;split
 .split
  .exact dD hB (p.yh k).done
  next f=>
  have g:ib+1+k≠b.size:=by simpa using f
  exact wO hB ⟨p.yh k,la,by lia,by lia⟩
 .exact wO hB ⟨p,la,by lia,by lia⟩
theorem C4(hC:su prog w A s κ a₀)(ha:∀x∈a.toList,x∈a₀.toList)(hb:∀x∈b.toList,x∈a₀.toList)(hB:SM κ ar pd st)(h:JL a b n out ia ib):wpS (model prog w) A E s (Pb a b out ia ib mg ac bc) (GL κ ar pd a b n n) st:=by
 obtain⟨p,la,lb,li⟩:=h;refine aB (eh ?_);refine aB (aV (cr b ib lb) ?_);have oN:SM κ ar pd (SortSt.mk' (kindOf st) (arrOf st) (pendingOf st) mg (failedOf st)):=⟨hB.arr,hB.kind,hB.failed,hB.pend⟩
 refine aB (dP hC oN.kind (hb _ (by simp)) ha (by lia) (by lia) fun k hk=>?_);dsimp only;split
 .split
  .exact dD oN (p.yg k).last
  next f=>
  split
  .exact dD oN (p.yg k).done
  next f'=>
  have g:ia+k+1≠a.size:=by simpa using f
  have g':ia+k≠a.size:=by simpa using f'
  exact wP hC ha hb oN ⟨p.yg k,by lia,lb,by lia⟩
 .exact wP hC ha hb oN ⟨p,la,lb,li⟩
theorem C5{k:Nat}(hC:su prog w A s κ a₀)(ha:∀x∈a.toList,x∈a₀.toList)(hb:∀x∈b.toList,x∈a₀.toList)(hB:SM κ ar pd st)(h:JL a b (n+k) out ia ib){q:Nat×Nat}:wpS (model prog w) A E s (Tj a b mg (none,out,ia,ib,q)) (GL κ ar pd a b (n+1) (n+(k+1))) st:=by
 obtain⟨p,la,lb,li⟩:=h;refine aB (aV (cr b ib lb) (aB (aV (cr a ia (by lia)) (aB (nG hC hB.kind (hb _ (by simp)) (ha _ (by simp)) fun w=>?_)))));cases w
 .refine aB (aV (cr a ia (by lia)) ?_);have p:=p.pG (show ia<a.size by lia);refine f8 hB (fun _=>p.last) fun f=>?_;have g:=kd f;exact⟨⟨p,by dsimp only;lia,lb,by dsimp only;lia⟩,p,by dsimp only;lia,lb,by dsimp only;lia⟩
 .refine aB (aV (cr b ib lb) ?_);have p:=p.pH lb;refine f8 hB (fun _=>p.done) fun f=>?_;have g:=kd f;exact⟨⟨p,la,by dsimp only at g |-;lia,by dsimp only;lia⟩,p,la,by dsimp only at g |-;lia,by dsimp only;lia⟩
theorem sC{Q:Array Keyed->SortSt->Prop}(hC:su prog w A s κ a₀)(hB:SM κ ar pd st)(ha:∀x∈a.toList,x∈a₀.toList)(hb:∀x∈b.toList,x∈a₀.toList)(a1:1<=a.size)(b1:1<=b.size)(h:∀out aQ,out.Perm (a++b)->SM κ ar pd aQ->Q out aQ):wpS (model prog w) A E s (nE a b) Q st:=by
 rw[sw];refine aB (ji (fg ⟨rfl,?_⟩));refine aB (aV (cr b 0 (by lia)) ?_);have p0:PI a b #[b[0]] 0 1:=by
  have:PI a b #[] 0 0:=by unfold PI;simp
  exact this.pH (by lia)
 split
 .exact aE (h _ _ p0.done hB)
 next f=>
 split
 .exact aE (h _ _ p0.last hB)
 next f'=>
 have g:1≠b.size:=by simpa using f
 have g':0+1≠a.size:=by simpa using f'
 refine wN (J:=JL a b) hB ⟨p0,by lia,by lia,by lia⟩ (fun i k x y z h=>⟨h.1,h.2.1,h.2.2.1,by have:=h.2.2.2;lia⟩) (fun x y z h=>by have:=h.2;lia) (by lia) (fun mg n k x y z p st m j=>C5 hC ha hb m j) (fun n x y z p st m j=>?_) h;unfold Tk;split <;> exact C4 hC ha hb m j
end
abbrev ij(a b out:Array Keyed)(na nb:Nat):=a.extract 0 na++b.extract 0 nb++out.reverse
abbrev lS(a b out:Array Keyed)(na nb:Nat):=b.extract 0 nb++a.extract 0 na++out.reverse
abbrev EY ρ:=lA×Nat×Nat×Array Keyed×ρ
def Tl(a b:Array Keyed)(mg:Nat)(t:EY (Nat×Nat)):pF (ForInStep (EY (Nat×Nat))):=do
 let x <- elem' b (t.2.2.1-1)
 let y <- elem' a (t.2.1-1)
 let some w <- lt' x y|pure (.done (some (ij a b t.2.2.2.1 t.2.1 t.2.2.1),t.2.1,t.2.2.1,t.2.2.2.1,t.2.2.2.2.1,t.2.2.2.2.2))
 if w then do
  let x <- elem' a (t.2.1-1)
  sv (t.2.1-1==0) (t.2.2.2.2.1+1>=mg) (ij a b (t.2.2.2.1.push x) (t.2.1-1) t.2.2.1) (t.2.1-1,t.2.2.1,t.2.2.2.1.push x,t.2.2.2.2.1+1,0)
 else do
  let x <- elem' b (t.2.2.1-1)
  sv (t.2.2.1-1==1) (t.2.2.2.2.2+1>=mg) (lS a b (t.2.2.2.1.push x) t.2.1 (t.2.2.1-1)) (t.2.1,t.2.2.1-1,t.2.2.2.1.push x,0,t.2.2.2.2.2+1)
def Pc(a b:Array Keyed)(na nb:Nat)(out:Array Keyed)(mg ac bc:Nat):pF (ForInStep (EY (Nat×Nat×Nat))):=do
 let x <- elem' a (na-1)
 sv (na-1==0) ((ac<7&&bc<7)=true) (ij a b (out.push x) (na-1) nb) (na-1,nb,out.push x,mg,ac,bc)
def Pd(a b:Array Keyed)(na nb:Nat)(out:Array Keyed)(mg ac bc:Nat):pF (ForInStep (EY (Nat×Nat×Nat))):=do
 let x <- elem' b (nb-1)
 if nb-1==1 then pure (.done (some (lS a b (out.push x) na (nb-1)),na,nb-1,out.push x,mg,ac,bc))
 else do
  let y <- elem' a (na-1)
  let some k <- fm true y b 0 (nb-1) (nb-1-1)|pure (.done (some (ij a b (out.push x) na (nb-1)),na,nb-1,out.push x,mg,ac,bc))
  if nb-1-k > 0 then
   if k==1 then pure (.done (some (lS a b (out.push x++(b.extract k (nb-1)).reverse) na k),na,k,out.push x++(b.extract k (nb-1)).reverse,mg,ac,nb-1-k))
   else if k==0 then pure (.done (some (ij a b (out.push x++(b.extract k (nb-1)).reverse) na k),na,k,out.push x++(b.extract k (nb-1)).reverse,mg,ac,nb-1-k))
   else Pc a b na k (out.push x++(b.extract k (nb-1)).reverse) mg ac (nb-1-k)
  else Pc a b na (nb-1) (out.push x) mg ac (nb-1-k)
def Pe(a b:Array Keyed)(na nb:Nat)(out:Array Keyed)(mg ac bc:Nat):pF (ForInStep (EY (Nat×Nat×Nat))):=do
 fG mg
 let y <- elem' b (nb-1)
 let some k <- fm false y a 0 na (na-1)|pure (.done (some (ij a b out na nb),na,nb,out,mg,ac,bc))
 if na-k > 0 then
  if k==0 then pure (.done (some (ij a b (out++(a.extract k na).reverse) k nb),k,nb,out++(a.extract k na).reverse,mg,na-k,bc))
  else Pd a b k nb (out++(a.extract k na).reverse) mg (na-k) bc
 else Pd a b na nb out mg (na-k) bc
def Tn(a b:Array Keyed)(t:EY (Nat×Nat×Nat)):pF (ForInStep (EY (Nat×Nat×Nat))):=
 if t.2.2.2.2.1 > 1 then Pe a b t.2.1 t.2.2.1 t.2.2.2.1 (t.2.2.2.2.1-1) t.2.2.2.2.2.1 t.2.2.2.2.2.2 else Pe a b t.2.1 t.2.2.1 t.2.2.2.1 t.2.2.2.2.1 t.2.2.2.2.2.1 t.2.2.2.2.2.2
theorem sD(a b:Array Keyed):nF a b=(do
 liftM (rule "list.sort.merge-hi")
 let x <- elem' a (a.size-1)
 if a.size-1==0 then pure (ij a b #[x] (a.size-1) b.size) else if b.size==1 then pure (lS a b #[x] (a.size-1) b.size) else Nm (a.size+b.size) (Tl a b) (Tn a b) (a.size-1) b.size #[x]):=by kernel_rfl
def PH(a b out:Array Keyed)(na nb:Nat):Prop:=out.toList.Perm (a.toList.drop na++b.toList.drop nb)
theorem PH.pG{a b out:Array Keyed}{na nb:Nat}(h:PH a b out na nb)(h1:1<=na)(hi:na-1<a.size):PH a b (out.push a[na-1]) (na-1) nb:=by
 unfold PH at h |-;have e:a.toList.drop (na-1)=a[na-1]::a.toList.drop na:=by
  have:=l8 (l:=a.toList) (i:=na-1) (by simpa using hi);rw[this,Nat.sub_add_cancel h1];simp
 rw[j_,e];refine(h.append_right _).trans ?_;exact gU
theorem PH.pH{a b out:Array Keyed}{na nb:Nat}(h:PH a b out na nb)(h1:1<=nb)(hi:nb-1<b.size):PH a b (out.push b[nb-1]) na (nb-1):=by
 unfold PH at h |-;have e:b.toList.drop (nb-1)=b[nb-1]::b.toList.drop nb:=by
  have:=l8 (l:=b.toList) (i:=nb-1) (by simpa using hi);rw[this,Nat.sub_add_cancel h1];simp
 rw[j_,e];refine(h.append_right _).trans ?_;rw[cq];exact kS _ gU
theorem jU{l:List Keyed}{i j:Nat}(h:i<=j):l.drop i=(l.drop i).take (j-i)++l.drop j:=by
 have:=(j4 (j-i) (l.drop i)).symm;rw[List.drop_drop,show i+(j-i)=j by lia] at this;exact this
theorem PH.yg{a b out:Array Keyed}{na nb:Nat}(h:PH a b out na nb){k:Nat}(hk:k<=na):PH a b (out++(a.extract k na).reverse) k nb:=by
 unfold PH at h |-;rw[dt,uj,cU];conv=>rhs;rw[jU hk]
 refine((h.append_left _).trans ?_ |> fun z=>(List.Perm.trans gU ((uB _).append_right _)).trans z);rw[cq]
theorem PH.yh{a b out:Array Keyed}{na nb:Nat}(h:PH a b out na nb){k:Nat}(hk:k<=nb):PH a b (out++(b.extract k nb).reverse) na k:=by
 unfold PH at h |-;rw[dt,uj,cU];conv=>rhs;rw[jU hk]
 refine(h.append_right _).trans ?_;rw[cq];refine kS _ ?_;exact gU.trans ((uB _).append_right _)
theorem Kq{a:Array Keyed}{j:Nat}:(a.extract 0 j).toList=a.toList.take j:=by rw[cU,List.drop_zero,Nat.sub_zero]
theorem PH.done{a b out:Array Keyed}{na nb:Nat}(h:PH a b out na nb):(a.extract 0 na++b.extract 0 nb++out.reverse).Perm (a++b):=by
 rw[jC];unfold PH at h;rw[dt,dt,dt,uj,Kq,Kq];conv=>rhs;rw[<-j4 na a.toList,<-j4 nb b.toList]
 refine(kS _ ((uB _).trans h)).trans ?_;rw[cq,cq];refine kS _ ?_;rw[<-cq,<-cq];exact uh _ gU
theorem PH.first{a b out:Array Keyed}{na nb:Nat}(h:PH a b out na nb):(b.extract 0 nb++a.extract 0 na++out.reverse).Perm (a++b):=by
 refine Array.Perm.trans ?_ h.done;rw[jC];rw[dt,dt,dt,dt];exact uh _ gU
section
variable {prog:Program} {w:World} {A:Around} {E:Value->Shared->Prop} {s:Shared} {κ:SortKind} {a₀:Array Keyed} {pd:Array (Nat×Nat×Nat)} {ar:Array Keyed} {a b out:Array Keyed} {na nb mg ac bc n:Nat} {st:SortSt}
def JH(a b:Array Keyed)(n na nb:Nat)(out:Array Keyed):Prop:=PH a b out na nb/\1<=na/\2<=nb/\na<=a.size/\nb<=b.size/\n+na+nb<=a.size+b.size
abbrev GH{ρ:Type}(κ:SortKind)(ar:Array Keyed)(pd:Array (Nat×Nat×Nat))(a b:Array Keyed)(n m:Nat):ForInStep (EY ρ)->SortSt->Prop:=GP κ ar pd (fun x=>x.Perm (a++b)) (fun t=>JH a b n t.1 t.2.1 t.2.2.1) fun t=>JH a b m t.1 t.2.1 t.2.2.1
theorem wQ(hB:SM κ ar pd st)(p:PH a b out na nb)(la:1<=na)(lb:2<=nb)(ma:na<=a.size)(mb:nb<=b.size)(li:n+na+nb<=a.size+b.size+1):wpS (model prog w) A E s (Pc a b na nb out mg ac bc) (GH κ ar pd a b n n) st:=by
 refine aB (aV (cr a (na-1) (by lia)) ?_);have p:=p.pG la (show na-1<a.size by lia);refine f8 hB (fun _=>p.done) fun f=>?_;have g:=kd f;have j:JH a b n (na-1) nb (out.push a[na-1]):=⟨p,by lia,lb,by lia,mb,by lia⟩
 exact⟨j,j⟩
theorem wR(hC:su prog w A s κ a₀)(ha:∀x∈a.toList,x∈a₀.toList)(hb:∀x∈b.toList,x∈a₀.toList)(hB:SM κ ar pd st)(h:JH a b n na nb out):wpS (model prog w) A E s (Pd a b na nb out mg ac bc) (GH κ ar pd a b n n) st:=by
 obtain⟨p,la,lb,ma,mb,li⟩:=h;refine aB (aV (cr b (nb-1) (by lia)) ?_);have p:=p.pH (show 1<=nb by lia) (show nb-1<b.size by lia);split
 .exact dD hB p.first
 next f=>
 have g:nb-1≠1:=by simpa using f
 refine aB (aV (cr a (na-1) (by lia)) ?_);refine aB (dP hC hB.kind (ha _ (by simp)) hb (by lia) (by lia) fun k hk=>?_);dsimp only;split
 .split
  .exact dD hB (p.yh hk).first
  next f=>
  split
  .exact dD hB (p.yh hk).done
  next f'=>
  have g:k≠1:=by simpa using f
  have g':k≠0:=by simpa using f'
  exact wQ hB (p.yh hk) la (by lia) ma (by lia) (by lia)
 .exact wQ hB p la (by lia) ma (by lia) (by lia)
theorem C6(hC:su prog w A s κ a₀)(ha:∀x∈a.toList,x∈a₀.toList)(hb:∀x∈b.toList,x∈a₀.toList)(hB:SM κ ar pd st)(h:JH a b n na nb out):wpS (model prog w) A E s (Pe a b na nb out mg ac bc) (GH κ ar pd a b n n) st:=by
 obtain⟨p,la,lb,ma,mb,li⟩:=h;refine aB (eh ?_);refine aB (aV (cr b (nb-1) (by lia)) ?_);have oN:SM κ ar pd (SortSt.mk' (kindOf st) (arrOf st) (pendingOf st) mg (failedOf st)):=⟨hB.arr,hB.kind,hB.failed,hB.pend⟩
 refine aB (dP hC oN.kind (hb _ (by simp)) ha (by lia) (by lia) fun k hk=>?_);dsimp only;split
 .split
  .exact dD oN (p.yg hk).done
  next f=>
  have g:k≠0:=by simpa using f
  exact wR hC ha hb oN ⟨p.yg hk,by lia,lb,by lia,mb,by lia⟩
 .exact wR hC ha hb oN ⟨p,la,lb,ma,mb,li⟩
theorem C7{k:Nat}(hC:su prog w A s κ a₀)(ha:∀x∈a.toList,x∈a₀.toList)(hb:∀x∈b.toList,x∈a₀.toList)(hB:SM κ ar pd st)(h:JH a b (n+k) na nb out){q:Nat×Nat}:wpS (model prog w) A E s (Tl a b mg (none,na,nb,out,q)) (GH κ ar pd a b (n+1) (n+(k+1))) st:=by
 obtain⟨p,la,lb,ma,mb,li⟩:=h;refine aB (aV (cr b (nb-1) (by lia)) (aB (aV (cr a (na-1) (by lia)) (aB (nG hC hB.kind (hb _ (by simp)) (ha _ (by simp)) fun w=>?_)))));cases w
 .refine aB (aV (cr b (nb-1) (by lia)) ?_);have p:=p.pH (show 1<=nb by lia) (show nb-1<b.size by lia);refine f8 hB (fun _=>p.first) fun f=>?_;have g:nb-1≠1:=kd f;have j:JH a b (n+(k+1)) na (nb-1) (out.push b[nb-1]):=⟨p,la,by lia,ma,by lia,by lia⟩
  exact⟨⟨p,la,j.2.2.1,ma,j.2.2.2.2.1,by have:=j.2.2.2.2.2;dsimp only;lia⟩,j⟩
 .refine aB (aV (cr a (na-1) (by lia)) ?_);have p:=p.pG la (show na-1<a.size by lia);refine f8 hB (fun _=>p.done) fun f=>?_;have g:na-1≠0:=kd f;have j:JH a b (n+(k+1)) (na-1) nb (out.push a[na-1]):=⟨p,by lia,lb,by lia,mb,by lia⟩
  exact⟨⟨p,j.2.1,lb,j.2.2.2.1,mb,by have:=j.2.2.2.2.2;dsimp only;lia⟩,j⟩
theorem sH{Q:Array Keyed->SortSt->Prop}(hC:su prog w A s κ a₀)(hB:SM κ ar pd st)(ha:∀x∈a.toList,x∈a₀.toList)(hb:∀x∈b.toList,x∈a₀.toList)(a1:1<=a.size)(b1:1<=b.size)(h:∀out aQ,out.Perm (a++b)->SM κ ar pd aQ->Q out aQ):wpS (model prog w) A E s (nF a b) Q st:=by
 rw[sD];refine aB (ji (fg ⟨rfl,?_⟩));refine aB (aV (cr a (a.size-1) (by lia)) ?_);have p0:PH a b #[a[a.size-1]] (a.size-1) b.size:=by
  have:PH a b #[] a.size b.size:=by unfold PH;simp
  exact this.pG a1 (by lia)
 split
 .exact aE (h _ _ p0.done hB)
 next f=>
 split
 .exact aE (h _ _ p0.first hB)
 next f'=>
 have g:a.size-1≠0:=by simpa using f
 have g':b.size≠1:=by simpa using f'
 refine wN (J:=JH a b) hB ⟨p0,by lia,by lia,by lia,by lia,by lia⟩ (fun i k x y z h=>⟨h.1,h.2.1,h.2.2.1,h.2.2.2.1,h.2.2.2.2.1,by have:=h.2.2.2.2.2;lia⟩) (fun x y z h=>by have:=h.2;lia) (by lia) (fun mg n k x y z p st m j=>C7 hC ha hb m j) (fun n x y z p st m j=>?_) h;unfold Tn;split <;> exact C6 hC ha hb m j
end
section
variable {prog:Program} {w:World} {A:Around} {E:Value->Shared->Prop} {s:Shared} {κ:SortKind} {a₀:Array Keyed} {pd:Array (Nat×Nat×Nat)}
theorem yi{st:SortSt}{lo kM:Nat}{Q:Option Nat->SortSt->Prop}(hC:su prog w A s κ a₀)(hn:lo+kM<=a₀.size)(h1:1<=kM)(hB:SQ κ a₀ pd st)(h:∀n aQ,SQ κ a₀ pd aQ->1<=n->n<=kM->Q (some n) aQ):wpS (model prog w) A E s (countRun' lo kM) Q st:=by
 rw[countRun'_eq];refine aB (cG (dM (I:=fun i c aQ=>SQ κ a₀ pd aQ/\∃m,c=(none,m)/\m=i) (Q:=fun c aQ=>SQ κ a₀ pd aQ/\∃m,c=(none,m)/\1<=m/\m<=kM) ?_ ?_ ⟨hB,_,rfl,rfl⟩) ?_)
 .rintro i c xz IQ Cc ⟨Aq,m,rfl,rfl⟩;dsimp only;refine aB (dC hC Aq (by lia) (by lia) fun b1=>?_);cases b1
  .exact aE ⟨Aq,_,rfl,rfl⟩
  .exact aE ⟨Aq,_,rfl,by lia,by lia⟩
 .rintro c xz ⟨Aq,m,rfl,rfl⟩;exact⟨Aq,_,rfl,by lia,by lia⟩
 .rintro c xz ⟨Aq,n,rfl,n1,n2⟩;dsimp only;by_cases e1:(n==kM)=true
  .rw[ap e1];exact aE (h n xz Aq n1 n2)
  rw[am e1];have g1:¬ (n=kM):=by simpa using e1
  by_cases e2:n > 1
  .rw[ap e2];refine aB (dC hC Aq (by lia) (by lia) fun b2=>?_);cases b2
   .dsimp only;rw[am (by decide)];refine aB (eJ Aq fun oH oN=>?_);refine aB (ji (fg ⟨rfl,?_⟩));refine aB (cG (dM (I:=fun i c aQ=>SQ κ a₀ pd aQ/\∃m q,c=(none,m,q)/\m=i) (Q:=fun c aQ=>SQ κ a₀ pd aQ/\∃m q,c=(none,m,q)/\1<=m/\m<=kM) ?_ ?_ ⟨oN,_,_,rfl,rfl⟩) ?_)
    .rintro i c u5 IQ Cc ⟨lx,m,q,rfl,rfl⟩;dsimp only;refine aB (dC hC lx (by lia) (by lia) fun b3=>?_);cases b3
     .dsimp only;rw[am (by decide)];refine aB (dC hC lx (by lia) (by lia) fun b4=>?_);cases b4
      .exact aE ⟨lx,_,_,rfl,rfl⟩
      .exact aE ⟨lx,_,_,rfl,by lia,by lia⟩
     .dsimp only;rw[ap rfl];split
      .exact aB (eJ lx fun ou Gg=>aE ⟨Gg,_,_,rfl,rfl⟩)
      .exact aE ⟨lx,_,_,rfl,rfl⟩
    .rintro c u5 ⟨lx,m,q,rfl,rfl⟩;exact⟨lx,_,_,rfl,by lia,by lia⟩
    .rintro c u5 ⟨lx,m,q,rfl,m1,m2⟩;dsimp only;split
     .refine aB (eJ lx fun ou Gg=>?_);refine aB (eJ Gg fun rM Gh=>?_);refine aB (cG (dM (I:=fun i c aQ=>SQ κ a₀ pd aQ/\∃m,c=(none,m)/\m=i) (Q:=fun c aQ=>SQ κ a₀ pd aQ/\∃m,c=(none,m)/\1<=m/\m<=kM) ?_ ?_ ⟨Gh,_,rfl,rfl⟩) ?_)
      .rintro i c vA IQ Cc ⟨jt,m,rfl,rfl⟩;dsimp only;refine aB (dC hC jt (by lia) (by lia) fun b6=>?_);cases b6
       .exact aE ⟨jt,_,rfl,rfl⟩
       .exact aE ⟨jt,_,rfl,by lia,by lia⟩
      .rintro c vA ⟨jt,m,rfl,rfl⟩;exact⟨jt,_,rfl,by lia,by lia⟩
      .rintro c vA ⟨jt,m,rfl,h1,h2⟩;exact aE (h m vA jt h1 h2)
     .refine aB (eJ lx fun rM Gh=>?_);refine aB (cG (dM (I:=fun i c aQ=>SQ κ a₀ pd aQ/\∃m,c=(none,m)/\m=i) (Q:=fun c aQ=>SQ κ a₀ pd aQ/\∃m,c=(none,m)/\1<=m/\m<=kM) ?_ ?_ ⟨Gh,_,rfl,rfl⟩) ?_)
      .rintro i c vA IQ Cc ⟨jt,m,rfl,rfl⟩;dsimp only;refine aB (dC hC jt (by lia) (by lia) fun b6=>?_);cases b6
       .exact aE ⟨jt,_,rfl,rfl⟩
       .exact aE ⟨jt,_,rfl,by lia,by lia⟩
      .rintro c vA ⟨jt,m,rfl,rfl⟩;exact⟨jt,_,rfl,by lia,by lia⟩
      .rintro c vA ⟨jt,m,rfl,h1,h2⟩;exact aE (h m vA jt h1 h2)
   .exact aE (h n xz Aq n1 n2)
  .rw[am e2];have oN:=Aq;refine aB (ji (fg ⟨rfl,?_⟩));refine aB (cG (dM (I:=fun i c aQ=>SQ κ a₀ pd aQ/\∃m q,c=(none,m,q)/\m=i) (Q:=fun c aQ=>SQ κ a₀ pd aQ/\∃m q,c=(none,m,q)/\1<=m/\m<=kM) ?_ ?_ ⟨oN,_,_,rfl,rfl⟩) ?_)
   .rintro i c u5 IQ Cc ⟨lx,m,q,rfl,rfl⟩;dsimp only;refine aB (dC hC lx (by lia) (by lia) fun b3=>?_);cases b3
    .dsimp only;rw[am (by decide)];refine aB (dC hC lx (by lia) (by lia) fun b4=>?_);cases b4
     .exact aE ⟨lx,_,_,rfl,rfl⟩
     .exact aE ⟨lx,_,_,rfl,by lia,by lia⟩
    .dsimp only;rw[ap rfl];split
     .exact aB (eJ lx fun ou Gg=>aE ⟨Gg,_,_,rfl,rfl⟩)
     .exact aE ⟨lx,_,_,rfl,rfl⟩
   .rintro c u5 ⟨lx,m,q,rfl,rfl⟩;exact⟨lx,_,_,rfl,by lia,by lia⟩
   .rintro c u5 ⟨lx,m,q,rfl,m1,m2⟩;dsimp only;split
    .refine aB (eJ lx fun ou Gg=>?_);refine aB (eJ Gg fun rM Gh=>?_);refine aB (cG (dM (I:=fun i c aQ=>SQ κ a₀ pd aQ/\∃m,c=(none,m)/\m=i) (Q:=fun c aQ=>SQ κ a₀ pd aQ/\∃m,c=(none,m)/\1<=m/\m<=kM) ?_ ?_ ⟨Gh,_,rfl,rfl⟩) ?_)
     .rintro i c vA IQ Cc ⟨jt,m,rfl,rfl⟩;dsimp only;refine aB (dC hC jt (by lia) (by lia) fun b6=>?_);cases b6
      .exact aE ⟨jt,_,rfl,rfl⟩
      .exact aE ⟨jt,_,rfl,by lia,by lia⟩
     .rintro c vA ⟨jt,m,rfl,rfl⟩;exact⟨jt,_,rfl,by lia,by lia⟩
     .rintro c vA ⟨jt,m,rfl,h1,h2⟩;exact aE (h m vA jt h1 h2)
    .refine aB (eJ lx fun rM Gh=>?_);refine aB (cG (dM (I:=fun i c aQ=>SQ κ a₀ pd aQ/\∃m,c=(none,m)/\m=i) (Q:=fun c aQ=>SQ κ a₀ pd aQ/\∃m,c=(none,m)/\1<=m/\m<=kM) ?_ ?_ ⟨Gh,_,rfl,rfl⟩) ?_)
     .rintro i c vA IQ Cc ⟨jt,m,rfl,rfl⟩;dsimp only;refine aB (dC hC jt (by lia) (by lia) fun b6=>?_);cases b6
      .exact aE ⟨jt,_,rfl,rfl⟩
      .exact aE ⟨jt,_,rfl,by lia,by lia⟩
     .rintro c vA ⟨jt,m,rfl,rfl⟩;exact⟨jt,_,rfl,by lia,by lia⟩
     .rintro c vA ⟨jt,m,rfl,h1,h2⟩;exact aE (h m vA jt h1 h2)
end
abbrev IR:=Nat×Nat×Nat
def f9:List IR->Nat->Nat->Prop
 |[],s,e=>s=e
 |r::rs,s,e=>r.1=s/\1<=r.2.1/\f9 rs (s+r.2.1) e
theorem f9.le:∀ {l:List IR} {s e:Nat},f9 l s e->s<=e
 |[],_,_,h=>mJ h
 |r::rs,s,e,⟨_,h2,h3⟩=>by have:=h3.le;lia
theorem f9.two:∀ {l:List IR} {s e i:Nat} {x y:IR},f9 l s e->l[i]?=some x->l[i+1]?=some y->
  x.1+x.2.1=y.1/\y.1+y.2.1<=e/\1<=x.2.1/\1<=y.2.1/\∀p,f9 ((l.set i (x.1,x.2.1+y.2.1,p)).eraseIdx (i+1)) s e
 |r::q::rs,s,e,0,x,y,⟨h1,h2,h3,h4,h5⟩,hx,hy=>by
  obtain rfl:=bG hx;obtain rfl:=bG hy;have:=h5.le;refine⟨by lia,by lia,h2,h4,fun p=>⟨h1,by show 1<=r.2.1+q.2.1;lia,?_⟩⟩;show f9 rs (s+(r.2.1+q.2.1)) e;rw[<-uV];exact h5
 |r::rs,s,e,i+1,x,y,⟨h1,h2,h3⟩,hx,hy=>by
  obtain⟨a1,a2,a3,a4,a5⟩:=f9.two (i:=i) h3 hx hy;exact⟨a1,a2,a3,a4,fun p=>⟨h1,h2,a5 p⟩⟩
theorem f9.push:∀ {l:List IR} {s e n p:Nat},f9 l s e->1<=n->f9 (l++[(e,n,p)]) s (e+n)
 |[],s,e,n,p,h,hn=>⟨h.symm,hn,by rw[h];rfl⟩
 |r::rs,s,e,n,p,⟨h1,h2,h3⟩,hn=>⟨h1,h2,f9.push h3 hn⟩
theorem f9.pw:∀ {l:List IR} {s e:Nat} (i p:Nat),f9 l s e->f9 (l.modify i fun r=>(r.1,r.2.1,p)) s e
 |[],s,e,i,p,h=>by cases i <;> exact h
 |r::rs,s,e,0,p,⟨h1,h2,h3⟩=>⟨h1,h2,h3⟩
 |r::rs,s,e,i+1,p,⟨h1,h2,h3⟩=>⟨h1,h2,f9.pw i p h3⟩
theorem C8{M:Model}{A:Around}{E:Value->Shared->Prop}{s:Shared}{σ:Type}{x:σ}{Q:PUnit->σ->Prop}{st:σ}(h:Q ⟨⟩ x):wpS M A E s (set x:StateT σ Sem PUnit) Q st:=by
 unfold wpS;rw[StateT.run_set];exact wpAny_pure ⟨rfl,h⟩
theorem sI(i:Nat):mergeAt' i=(do
 let s <- get
 let (some (sa,na,Kr),some (sb,nb,_)):=((pendingOf s)[i]?,(pendingOf s)[i+1]?)|unsupported "internal:list.sort.pending"
 set (setPending s (((pendingOf s).setIfInBounds i (sa,na+nb,Kr)).eraseIdxIfInBounds (i+1)))
 let some k <- fm false (<-elem' (arrOf s) sb) (arrOf s) sa na 0|return false
 let (sa,na):=(sa+k,na-k)
 if na==0 then return true
 let some nb <- fm true (<-elem' (arrOf s) (sa+na-1)) (arrOf s) sb nb (nb-1)|return false
 if nb==0 then return true
 let x:=(arrOf s).extract sa sb
 let y:=(arrOf s).extract sb (sb+nb)
 let merged <- if na<=nb then nE x y else nF x y
 modify fun s=>setArr s (merged.toList.zipIdx.foldl (fun a (p,j)=>a.setIfInBounds (sa+j) p) (arrOf s))
 return (failedOf (<-get)).isNone):=rfl
theorem nJ{sa:Nat}:∀ (l:List Keyed) (k:Nat) (arr:Array Keyed),sa+k+l.length<=arr.size->
  ((l.zipIdx k).foldl (fun (a:Array Keyed) (x:Keyed×Nat)=>a.setIfInBounds (sa+x.2) x.1) arr).toList=arr.toList.take (sa+k)++l++arr.toList.drop (sa+k+l.length)
 |[],k,arr,_=>by simp
 |x::l,k,arr,h=>by
  rw[cR] at h;have hs:sa+k<arr.toList.length:=by rw[j7];lia
  rw[mr,qk,nJ l (k+1) _ (by rw[Array.size_setIfInBounds];lia),zf];dsimp only;have e1:(arr.toList.set (sa+k) x).take (sa+(k+1))=arr.toList.take (sa+k)++[x]:=by
   rw[<-uV,dI,l9 hs,List.take_set_of_le (aI _)];rfl
  have e2:(arr.toList.set (sa+k) x).drop (sa+(k+1)+l.length)=arr.toList.drop (sa+k+(x::l).length):=by
   rw[List.drop_set_of_lt (by lia),cR];congr 1;lia
  rw[e1,e2,cq,cq,cq];rfl
section
variable {prog:Program} {w:World} {A:Around} {E:Value->Shared->Prop} {s:Shared} {κ:SortKind} {a₀:Array Keyed}
def SR(κ:SortKind)(a₀:Array Keyed)(lo:Nat)(st:SortSt):Prop:=∃pd,SQ κ a₀ pd st/\f9 pd.toList 0 lo/\lo<=a₀.size
theorem ik{st:SortSt}{i lo:Nat}{Q:Bool->SortSt->Prop}(hC:su prog w A s κ a₀)(hB:SR κ a₀ lo st)(hi:i+1<(pendingOf st).size)(h:∀aQ,SR κ a₀ lo aQ->Q true aQ):wpS (model prog w) A E s (mergeAt' i) Q st:=by
 obtain⟨pd,hq,hr,Nb⟩:=hB;rw[hq.pend] at hi;rw[sI];refine aB (eR ?_);have e1:pd[i]?=some pd[i]:=cr pd i (by lia);have e2:pd[i+1]?=some pd[i+1]:=cr pd (i+1) hi;obtain⟨a1,a2,a3,a4,a5⟩:=hr.two (i:=i) (x:=pd[i]) (y:=pd[i+1]) (by simpa using e1) (by simpa using e2);rw[hq.pend,e1,e2];revert a1 a2 a3 a4 a5;generalize pd[i]=x;generalize pd[i+1]=y;obtain⟨sa,na,pw⟩:=x;obtain⟨sb,nb,X8⟩:=y;intro a1 a2 a3 a4 a5;dsimp only at a1 a2 a3 a4 a5 |-;obtain⟨C9,Ks⟩:∃C9,C9=(pd.setIfInBounds i (sa,na+nb,pw)).eraseIdxIfInBounds (i+1):=⟨_,rfl⟩
 have oM:f9 C9.toList 0 lo:=by
  rw[Ks,Array.toList_eraseIdxIfInBounds,zf];exact a5 pw
 refine aB (C8 ?_);rw[<-Ks];have EQ:SM κ (arrOf st) C9 (setPending st C9):=⟨rfl,hq.kind,hq.failed,rfl⟩
 have iW:=hq.size;have pE:∀x∈(arrOf st).toList,x∈a₀.toList:=fun x hx=>(jC.mp hq.perm).mem_iff.mp hx;have dz:∀aQ,SM κ (arrOf st) C9 aQ->SR κ a₀ lo aQ:=fun aQ m=>⟨C9,⟨by rw[m.arr];exact hq.perm,m.kind,m.failed,m.pend⟩,oM,Nb⟩
 refine aB (aV (cr (arrOf st) sb (by lia)) ?_);refine aB (dP hC EQ.kind (pE _ (by simp)) pE (by lia) (by lia) fun k hk=>?_);dsimp only;by_cases f1:(na-k==0)=true
 .rw[ap f1];exact aE (h _ (dz _ EQ))
 rw[am f1];have g1:¬ (na-k=0):=by simpa using f1
 refine aB (aV (cr (arrOf st) (sa+k+(na-k)-1) (by lia)) ?_);refine aB (dP hC EQ.kind (pE _ (by simp)) pE (by lia) (by lia) fun k2 VQ=>?_);dsimp only;by_cases f2:(k2==0)=true
 .rw[ap f2];exact aE (h _ (dz _ EQ))
 rw[am f2];have g2:¬ (k2=0):=by simpa using f2
 have hx:∀x∈((arrOf st).extract (sa+k) sb).toList,x∈a₀.toList:=fun x hx=>pE x (by rw[cU] at hx;exact mh (mf hx));have hy:∀x∈((arrOf st).extract sb (sb+k2)).toList,x∈a₀.toList:=fun x hx=>pE x (by rw[cU] at hx;exact mh (mf hx));have sx:((arrOf st).extract (sa+k) sb).size=sb-(sa+k):=by rw[Array.size_extract];lia
 have sy:((arrOf st).extract sb (sb+k2)).size=k2:=by rw[Array.size_extract];lia
 have last:∀ (out:Array Keyed) (aQ:SortSt),out.Perm ((arrOf st).extract (sa+k) sb++(arrOf st).extract sb (sb+k2))->SM κ (arrOf st) C9 aQ->wpS (model prog w) A E s (do
   modify fun s=>setArr s (out.toList.zipIdx.foldl (fun a (p,j)=>a.setIfInBounds (sa+k+j) p) (arrOf s))
   return (failedOf (<-get)).isNone) Q aQ:=by
  intro out aQ hp m;refine aB (eh ?_);refine aB (eR (aE ?_));have Tp:out.toList.length=sb-(sa+k)+k2:=by
   rw[j7,hp.size_eq,Array.size_append,sx,sy]
  have wl:=nJ (sa:=sa+k) out.toList 0 (arrOf aQ) (by rw[m.arr,Tp];lia);have pm:(out.toList.zipIdx.foldl (fun a (p,j)=>a.setIfInBounds (sa+k+j) p) (arrOf aQ)).Perm (arrOf st):=by
   rw[jC];refine(ql wl).trans ?_;rw[m.arr,Tp,Nat.add_zero];have IM:=jC.mp hp;rw[dt,cU,cU] at IM;refine((IM.append_left _).append_right _).trans ?_;have e1:(arrOf st).toList.drop (sa+k)=((arrOf st).toList.drop (sa+k)).take (sb-(sa+k))++(arrOf st).toList.drop sb:=jU (by lia);have e2:(arrOf st).toList.drop sb=((arrOf st).toList.drop sb).take (sb+k2-sb)++(arrOf st).toList.drop (sb+k2):=jU (by lia);have e3:sa+k+(sb-(sa+k)+k2)=sb+k2:=by lia
   rw[e3];refine ql ?_;conv=>rhs;rw[<-j4 (sa+k) (arrOf st).toList,e1,e2]
   simp only[cq]
  have hf:(failedOf aQ).isNone=true:=by rw[m.failed];rfl
  show Q (failedOf aQ).isNone _;rw[hf];exact h _ ⟨C9,⟨pm.trans hq.perm,m.kind,m.failed,m.pend⟩,oM,Nb⟩
 by_cases f3:na-k<=k2
 .rw[ap f3];exact aB (sC hC EQ hx hy (by lia) (by lia) fun out aQ hp m=>last out aQ hp m)
 .rw[am f3];exact aB (sH hC EQ hx hy (by lia) (by lia) fun out aQ hp m=>last out aQ hp m)
theorem sJ{c:Prop}[Decidable c]{x:Nat}:(if c then x-1 else x)<=x:=by split <;> lia
theorem SR.pw{lo:Nat}{st:SortSt}(h:SR κ a₀ lo st)(i p:Nat):SR κ a₀ lo (setPending st ((pendingOf st).modify i fun r=>(r.1,r.2.1,p))):=by
 obtain⟨pd,hq,hr,hl⟩:=h;refine⟨_,⟨hq.perm,hq.kind,hq.failed,rfl⟩,?_,hl⟩;show f9 ((pendingOf st).modify i fun r=>(r.1,r.2.1,p)).toList 0 lo;rw[hq.pend,Array.toList_modify];exact hr.pw i p
theorem SR.push{lo n:Nat}{st:SortSt}(h:SR κ a₀ lo st)(h1:1<=n)(hn:lo+n<=a₀.size):SR κ a₀ (lo+n) (setPending st ((pendingOf st).push (lo,n,0))):=by
 obtain⟨pd,hq,hr,hl⟩:=h;refine⟨_,⟨hq.perm,hq.kind,hq.failed,rfl⟩,?_,hn⟩;show f9 ((pendingOf st).push (lo,n,0)).toList 0 (lo+n);rw[hq.pend,j_];exact hr.push h1
theorem yj{st:SortSt}{Q:Unit->SortSt->Prop}(hC:su prog w A s κ a₀)(hp:(arrOf st).Perm a₀)(hk:kindOf st=κ)(hf:failedOf st=none)(VR:pendingOf st=#[])(h:∀aQ,(arrOf aQ).Perm a₀->failedOf aQ=none->Q () aQ):wpS (model prog w) A E s sortRuns' Q st:=by
 have h0:SR κ a₀ 0 st:=⟨#[],⟨hp,hk,hf,VR⟩,rfl,cK _⟩
 have iW:(arrOf st).size=a₀.size:=hp.size_eq;rw[sortRuns'_eq];refine aB (eR ?_);dsimp only;rw[iW];refine aB (cG (dM (I:=fun _ c aQ=>∃lo,c=(none,lo)/\SR κ a₀ lo aQ) (Q:=fun c aQ=>∃lo,c=(none,lo)/\SR κ a₀ lo aQ) ?_ (fun c aQ hh=>hh) ⟨0,rfl,h0⟩) ?_)
 .rintro i c xz _ _ ⟨lo,rfl,hR⟩;dsimp only;by_cases e1:lo>=a₀.size
  .rw[ap e1];exact aE ⟨lo,rfl,hR⟩
  rw[am e1];have Nb:lo<a₀.size:=by lia
  obtain⟨pd,hq,hr,hl⟩:=hR;refine aB (yi hC (by lia) (by lia) hq fun n oH Nh n1 n2=>?_);dsimp only;by_cases hm:n<minRun' a₀.size a₀.size 0
  .rw[ap hm];refine aB (ji (fg ⟨rfl,?_⟩));refine aB (C3 hC (by lia) Nh fun u5 SO=>?_);simp only[qu,kZ,ei];have Cd:SR κ a₀ lo u5:=⟨pd,SO,hr,hl⟩
   refine aB (eR ?_);cases hb:(pendingOf u5).back? with
   |none=>
    dsimp only;exact aB (eh (aE ⟨_,rfl,Cd.push (by lia) (by lia)⟩))
   |some r=>
    obtain⟨s1,VS,VT⟩:=r;dsimp only;refine aB (cG (dM (I:=fun _ c aQ=>c=(none,())/\SR κ a₀ lo aQ) (Q:=fun c aQ=>c=(none,())/\SR κ a₀ lo aQ) ?_ (fun c aQ hh=>hh) ⟨rfl,Cd⟩) ?_)
    .rintro x c ou _ _ ⟨rfl,sK⟩;refine aB (eR ?_);by_cases hs:(pendingOf ou).size > 1
     .rw[ap hs,cr (pendingOf ou) ((pendingOf ou).size-2) (by lia)];generalize (pendingOf ou)[(pendingOf ou).size-2]=r4;obtain⟨_,_,Ku⟩:=r4;dsimp only;split
      .exact aE ⟨rfl,sK⟩
      .refine aB (ik hC sK (by lia) fun rM Kv=>?_);simp only[qu,kZ,ei];exact aE ⟨rfl,Kv⟩
     .rw[am hs];exact aE ⟨rfl,sK⟩
    .rintro c ou ⟨rfl,sK⟩;dsimp only;exact aB (eh (aB (eh (aE ⟨_,rfl,(sK.pw _ _).push (by lia) (by lia)⟩))))
  .rw[am hm];have Cd:SR κ a₀ lo oH:=⟨pd,Nh,hr,hl⟩
   refine aB (eR ?_);cases hb:(pendingOf oH).back? with
   |none=>
    dsimp only;exact aB (eh (aE ⟨_,rfl,Cd.push (by lia) (by lia)⟩))
   |some r=>
    obtain⟨s1,VS,VT⟩:=r;dsimp only;refine aB (cG (dM (I:=fun _ c aQ=>c=(none,())/\SR κ a₀ lo aQ) (Q:=fun c aQ=>c=(none,())/\SR κ a₀ lo aQ) ?_ (fun c aQ hh=>hh) ⟨rfl,Cd⟩) ?_)
    .rintro x c ou _ _ ⟨rfl,sK⟩;refine aB (eR ?_);by_cases hs:(pendingOf ou).size > 1
     .rw[ap hs,cr (pendingOf ou) ((pendingOf ou).size-2) (by lia)];generalize (pendingOf ou)[(pendingOf ou).size-2]=r4;obtain⟨_,_,Ku⟩:=r4;dsimp only;split
      .exact aE ⟨rfl,sK⟩
      .refine aB (ik hC sK (by lia) fun rM Kv=>?_);simp only[qu,kZ,ei];exact aE ⟨rfl,Kv⟩
     .rw[am hs];exact aE ⟨rfl,sK⟩
    .rintro c ou ⟨rfl,sK⟩;dsimp only;exact aB (eh (aB (eh (aE ⟨_,rfl,(sK.pw _ _).push (by lia) (by lia)⟩))))
 .rintro c xz ⟨lo,rfl,hR⟩;dsimp only;refine aB (cG (dM (I:=fun _ c aQ=>c=(none,())/\SR κ a₀ lo aQ) (Q:=fun c aQ=>c=(none,())/\SR κ a₀ lo aQ) ?_ (fun c aQ hh=>hh) ⟨rfl,hR⟩) ?_)
  .rintro x c ou _ _ ⟨rfl,sK⟩;refine aB (eR ?_);by_cases hs:(pendingOf ou).size<=1
   .rw[ap hs];exact aE ⟨rfl,sK⟩
   rw[am hs];refine aB (ik hC sK ?_ fun rM Kv=>?_)
   .exact fL (Nat.succ_le_succ sJ) (show (pendingOf ou).size-2+1<(pendingOf ou).size by lia)
   .simp only[qu,kZ,ei];exact aE ⟨rfl,Kv⟩
  .rintro c ou ⟨rfl,pd,hq,_⟩;exact aE (h _ hq.perm hq.failed)
end
end PyProof.Rows
namespace L2
open PySem PySem.Spec PyProof.Rows PySem.W
def gw(h:Heap)(vs:List Value):Prop:=∀v∈vs,∃a o n x t y u,v=Value.ref a/\h.get? a=some o/\o.cls=.type "tuple"/\o.data=.seq #[.int x t,.int y u] n
theorem gw.jk{h:Heap}:∀ {vs:List Value},gw h vs->∃fs,KatTups h vs fs/\fs.length=vs.length/\∀v∈fs,∃n t,v=Value.int n t
 |[],_=>⟨[],trivial,rfl,fun v hv=>nomatch hv⟩
 |v::vs,hp=>by
  obtain⟨fs,k1,k2,k3⟩:=gw.jk (vs:=vs) fun b hb=>hp b (bA _ hb);obtain⟨a,o,n,x,t,y,u,rfl,e,c,d⟩:=hp v bX;refine⟨.int x t::fs,KatTups.cons e c d rfl k1,by simp[k2],fun v hv=>?_⟩;rcases aY.mp hv with z|z
  .exact⟨x,t,z⟩
  .exact k3 v z
section
variable {prog:Program} {w:World} {A:Around} {E:Value->Shared->Prop} {s:Shared}
theorem yk{vs:List Value}(hp:gw s.heap vs):su prog w A s (tuples' true) (vs.toArray.zip vs.toArray):=by
 have mem:∀x∈(vs.toArray.zip vs.toArray).toList,x.1∈vs:=by
  intro x hx;rw[Array.toList_zip] at hx;exact(my hx).1
 intro x y hx hy Q E' q;obtain⟨a,o,n,x1,t1,x2,t2,e1,eo,_,ed⟩:=hp x.1 (mem x hx);obtain⟨b,o',n',y1,u1,y2,u2,e2,VU,_,VV⟩:=hp y.1 (mem y hy);rw[e1,e2];refine kat_lt eo ed VU VV (kat_cons (uT ?_));by_cases h1:x1=y1
 .rw[eG.mpr h1];refine kat_yes (kat_cons (uT ?_));by_cases h2:x2=y2
  .rw[eG.mpr h2];exact kat_yes (kat_nil (q _))
  .rw[j6.mpr h2];exact kat_no (kat_one _ _ (lt_int (q _)))
 .rw[j6.mpr h1];exact kat_no (oneLt_int (q _))
theorem C_{vs:List Value}:((vs.toArray.zip vs.toArray).map (·.2)).toList=vs:=by
 rw[qg,Array.toList_zip];show (vs.zip vs).map (·.2)=vs;rw[<-List.unzip_snd,List.unzip_zip_right (aI _)]
theorem lB{a:Addr}{vs:List Value}{n:Nat}{P:PySem.Fin->Shared->Prop}(ho:s.heap.get? a=some (seqObj "list" vs.toArray n))(hp:gw s.heap vs)(hz:vs.length<=4096)(h:∀ (out:Array Value),out.toList.Perm vs->P (.done (.ret .none)) { s with heap:=sortedHeap s.heap a vs out }):
  wpAny (model prog w) A (Builtin.«list.sort» ⟨[.ref a],[]⟩) P E s:=by
 rw[list_sort_plain];have ha:a<s.heap.objs.size:=aU ho;have IK:vs.toArray.size<=sizeLine:=by rw[cp,g9];lia
 refine ai (listItems_at ho rfl ?_);refine ai (listUpdate_at ho rfl ?_ IK (cK _));obtain⟨e1,IS⟩:∃e1,(s.heap.update a (Obj.mapSeq fun _=>#[])).get? a=some (seqObj "list" #[] e1):=⟨_,mK ho (fun _=>#[])⟩
 refine ai (seqEpoch_at IS rfl ?_);refine ai (mG ?_ (by show vs.length<=_;rw[g9];lia));refine ai (wpAny_newList ?_ (cK _));refine gI ?_;have EZ:(((s.heap.update a (Obj.mapSeq fun _=>#[])).push (seqObj "tuple" vs.toArray 0)).push (seqObj "list" #[] 0)).get? a=some (seqObj "list" #[] e1):=by
  rw[dJ _ _ _ (by rw[eQ,eM];exact aL (bQ ha)),dJ _ _ _ (by rw[eM];exact aL ha)];exact IS
 have Nn:gw (((s.heap.update a (Obj.mapSeq fun _=>#[])).push (seqObj "tuple" vs.toArray 0)).push (seqObj "list" #[] 0)) vs:=by
  intro v hv;obtain⟨b,o,n,x,t,y,u,ev,e,c,d⟩:=hp v hv;have hb:b<s.heap.objs.size:=aU e;have qI:b≠a:=by
   rintro rfl;rw[ho] at e;cases e;exact absurd (Value.type.inj c) (by decide)
  refine⟨b,o,n,x,t,y,u,ev,?_,c,d⟩;rw[dJ _ _ _ (by rw[eQ,eM];exact aL (bQ hb)),dJ _ _ _ (by rw[eM];exact aL hb),kX _ _ _ _ qI];exact e
 show wpAny (model prog w) A _ P E { s with heap:=((s.heap.update a (Obj.mapSeq fun _=>#[])).push (seqObj "tuple" vs.toArray 0)).push (seqObj "list" #[] 0) };dsimp only;have dz:∀aQ:SortSt,(arrOf aQ).Perm (vs.toArray.zip vs.toArray)->P (.done (.ret .none)) { s with heap:=sortedHeap s.heap a vs ((arrOf aQ).map (·.2)) }:=by
  intro aQ No;refine h _ ?_;have:=(jC.mp No).map (·.2);rw[<-qg,<-qg,C_] at this;exact this
 have Tq:(vs.toArray.zip vs.toArray).size=vs.length:=by simp
 by_cases h2:vs.toArray.size<2
 .rw[ap h2,ap h2];refine ai (wpAny_pure ?_);rw[StateT.run_pure];refine ai (wpAny_pure ?_);dsimp only;refine ai (seqEpoch_at EZ rfl ?_);refine ai (listUpdate_at EZ rfl ?_ (cK _) (by show ((vs.toArray.zip vs.toArray).map (·.2)).size<=_;rw[jJ,Tq,g9];lia));simp only[bne_self_eq_false,kZ,ei];exact wpAny_pure (dz (SortSt.mk' general' (vs.toArray.zip vs.toArray) #[] 7 none) (Array.Perm.refl _))
 .rw[am h2,am h2];have fE:2<=vs.length:=by rw[cp] at h2;lia
  obtain⟨fs,k1,k2,k3⟩:=Nn.jk;refine ai (kat_kind (T:=.type "int") k1 (by lia) (fun v hv=>?_) rfl ?_)
  .obtain⟨m,t,rfl⟩:=k3 v hv;exact .now
  refine ai (jg (yj (a₀:=vs.toArray.zip vs.toArray) (κ:=tuples' true) (st:=SortSt.mk' (tuples' true) (vs.toArray.zip vs.toArray) #[] 7 none)
   (Q:=fun _ aQ=>(arrOf aQ).Perm (vs.toArray.zip vs.toArray)/\failedOf aQ=none) (yk Nn) (Array.Perm.refl _) rfl rfl rfl fun aQ b1 b2=>⟨b1,b2⟩) ?_ fun _ _ e=>e)
  rintro⟨⟨⟩,aQ⟩ s' ⟨rfl,No,hf⟩;dsimp only;refine ai (seqEpoch_at EZ rfl ?_);refine ai (listUpdate_at EZ rfl ?_ (cK _) (by refine bn (mJ ((jJ ..).trans (No.size_eq.trans Tq))) ?_;rw[g9];lia));rw[hf];simp only[bne_self_eq_false,kZ,ei];exact wpAny_pure (dz aQ No)
theorem qR{l:Addr}{vs:List Value}{Q:Value->Shared->Prop}(hl:s.heap.IsList l vs.toArray)(hp:gw s.heap vs)(hz:vs.length<=4096)(h:∀ (out:Array Value),out.toList.Perm vs->Q (.ref (s.heap.objs.size+1)) { s with heap:=sortedAll s.heap vs out }):
  wpAny (model prog w) A (call (.builtin "sorted") [.ref l]) Q E s:=by
 have IK:vs.length<=sizeLine:=by rw[g9];lia
 refine Calls.call_function_entry kind_sorted plain_sorted entry_sorted (args_sorted1 _) ?_;unfold Builtin.«sorted»;refine ai (m:=checkCount "sorted" 1 1 _) (wpAny_pure ?_);refine ai (collect_list hl ?_ IK);refine ai (wpAny_newList ?_ IK);have iW:((s.heap.push (seqObj "list" #[] 0)).update s.heap.objs.size (Obj.mapSeq (·++vs.toArray))).objs.size=s.heap.objs.size+1:=by
  rw[eM,eQ]
 have yV:(((s.heap.push (seqObj "list" #[] 0)).update s.heap.objs.size (Obj.mapSeq (·++vs.toArray))).push (seqObj "list" vs.toArray 0)).get? (s.heap.objs.size+1)=some (seqObj "list" vs.toArray 0):=by
  rw[<-iW];exact bv _ rfl
 have VW:gw (((s.heap.push (seqObj "list" #[] 0)).update s.heap.objs.size (Obj.mapSeq (·++vs.toArray))).push (seqObj "list" vs.toArray 0)) vs:=by
  intro v hv;obtain⟨b,o,n,x,t,y,u,ev,e,c,d⟩:=hp v hv;have hb:b<s.heap.objs.size:=aU e;refine⟨b,o,n,x,t,y,u,ev,?_,c,d⟩;rw[dJ _ _ _ (by rw[iW];exact aL (bQ hb)),kX _ _ _ _ (aL hb),dJ _ _ _ (aL hb)];exact e
 show wpAny _ _ _ _ _ { s with heap:=((s.heap.push (seqObj "list" #[] 0)).update s.heap.objs.size (Obj.mapSeq (·++vs.toArray))).push (seqObj "list" vs.toArray 0) };rw[iW];refine ai (gI (iS slot_list_sort ⟨_,yV,rfl⟩ entry_list_sort (lB yV VW hz fun out a1=>⟨_,rfl,?_⟩) (args_list_sort _)));exact wpAny_pure ⟨_,rfl,h out a1⟩
end
theorem sL:∀ {as:List Addr} {its:List Value},aS (as.map V.ref) its->its=as.map Value.ref
 |[],_,r=>by cases r;rfl
 |a::as,_,r=>by
  cases r with
  |cons r rr=>
   obtain rfl:=(show _=Value.ref a from r)
   rw[sL rr];rfl
theorem pI:∀ {as:List Addr},aS (as.map V.ref) (as.map Value.ref)
 |[]=>.nil
 |_::_=>.cons rfl pI
theorem ym{as:List Addr}{vs:List Value}(h:vs.Perm (as.map Value.ref)):∃tV:List Addr,vs=tV.map Value.ref/\tV.Perm as:=by
 let un:Value->Addr:=fun v=>match v with|.ref a=>a|_=>0
 refine⟨vs.map un,?_,?_⟩
 .rw[dY];have:∀v∈vs,(Value.ref ∘ un) v=v:=by
   intro v hv;obtain⟨a,_,rfl⟩:=bg.mp (h.mem_iff.mp hv);rfl
  conv=>lhs;rw[<-gb vs]
  exact jE fun v hv=>(this v hv).symm
 .have:=h.map un;rw[dY] at this;have e:as.map (un ∘ Value.ref)=as:=by
   conv=>rhs;rw[<-gb as]
   exact jE fun a _=>rfl
  rw[e] at this;exact this
def Ar(K:PySem.W.Frag):List V->Hp->VK->Prop:=fun xs H Q=>∃ (l:Addr) (as:List Addr),xs=[.ref l]/\bo K H l (as.map V.ref)/\(∀a∈as,∃x y:Int,bL K H a [.int x,.int y])/\as.length<=4096/\
 ∀ (D:Addr) (tV:List Addr),H D=none->tV.Perm as->Q (.ref D) (upd H D (.lst (tV.map V.ref)))
theorem vB{X:Cx}:dZ X (.builtin "sorted") (Ar X.K):=by
 intro ae s σ H xs us Q I r h;obtain⟨l,as,rfl,hl,hp,hz,q⟩:=h;obtain⟨u1,rfl,r1⟩:=r.one;obtain rfl:u1=Value.ref l:=r1;obtain⟨its,rv,pl,_⟩:=I.list hl;have Ai:=sL rv;subst Ai;have VX:gw s.heap (as.map Value.ref):=by
  intro v hv;obtain⟨a,ha,rfl⟩:=bg.mp hv;obtain⟨x,y,E2⟩:=hp a ha;obtain⟨its,r,⟨o,e,c,n,d⟩,_⟩:=I.tuple E2;obtain⟨u1,u2,rfl,r1,r2⟩:=r.two;obtain⟨t,rfl⟩:=r1;obtain⟨t',rfl⟩:=r2;exact⟨a,o,n,x,t,y,t',rfl,e,c,d⟩
 refine qR pl.isList VX (by rw[a_];exact hz) fun out Kw=>?_;obtain⟨tV,eo,pa⟩:=ym Kw;have yb:out=(tV.map Value.ref).toArray:=by rw[<-eo]
 subst yb;have y0:((s.heap.push (seqObj "list" #[] 0)).update s.heap.objs.size (Obj.mapSeq (·++(as.map Value.ref).toArray))).objs.size=s.heap.objs.size+1:=by rw[eM,eQ]
 have k1:∀b u,s.heap.get? b=some u->(((s.heap.push (seqObj "list" #[] 0)).update s.heap.objs.size (Obj.mapSeq (·++(as.map Value.ref).toArray))).push (seqObj "list" (as.map Value.ref).toArray 0)).get? b=some u:=fun b u e=>by
  have hb:b<s.heap.objs.size:=aU e;rw[dJ _ _ _ (by rw[y0];exact aL (bQ hb)),kX _ _ _ _ (aL hb),dJ _ _ _ (aL hb)];exact e
 have yV:(((s.heap.push (seqObj "list" #[] 0)).update s.heap.objs.size (Obj.mapSeq (·++(as.map Value.ref).toArray))).push (seqObj "list" (as.map Value.ref).toArray 0)).get? (s.heap.objs.size+1)=some (seqObj "list" (as.map Value.ref).toArray 0):=by
  rw[<-y0];exact bv _ rfl
 have yn:(((s.heap.push (seqObj "list" #[] 0)).update s.heap.objs.size (Obj.mapSeq (·++(as.map Value.ref).toArray))).push (seqObj "list" (as.map Value.ref).toArray 0)).objs.size=s.heap.objs.size+2:=by rw[eQ,y0]
 show EP X ae σ Q (.ref (s.heap.objs.size+1)) { s with heap:=sortedHeap (((s.heap.push (seqObj "list" #[] 0)).update s.heap.objs.size (Obj.mapSeq (·++(as.map Value.ref).toArray))).push (seqObj "list" (as.map Value.ref).toArray 0)) (s.heap.objs.size+1) (as.map Value.ref) (tV.map Value.ref).toArray };revert k1 yV yn;generalize ((s.heap.push (seqObj "list" #[] 0)).update s.heap.objs.size (Obj.mapSeq (·++(as.map Value.ref).toArray))).push (seqObj "list" (as.map Value.ref).toArray 0)=h1;intro k1 yV yn;obtain⟨e1,IS⟩:∃e1,(h1.update (s.heap.objs.size+1) (Obj.mapSeq fun _=>(#[]:Array Value))).get? (s.heap.objs.size+1)=some (seqObj "list" #[] e1):=⟨_,mK yV (fun _=>#[])⟩
 have EZ:(((h1.update (s.heap.objs.size+1) (Obj.mapSeq fun _=>(#[]:Array Value))).push (seqObj "tuple" (as.map Value.ref).toArray 0)).push (seqObj "list" #[] 0)).get? (s.heap.objs.size+1)=some (seqObj "list" #[] e1):=by
  rw[dJ _ _ _ (by rw[eQ,eM,yn];exact aL (bQ (iR _))),dJ _ _ _ (by rw[eM,yn];exact aL (iR _))];exact IS
 obtain⟨e2,VY⟩:∃e2,(sortedHeap h1 (s.heap.objs.size+1) (as.map Value.ref) (tV.map Value.ref).toArray).get? (s.heap.objs.size+1)=some (seqObj "list" (tV.map Value.ref).toArray e2):=⟨_,mK EZ (fun _=>(tV.map Value.ref).toArray)⟩
 have keep:∀b u,s.heap.get? b=some u->(sortedHeap h1 (s.heap.objs.size+1) (as.map Value.ref) (tV.map Value.ref).toArray).get? b=some u:=fun b u e=>by
  have hb:b<s.heap.objs.size:=aU e;unfold sortedHeap;rw[kX _ _ _ _ (aL (bQ hb)),dJ _ _ _ (by rw[eQ,eM,yn];exact aL (bQ (bQ (bQ hb)))),dJ _ _ _ (by rw[eM,yn];exact aL (bQ (bQ hb))),kX _ _ _ _ (aL (bQ hb))];exact k1 b u e
 have sO:s.heap.get? (s.heap.objs.size+1)=none:=p_ (by lia);refine⟨.ref (s.heap.objs.size+1),_,I.zY (t':=s.toks) (o:=.lst (tV.map V.ref)) keep sO ⟨?_,tV.map Value.ref,e2,pI,VY⟩,rfl,q _ tV (I.bD.nA sO) pa⟩;rw[a_,pa.length_eq];exact bn hz (by decide)
open PySem PySem.Spec PyProof.Rows
theorem aH(sb:Heap.SameBut c h h')(n:b≠c)(e:h.get? b=some o):h'.get? b=some o:=(sb.2 b n).trans e
section
variable {prog:Program} {w:World} {A:Around} {E:Value->Shared->Prop} {s:Shared}
end
theorem aD.wT{X:Cx}{ae:List (Addr×Obj)}{σ:St}{H:Hp}{s:Shared}{h':Heap}{t':Nat}{ch:List Addr}(I:aD X ae σ H s)(fe:∀e∈ch,fA X ae H e)(k:∀b o,b∉ch->s.heap.get? b=some o->h'.get? b=some o):aD X ae σ H { s with heap:=h',toks:=t' }:=by
 have EC:∀b u,H b=some u->b∉ch:=fun b u e z=>by rw[(fe b z).1] at e;cases e
 refine I.step (g':=s.gens) (d':=s.drawn) (ch:=ch) (fun b hb=>?_) (fun b o _ _ hc e _=>k b o hc e) (fun b o _ _ hc e _=>⟨o.slots,k b o hc e⟩) (fun _ _ _ _ n=>n) (fun b o hc e=>⟨o,k b o hc e⟩) (fun _ _ e=>e) (fun _ _ _ e=>e) (fun b ps e=>⟨#[],by rw[e];simp⟩) (fun m hm=>?_) (fun b u e=>?_) I.bare
 .obtain⟨_,f1,_,f3,f4,f5⟩:=fe b hb;exact⟨f3,f1,f4,f5⟩
 .obtain⟨o,es,ep,ho,r⟩:=hm;exact⟨o,es,ep,k _ o (fun z=>(fe _ z).2.1 rfl) ho,r⟩
 .refine(I.bD b u e).lr (fun c v hc q=>k c v ?_ q) (fun _ q=>q) fun _ _ q=>q;rcases hc with z|z
  .rw[z];exact EC b u e
  .exact EC c _ z
theorem aD.qS{X:Cx}{ae:List (Addr×Obj)}{σ:St}{H:Hp}{s:Shared}{h':Heap}{p:Addr}{t':Nat}{ch:List Addr}{xs:List V}{its:List Value}(I:aD X ae σ H s)(fe:∀e∈ch,fA X ae H e)(k:∀b o,b∉ch->s.heap.get? b=some o->h'.get? b=some o)(hp:s.heap.objs.size<=p)(hl:xs.length<=sizeLine)(r:aS xs its)(ht:h'.get? p=some { cls:=.type "tuple",data:=.seq its.toArray }):aD X ae σ (upd H p (.tup xs)) { s with heap:=h',toks:=t' }:=by
 have hn:=I.bD.fresh hp;have ne:∀b o,s.heap.get? b=some o->b≠p:=fun b o q=>aL (bj (aU q) hp);have EC:∀b u,H b=some u->b∉ch:=fun b u e z=>by rw[(fe b z).1] at e;cases e
 refine I.step (g':=s.gens) (d':=s.drawn) (ch:=ch) (fun b hb=>?_) (fun b o _ _ hb q _=>k b o hb q) (fun b o _ _ hb q _=>⟨o.slots,k b o hb q⟩) (fun b o hb q n=>by rw[ao (ne b o q)];exact n) (fun b o hb q=>⟨o,k b o hb q⟩)
  (fun b ys q=>by rw[ao (aq q hn)];exact q) (fun b o u q=>by rw[ao (aq q hn)];exact q) (fun b ps q=>⟨#[],by rw[ao (aq q hn),q];simp⟩) (fun m hm=>?_) (fun b o q=>?_) I.bare
 .obtain⟨_,f1,_,f3,f4,f5⟩:=fe b hb;exact⟨f3,f1,f4,f5⟩
 .obtain⟨o,es,ep,q,d,r'⟩:=hm;exact⟨o,es,ep,k _ _ (fun z=>(fe _ z).2.1 rfl) q,d,r'⟩
 .by_cases hb:b=p
  .subst hb;rw[ah] at q;cases q;exact⟨hl,its,r,_,ht,rfl,_,rfl,rfl⟩
  .rw[ao hb] at q;refine(I.bD b o q).lr (fun c u hc z=>k c u ?_ z) (fun c z=>by rw[ao (aq z hn)];exact z) fun c ys z=>by rw[ao (aq z hn)];exact z
   rcases hc with rfl|hc
   .exact EC _ _ q
   .exact EC _ _ hc
section
variable {X:Cx}
end
theorem sP{h:Heap}{vs:List Value}{out:Array Value}:(∃e,(sortedAll h vs out).get? (h.objs.size+1)=some (seqObj "list" out e))/\∀b u,h.get? b=some u->(sortedAll h vs out).get? b=some u:=by
 have y0:((h.push (seqObj "list" #[] 0)).update h.objs.size (Obj.mapSeq (·++vs.toArray))).objs.size=h.objs.size+1:=by rw[eM,eQ]
 have k1:∀b u,h.get? b=some u->(((h.push (seqObj "list" #[] 0)).update h.objs.size (Obj.mapSeq (·++vs.toArray))).push (seqObj "list" vs.toArray 0)).get? b=some u:=fun b u e=>by
  have hb:b<h.objs.size:=aU e;rw[dJ _ _ _ (by rw[y0];exact aL (bQ hb)),kX _ _ _ _ (aL hb),dJ _ _ _ (aL hb)];exact e
 have yV:(((h.push (seqObj "list" #[] 0)).update h.objs.size (Obj.mapSeq (·++vs.toArray))).push (seqObj "list" vs.toArray 0)).get? (h.objs.size+1)=some (seqObj "list" vs.toArray 0):=by
  rw[<-y0];exact bv _ rfl
 have yn:(((h.push (seqObj "list" #[] 0)).update h.objs.size (Obj.mapSeq (·++vs.toArray))).push (seqObj "list" vs.toArray 0)).objs.size=h.objs.size+2:=by rw[eQ,y0]
 unfold sortedAll;revert k1 yV yn;generalize ((h.push (seqObj "list" #[] 0)).update h.objs.size (Obj.mapSeq (·++vs.toArray))).push (seqObj "list" vs.toArray 0)=h1;intro k1 yV yn;obtain⟨e1,IS⟩:∃e1,(h1.update (h.objs.size+1) (Obj.mapSeq fun _=>(#[]:Array Value))).get? (h.objs.size+1)=some (seqObj "list" #[] e1):=⟨_,mK yV (fun _=>#[])⟩
 have EZ:(((h1.update (h.objs.size+1) (Obj.mapSeq fun _=>(#[]:Array Value))).push (seqObj "tuple" vs.toArray 0)).push (seqObj "list" #[] 0)).get? (h.objs.size+1)=some (seqObj "list" #[] e1):=by
  rw[dJ _ _ _ (by rw[eQ,eM,yn];exact aL (bQ (iR _))),dJ _ _ _ (by rw[eM,yn];exact aL (iR _))];exact IS
 refine⟨⟨_,mK EZ (fun _=>out)⟩,fun b u e=>?_⟩;have hb:b<h.objs.size:=aU e;unfold sortedHeap;rw[kX _ _ _ _ (aL (bQ hb)),dJ _ _ _ (by rw[eQ,eM,yn];exact aL (bQ (bQ (bQ hb)))),dJ _ _ _ (by rw[eM,yn];exact aL (bQ (bQ hb))),kX _ _ _ _ (aL (bQ hb))];exact k1 b u e
end L2
namespace im
abbrev Ts:=List (Int×Int)
def T(ts:Ts)(a b:Nat):Prop:=(((a:Nat):Int),((b:Nat):Int))∈ts
instance (ts:Ts) (a b:Nat):Decidable (T ts a b):=inferInstanceAs (Decidable (_∈_))
def d9(ts:Ts):Nat->Nat->Nat->Prop
 |0,a,b=>a=b
 |k+1,a,b=>∃c,d9 ts k a c/\T ts c b
theorem d9.trans(h:d9 ts k a b):∀ {l:Nat} {c:Nat},d9 ts l b c->d9 ts (k+l) a c
 |0,_,e=>by cases e;exact h
 |l+1,_,⟨d,w,t⟩=>⟨d,h.trans w,t⟩
theorem d9.one(h:T ts a b):d9 ts 1 a b:=⟨a,rfl,h⟩
theorem d9.cons(h:T ts a b)(w:d9 ts k b c):d9 ts (k+1) a c:=by
 have:=(d9.one h).trans w;rwa [Nat.add_comm] at this
theorem d9.As{ts:Ts}:∀ {k:Nat} {a c:Nat},d9 ts (k+1) a c->∃b,T ts a b/\d9 ts k b c
 |0,a,c,⟨d,e,t⟩=>by cases e;exact⟨c,t,rfl⟩
 |k+1,a,c,⟨d,w,t⟩=>by
  obtain⟨b,t',w'⟩:=d9.As w;exact⟨b,t',d,w',t⟩
def pJ(ts:Ts)(a b d:Nat):Prop:=d9 ts d a b/\∀k,d9 ts k a b->d<=k
theorem pJ.uniq(h:pJ ts a b d)(g:pJ ts a b e):d=e:=Nat.le_antisymm (h.2 _ g.1) (g.2 _ h.1)
open Classical in
noncomputable def far(ts:Ts)(a b:Nat):Nat:=if h:∃d,pJ ts a b d then h.choose else 0
theorem At(h:pJ ts a b d):far ts a b=d:=by
 unfold far;have hx:∃d,pJ ts a b d:=⟨d,h⟩
 rw[dif_pos hx];exact hx.choose_spec.uniq h
structure iN(n:Nat)(ts:Ts):Prop where
 n1:2<=n
 n2:n<=32
 nd:ts.Nodup
 rg:∀t∈ts,(0<=t.1/\t.1<n)/\(0<=t.2/\t.2<n)
 ne:∀t∈ts,t.1≠t.2
 VZ:∀h:Int,(ts.filter fun t=>decide (t.1=h)).length=(ts.filter fun t=>decide (t.2=h)).length
 most:∀h:Int,(ts.filter fun t=>decide (t.1=h)).length<=8
 con:∀a b,a<n->b<n->∃k,d9 ts k a b
theorem yo(f:α->Int):∀ (l:List α) (n:Nat),(∀x∈l,0<=f x/\f x<n)->(∀h:Int,(l.filter fun t=>decide (f t=h)).length<=8)->l.length<=8*n:=by
 intro l n;induction n generalizing l with
 |zero=>
  intro h _;cases l with
  |nil=>simp
  |cons x xs=>have:=h x bX;lia
 |succ n ih=>
  intro h h8;have e:l.length=(l.filter fun t=>decide (f t=(n:Int))).length+(l.filter fun t=>!decide (f t=(n:Int))).length:=by
   induction l with
   |nil=>rfl
   |cons x xs V0=>
    have:=V0 (fun y hy=>h y (bA _ hy)) (fun hh=>bn (by rw[jd];split <;> simp) (h8 hh));by_cases q:f x=(n:Int) <;> simp[jd,q] <;> lia
  have i2:=ih (l.filter fun t=>!decide (f t=(n:Int))) (fun x hx=>by
   have a:=h x (fR.mp hx |>.1);have b:=(fR.mp hx).2;simp at b;lia) (fun hh=>by
   refine bn ?_ (h8 hh);exact(uq.filter _).length_le)
  have:=h8 (n:Int);lia
theorem iN.len(F:iN n ts):ts.length<=256:=by
 have:=yo (·.1) ts n (fun t ht=>(F.rg t ht).1) F.most;have:=F.n2;lia
theorem iN.Tr(F:iN n ts)(h:T ts a b):a<n/\b<n/\a≠b:=by
 have q:=F.rg _ h;have q2:=F.ne _ h;refine⟨by have:=q.1;simp at this;lia,by have:=q.2;simp at this;lia,fun e=>q2 (by rw[e])⟩
def ci(n:Nat)(ts:Ts)(h:Nat):List Nat:=((List.range n).map fun s=>(h+s) % n).filter fun o=>decide (T ts h o)
theorem de(F:iN n ts)(hh:h<n):o∈ci n ts h↔T ts h o:=by
 unfold ci;rw[fR,j9];refine⟨fun z=>z.2,fun z=>⟨?_,z⟩⟩;obtain⟨_,h2,_⟩:=F.Tr z;refine bg.mpr ⟨if h<=o then o-h else o+n-h,eE.mpr (by split <;> lia),?_⟩;split
 .rw[show h+(o-h)=o by lia,jc h2]
 .rw[show h+(o+n-h)=o+n by lia,Nat.add_mod_right,jc h2]
theorem Da(F:iN n ts)(hh:h<n)(ho:o∈ci n ts h):o<n:=(F.Tr ((de F hh).mp ho)).2.1
def key(n h o:Nat):Int:=((o:Int)-(h:Int)) % (n:Int)
theorem Au(hh:h<n)(hs:s<n):key n h ((h+s) % n)=(s:Int):=by
 unfold key;by_cases c:h+s<n
 .rw[jc c,show (((h+s:Nat):Int)-(h:Int))=(s:Int) by lia];exact Int.emod_eq_of_lt (by lia) (by lia)
 .have e:(h+s) % n=h+s-n:=by
   rw[Nat.mod_eq_sub_mod (by lia),jc (by lia)]
  rw[e,show ((((h+s-n:Nat)):Int)-(h:Int))=(s:Int)-(n:Int) by lia,Int.sub_emod_right];exact Int.emod_eq_of_lt (by lia) (by lia)
theorem lf(hh:h<n):(ci n ts h).Pairwise fun a b=>key n h a<key n h b:=by
 unfold ci;refine List.Pairwise.filter _ ?_;refine jF.mpr ?_;refine List.Pairwise.imp_of_mem ?_ (List.pairwise_lt_range (n:=n));intro a b ha hb Kx;rw[Au hh (eE.mp ha),Au hh (eE.mp hb)];lia
theorem lg{α:Type}{k:α->Int}:∀ {a b:List α},a.Pairwise (fun x y=>k x<k y)->b.Pairwise (fun x y=>k x<k y)->(∀x,x∈a↔x∈b)->a=b
 |[],[],_,_,_=>rfl
 |[],y::ys,_,_,h=>absurd ((h y).mpr bX) (by simp)
 |x::xs,[],_,_,h=>absurd ((h x).mp bX) (by simp)
 |x::xs,y::ys,ha,hb,h=>by
  obtain⟨a1,a2⟩:=List.pairwise_cons.mp ha;obtain⟨b1,b2⟩:=List.pairwise_cons.mp hb;have e:x=y:=by
   rcases aY.mp ((h x).mp bX) with z|z
   .exact z
   .rcases aY.mp ((h y).mpr bX) with z'|z'
    .exact z'.symm
    .have q1:=b1 x z;have q2:=a1 y z';lia
  subst e;refine congrArg (x::·) (lg a2 b2 fun z=>⟨fun hz=>?_,fun hz=>?_⟩)
  .rcases aY.mp ((h z).mp (bA _ hz)) with q|q
   .subst q;exact absurd (a1 _ hz) (by lia)
   .exact q
  .rcases aY.mp ((h z).mpr (bA _ hz)) with q|q
   .subst q;exact absurd (b1 _ hz) (by lia)
   .exact q
structure yp(n:Nat)(ts:Ts)(s i:Nat)(R:List Nat)(f:Nat->Nat):Prop where
 nd:R.Nodup
 lt:∀x∈R,x<n
 st:s∈R
 z:f s=0
 wk:∀x∈R,d9 ts (f x) s x
 up:R.Pairwise fun a b=>f a<=f b
 bd:∀u,R[i]?=some u->∀x∈R,f x<=f u+1
 cl:∀j u,j<i->R[j]?=some u->∀v,T ts u v->v∈R/\f v<=f u+1
theorem yp.start(hs:s<n):yp n ts s 0 [s] (fun _=>0):=
 ⟨by simp,fun x hx=>by simp at hx;lia,by simp,rfl,fun x hx=>by simp at hx;subst hx;rfl,by simp,fun u _ x _=>by lia,fun j u h=>absurd h (by lia)⟩
def put(f:Nat->Nat)(v k:Nat):Nat->Nat:=fun y=>if y=v then k else f y
theorem io:put f v k v=k:=by simp[put]
theorem eA(h:x≠v):put f v k x=f x:=by simp[put,h]
theorem yp.add(B:yp n ts s i R f)(hu:R[i]?=some u)(hv:v<n)(t:T ts u v)(hn:v∉R):yp n ts s i (R++[v]) (put f v (f u+1)):=by
 have Tt:u∈R:=cQ hu;have nv:∀x∈R,x≠v:=fun x hx e=>hn (e ▸ hx);have hi:i<R.length:=(cj.mp hu).1;refine⟨?_,fun x hx=>?_,kU _ B.st,by rw[eA (nv s B.st)];exact B.z,fun x hx=>?_,?_,fun w hw x hx=>?_,fun j w hj hw x hx=>?_⟩
 .rw[qb];exact⟨B.nd,by simp,fun a ha b hb e=>by simp at hb;subst hb;exact hn (e ▸ ha)⟩
 .rcases cY.mp hx with z|z
  .exact B.lt x z
  .simp at z;lia
 .rcases cY.mp hx with z|z
  .rw[eA (nv x z)];exact B.wk x z
  .simp at z;subst z;rw[io];exact⟨u,B.wk u Tt,t⟩
 .rw[List.pairwise_append];refine⟨B.up.imp_of_mem fun {a b} ha hb h=>by rw[eA (nv a ha),eA (nv b hb)];exact h,by simp,fun a ha b hb=>?_⟩;simp at hb;subst hb;rw[eA (nv a ha),io];exact B.bd u hu a ha
 .have vC:w=u:=by
   rw[l7 hi,hu] at hw;exact(bG hw).symm
  subst vC;rw[eA (nv w Tt)];rcases cY.mp hx with z|z
  .rw[eA (nv x z)];exact B.bd w hu x z
  .simp at z;subst z;rw[io];exact aI _
 .rw[l7 (by lia)] at hw;obtain⟨a,b⟩:=B.cl j w hj hw x hx;refine⟨kU _ a,?_⟩;rw[eA (nv x a),eA (nv w (cQ hw))];exact b
theorem yp.next(B:yp n ts s i R f)(hu:R[i]?=some u)(h:∀v,T ts u v->v∈R/\f v<=f u+1):yp n ts s (i+1) R f:=by
 refine⟨B.nd,B.lt,B.st,B.z,B.wk,B.up,fun w hw x hx=>?_,fun j w hj hw v hv=>?_⟩
 .have h1:=B.bd u hu x hx;have h2:f u<=f w:=by
   have hi:i<R.length:=(cj.mp hu).1;have EW:i+1<R.length:=(cj.mp hw).1;have:=List.pairwise_iff_getElem.mp B.up i (i+1) hi EW (by lia);rw[cu hi] at hu;rw[cu EW] at hw;rw[bG hu,bG hw] at this;exact this
  lia
 .by_cases e:j=i
  .subst e;rw[hu] at hw;cases hw;exact h v hv
  .exact B.cl j w (by lia) hw v hv
theorem gx:∀ {n:Nat} {R:List Nat},R.Nodup->(∀x∈R,x<n)->R.length<=n:=by
 intro n R hn hl;have key:∀ (a b:List Nat),a.Nodup->(∀x∈a,x∈b)->a.length<=b.length:=by
  intro a;induction a with
  |nil=>intro b _ _;exact cK _
  |cons x xs ih=>
   intro b hn hs;obtain⟨h1,h2⟩:=fQ.mp hn;have hx:x∈b:=hs x bX;have:=ih (b.erase x) h2 fun y hy=>(List.mem_erase_of_ne (fun (e:y=x)=>h1 (e ▸ hy))).mpr (hs y (bA _ hy));rw[zh hx] at this;have:0<b.length:=List.length_pos_of_mem hx;rw[cR];lia
 have:=key R (List.range n) hn fun x hx=>eE.mpr (hl x hx);rwa [ja] at this
theorem yp.done(B:yp n ts s i R f)(F:iN n ts)(hi:R.length<=i)(hx:x<n):x∈R/\f x=far ts s x:=by
 have cl:∀u∈R,∀v,T ts u v->v∈R/\f v<=f u+1:=fun u hu v hv=>by
  obtain⟨j,hj,e⟩:=pX.mp hu;exact B.cl j u (by lia) (by rw[cu hj,e]) v hv
 have walk:∀k x,d9 ts k s x->x∈R/\f x<=k:=by
  intro k;induction k with
  |zero=>intro x e;cases e;exact⟨B.st,by rw[B.z];exact aI _⟩
  |succ k ih=>
   rintro x ⟨c,w,t⟩;obtain⟨c1,c2⟩:=ih c w;obtain⟨d1,d2⟩:=cl c c1 x t;exact⟨d1,by lia⟩
 obtain⟨k,w⟩:=F.con s x (B.lt s B.st) hx;obtain⟨m,_⟩:=walk k x w;exact⟨m,(At ⟨B.wk x m,fun k w=>(walk k x w).2⟩).symm⟩
theorem nK(hh:h<n):(ci n ts h).Nodup:=(lf hh).imp fun {a b} Kx e=>by subst e;lia
end im
namespace L2
open PySem PySem.Spec PyProof.Rows
section
variable {X:Cx}
end
end L2
namespace im
abbrev wU(u:Int×Int):Int×Int:=(u.2,u.1)
def jB(ps:Ts):Ts:=ps.flatMap fun u=>[u,wU u]
theorem vD:jB (ps++qs)=jB ps++jB qs:=List.flatMap_append
theorem ip:∀ {ps:Ts},(jB ps).Perm (ps++ps.map wU)
 |[]=>List.Perm.refl _
 |u::ps=>by
  have ih:=ip (ps:=ps);show (u::wU u::jB ps).Perm (u::(ps++wU u::ps.map wU));refine List.Perm.cons _ ?_;exact(ih.cons _).trans List.perm_middle.symm
theorem qT:∀ {ps:Ts},(jB ps).length=2*ps.length
 |[]=>rfl
 |u::ps=>by
  have ih:=qT (ps:=ps);show (jB ps).length+2=2*(ps.length+1);lia
theorem Db(h:u∈jB ps):wU u∈jB ps:=by
 obtain⟨v,hv,hu⟩:=uI.mp h;refine uI.mpr ⟨v,hv,?_⟩;rcases aY.mp hu with e|e
 .rw[e];exact bA _ (dH.mpr rfl)
 .rw[dH.mp e];exact bX
theorem eK:u∈jB ps↔u∈ps\/wU u∈ps:=by
 rw[(ip (ps:=ps)).mem_iff,cY];refine or_congr Iff.rfl ⟨fun h=>?_,fun h=>bg.mpr ⟨_,h,rfl⟩⟩;obtain⟨v,hv,rfl⟩:=bg.mp h;exact hv
theorem Dc:((jB ps).map wU).Perm (jB ps):=by
 refine((ip (ps:=ps)).map wU).trans (List.Perm.trans ?_ (ip (ps:=ps)).symm);rw[c_,dY];have e:ps.map (wU ∘ wU)=ps:=(jE fun u _=>rfl).trans (gb ps);rw[e];exact gU
abbrev lT(q:Nat×Nat):Int×Int:=((q.1:Int),(q.2:Int))
def b1(b:Bool):Nat:=cond b 1 0
def ju(h:Nat):List (Nat×Nat)->Nat
 |[]=>0
 |q::qs=>b1 (Nat.beq q.1 h)+(b1 (Nat.beq q.2 h)+ju h qs)
theorem wV{h:Nat}:∀ {qs:List (Nat×Nat)},((jB (qs.map lT)).filter fun t=>decide (t.1=(h:Int))).length=ju h qs
 |[]=>rfl
 |q::qs=>by
  have ih:=wV (h:=h) (qs:=qs);have e:∀a:Nat,(if decide ((a:Int)=(h:Int))=true then 1 else 0)=b1 (Nat.beq a h):=fun a=>by
   by_cases c:a=h
   .subst c;rw[ap (by simp),Nat.beq_refl];rfl
   .rw[am (by simp;lia),show Nat.beq a h=false from qd.mpr fun z=>c (Nat.eq_of_beq_eq_true z)];rfl
  show ((lT q::wU (lT q)::jB (qs.map lT)).filter _).length=b1 (Nat.beq q.1 h)+(b1 (Nat.beq q.2 h)+ju h qs);rw[<-ih,<-e q.1,<-e q.2,jd,jd];split <;> split <;> simp <;> lia
def pr:List Nat->Nat
 |[]=>1
 |n::ns=>n*pr ns
def oO(m st n:Nat):List (Nat×Nat):=((List.range m).filter fun h=>decide (h / st % n+1<n)).map fun h=>(h,h+st)
def bx(m:Nat):Nat->List Nat->List (Nat×Nat)
 |_,[]=>[]
 |st,n::ns=>oO m st n++bx m (st*n) ns
def gy(ns:List Nat):List (Nat×Nat):=bx (pr ns) 1 ns
def Dd:Nat->List Nat->Nat->Nat->Prop
 |_,[],_,_=>False
 |st,n::ns,a,b=>(a / st % n+1<n/\b=a+st)\/Dd (st*n) ns a b
theorem wW:q∈oO m st n↔q.1<m/\q.1 / st % n+1<n/\q.2=q.1+st:=by
 unfold oO;rw[bg];constructor
 .rintro⟨h,hh,rfl⟩;obtain⟨h1,h2⟩:=fR.mp hh;exact⟨eE.mp h1,i_ h2,rfl⟩
 .rintro⟨h1,h2,h3⟩;exact⟨q.1,fR.mpr ⟨eE.mpr h1,cf h2⟩,kq rfl h3.symm⟩
theorem nL:∀ {ns:List Nat} {st:Nat},q∈bx m st ns↔q.1<m/\Dd st ns q.1 q.2
 |[],st=>⟨fun h=>(nomatch h),fun h=>h.2.elim⟩
 |n::ns,st=>by
  unfold bx Dd;rw[cY,wW,nL (ns:=ns)];constructor
  .rintro(⟨a,b,c⟩|⟨a,b⟩)
   .exact⟨a,.inl ⟨b,c⟩⟩
   .exact⟨a,.inr b⟩
  .rintro⟨a,⟨b,c⟩|b⟩
   .exact .inl ⟨a,b,c⟩
   .exact .inr ⟨a,b⟩
abbrev U(ns:List Nat):Nat->Nat->Prop:=Dd 1 ns
theorem qU:∀ {ns:List Nat} {st a b:Nat},0<st->(∀n∈ns,0<n)->(Dd st ns a b↔a % st=b % st/\U ns (a / st) (b / st))
 |[],st,a,b,h,_=>⟨fun z=>z.elim,fun z=>z.2.elim⟩
 |n::ns,st,a,b,h,hn=>by
  have Cb:=hn n bX;have vw:∀n∈ns,0<n:=fun x hx=>hn x (bA _ hx);show (_\/Dd (st*n) ns a b)↔a % st=b % st/\(_\/Dd (1*n) ns (a / st) (b / st))
  rw[qx,qU (kj h Cb) vw,qU Cb vw,mQ,oY a st n,oY b st n,Nat.mod_mul,Nat.mod_mul];have e1:=jI a st;have e2:=jI b st;constructor
  .rintro(⟨c,rfl⟩|⟨c,d⟩)
   .refine⟨by rw[Nat.add_mod_right],.inl ⟨c,by rw[Nat.add_div_right _ h]⟩⟩
   .have m1:a % st=b % st:=by
     have:=congrArg (· % st) c;simp only[zg,Nat.mod_mod] at this;exact this
    refine⟨m1,.inr ⟨?_,d⟩⟩;rw[m1] at c;exact Nat.eq_of_mul_eq_mul_left h (Nat.add_left_cancel c)
  .rintro⟨m1,⟨c,d⟩|⟨c,d⟩⟩
   .refine .inl ⟨c,?_⟩;rw[<-e2,d,<-m1,mL,kl,Nat.add_right_comm,e1]
   .exact .inr ⟨by rw[m1,c],d⟩
theorem qV(h:∀x∈n::ns,0<x):U (n::ns) a b↔(a % n+1<n/\b=a+1)\/(a % n=b % n/\U ns (a / n) (b / n)):=by
 show (_\/Dd (1*n) ns a b)↔_;rw[qx,qU (h n bX) fun x hx=>h x (bA _ hx),mQ]
theorem dq(h:a % n+1<n):(a+1) / n=a / n/\(a+1) % n=a % n+1:=by
 have e:=jI a n;have e2:a+1=n*(a / n)+(a % n+1):=by lia
 have hn:0<n:=by lia
 rw[e2,Nat.mul_add_div hn,Nat.mul_add_mod,uG h,jc h];exact⟨rfl,rfl⟩
theorem Ky:∀ {ns:List Nat} {a b:Nat},(∀x∈ns,0<x)->U ns a b->a<pr ns->a<b/\b<pr ns
 |[],a,b,_,h,_=>h.elim
 |n::ns,a,b,hn,h,ha=>by
  have Cb:=hn n bX;have vw:∀n∈ns,0<n:=fun x hx=>hn x (bA _ hx);have JV:a<n*pr ns:=ha;have hq:a / n<pr ns:=kT JV;show a<b/\b<n*pr ns;rcases(qV hn).mp h with ⟨c,rfl⟩|⟨c,d⟩
  .refine⟨by lia,?_⟩;have e:=jI a n;have:=gW n hq;rw[Nat.succ_eq_add_one,mL,kl] at this;lia
  .obtain⟨i1,i2⟩:=Ky vw d hq;refine⟨?_,?_⟩
   .have e1:=jI a n;have e2:=jI b n;have:=ze i1 Cb;lia
   .have e2:=jI b n;have hm:=eH b Cb;have:=gW n i2;rw[Nat.succ_eq_add_one,mL,kl] at this;lia
def j3(a b:Nat):Nat:=(a-b)+(b-a)
theorem Av:∀ {ns:List Nat} {v:Nat},(∀x∈ns,0<x)->0<v->v<pr ns->∃u,u<v/\U ns u v
 |[],v,_,h1,h2=>by have h2:v<1:=h2;lia
 |n::ns,v,hn,h1,h2=>by
  have Cb:=hn n bX;have vw:∀n∈ns,0<n:=fun x hx=>hn x (bA _ hx);have lv:=eH v Cb;have ev:=jI v n;by_cases c:v % n=0
  .have hq:0<v / n:=by
    rcases ux (v / n) with z|z
    .rw[z,c] at ev;simp at ev;lia
    .exact z
   obtain⟨u,hu,uu⟩:=Av (v:=v / n) vw hq (kT h2);refine⟨n*u,?_,(qV hn).mpr (.inr ⟨by rw[Nat.mul_mod_right,c],by rw[Nat.mul_div_cancel_left _ Cb];exact uu⟩)⟩;have:=ze hu Cb;lia
  .have hv:v-1=n*(v / n)+(v % n-1):=by lia
   have hm:(v-1) % n=v % n-1:=by rw[hv,Nat.mul_add_mod,jc (by lia)]
   exact⟨v-1,by lia,(qV hn).mpr (.inl ⟨by lia,by lia⟩)⟩
theorem wX:∀ {ns:List Nat} {st a b:Nat},(∀x∈ns,0<x)->Dd st ns a b->a+st<=b
 |[],st,a,b,_,h=>h.elim
 |n::ns,st,a,b,hn,h=>by
  rcases h with ⟨_,rfl⟩|h
  .exact aI _
  .have:=wX (fun x hx=>hn x (bA _ hx)) h;have h1:=Nat.le_mul_of_pos_right st (hn n bX);lia
theorem yq:(oO m st n).Nodup:=by
 unfold oO;refine oX.mpr (jF.mpr ?_);exact(oX.mp (uH.sublist uq)).imp fun {a b} h e=>h (congrArg Prod.fst e)
theorem sQ:∀ {ns:List Nat} {st:Nat},0<st->(∀x∈ns,2<=x)->(bx m st ns).Nodup
 |[],_,_,_=>mB
 |n::ns,st,h,hn=>by
  have EI:=hn n bX;have vw:∀x∈ns,2<=x:=fun x hx=>hn x (bA _ hx);refine qb.mpr ⟨yq,sQ (kj h (by lia)) vw,fun x hx y hy e=>?_⟩;subst e;have h1:=(wW.mp hx).2.2;have h2:=wX (fun x hx=>by have:=vw x hx;lia) (nL.mp hy).2;have h3:=gW st EI;lia
theorem yr(nd:ps.Nodup)(h:∀u∈ps,u.1<u.2):(jB ps).Nodup:=by
 refine(ip (ps:=ps)).nodup_iff.mpr (qb.mpr ⟨nd,?_,fun x hx y hy e=>?_⟩)
 .refine oX.mpr (jF.mpr ((oX.mp nd).imp fun {a b} Kx e=>Kx ?_));exact kq (congrArg Prod.snd e) (congrArg Prod.fst e)
 .subst e;obtain⟨u,hu,rfl⟩:=bg.mp hy;have h1:=h _ hx;have h2:=h u hu;have h1:u.2<u.1:=h1;lia
theorem yt{qs:List (Nat×Nat)}(h:qs.Nodup):(qs.map lT).Nodup:=by
 refine oX.mpr (jF.mpr ((oX.mp h).imp fun {a b} Kx e=>Kx ?_));exact kq (ff (congrArg Prod.fst e)) (ff (congrArg Prod.snd e))
theorem lh:∀ {a b:List (Nat×Nat)},ju h (a++b)=ju h a+ju h b
 |[],b=>by show ju h b=0+_;lia
 |q::a,b=>by
  have:=lh (h:=h) (a:=a) (b:=b);show b1 _+(b1 _+ju h (a++b))=b1 _+(b1 _+ju h a)+ju h b;lia
theorem E3:b1 (Nat.beq a b)=if a=b then 1 else 0:=by
 by_cases c:a=b
 .subst c;rw[ap rfl,Nat.beq_refl];rfl
 .rw[am c,show Nat.beq a b=false from qd.mpr fun z=>c (Nat.eq_of_beq_eq_true z)];rfl
theorem wY:∀ {L:List Nat},L.Nodup->ju h (L.map fun x=>(x,x+st))<=(if h∈L then 1 else 0)+(if st<=h/\h-st∈L then 1 else 0)
 |[],_=>cK _
 |x::L,nd=>by
  obtain⟨n1,n2⟩:=fQ.mp nd;have ih:=wY (h:=h) (st:=st) n2;show b1 (Nat.beq x h)+(b1 (Nat.beq (x+st) h)+ju h (L.map fun x=>(x,x+st)))<=_;rw[E3,E3];have e1:(if h∈x::L then 1 else 0)=(if x=h then 1 else 0)+(if h∈L then 1 else 0):=by
   by_cases c:x=h
   .subst c;rw[ap bX,ap rfl,am n1]
   .rw[am c];by_cases d:h∈L
    .rw[ap (bA _ d),ap d]
    .rw[am d,am (fun z=>(aY.mp z).elim (fun z=>c z.symm) d)]
  have e2:(if st<=h/\h-st∈x::L then 1 else 0)=(if x+st=h then 1 else 0)+(if st<=h/\h-st∈L then 1 else 0):=by
   by_cases c:x+st=h
   .have e:h-st=x:=by lia
    rw[ap c,e,ap ⟨by lia,bX⟩,am (fun z=>n1 z.2)]
   .rw[am c];by_cases d:st<=h/\h-st∈L
    .rw[ap d,ap ⟨d.1,bA _ d.2⟩]
    .rw[am d,am];rintro⟨z1,z2⟩;rcases aY.mp z2 with z|z
     .lia
     .exact d ⟨z1,z⟩
  rw[e1,e2];lia
def wt:List Nat->Nat
 |[]=>0
 |n::ns=>(if n=2 then 1 else 2)+wt ns
theorem De(hs:0<st):ju h (oO m st n)<=if n=2 then 1 else 2:=by
 have c:=wY (h:=h) (st:=st) (L:=(List.range m).filter fun h=>decide (h / st % n+1<n)) (uH.sublist uq);refine bn c ?_;by_cases e:n=2
 .rw[ap e];by_cases c1:h∈(List.range m).filter fun h=>decide (h / st % n+1<n)
  .rw[ap c1,am]
   .lia
   .rintro⟨z1,z2⟩;have d1:h / st % n+1<n:=i_ (fR.mp c1).2;have d2:(h-st) / st % n+1<n:=i_ (fR.mp z2).2;have d3:h / st=(h-st) / st+1:=by
     have:=Nat.add_div_right (h-st) hs;rw[show h-st+st=h by lia] at this;exact this
    obtain⟨_,d4⟩:=dq d2;rw[<-d3] at d4;lia
  .rw[am c1];split <;> lia
 .rw[am e];split <;> split <;> lia
theorem Aw:∀ {ns:List Nat} {st:Nat},0<st->(∀x∈ns,0<x)->ju h (bx m st ns)<=wt ns
 |[],_,_,_=>aI _
 |n::ns,st,hs,hn=>by
  show ju h (oO m st n++bx m (st*n) ns)<=_+wt ns;rw[lh];have h1:=De (m:=m) (n:=n) (h:=h) hs;have h2:=Aw (m:=m) (h:=h) (ns:=ns) (st:=st*n) (kj hs (hn n bX)) fun x hx=>hn x (bA _ hx);lia
theorem Ax:∀ {ns:List Nat},(∀x∈ns,2<=x)->3 ^ wt ns<=pr ns*pr ns
 |[],_=>aI _
 |n::ns,hn=>by
  have ih:=Ax (ns:=ns) fun x hx=>hn x (bA _ hx);have h2:=hn n bX;show 3 ^ ((if n=2 then 1 else 2)+wt ns)<=n*pr ns*(n*pr ns);rw[Nat.pow_add,Nat.mul_mul_mul_comm];refine uQ ?_ ih;by_cases c:n=2
  .rw[ap c,c];decide
  .rw[am c];have:3<=n:=by lia
   exact uQ this this
theorem Kz(hn:∀x∈ns,2<=x)(hp:pr ns<=32):wt ns<=8:=by
 refine pT fun z=>?_;have h1:3 ^ 9<=3 ^ wt ns:=Nat.pow_le_pow_right (by decide) (by lia);have h2:=Ax hn;have h3:pr ns*pr ns<=32*32:=uQ hp hp;have h4:(3:Nat) ^ 9=19683:=by decide
 lia
theorem Ay{ns:List Nat}(hn:∀x∈ns,2<=x)(h0:ns≠[])(hp:pr ns<=32):iN (pr ns) (jB ((gy ns).map lT)):=by
 have Gi:∀x∈ns,0<x:=fun x hx=>by have:=hn x hx;lia
 have q:∀q∈gy ns,q.1<q.2/\q.2<pr ns:=fun q hq=>by
  obtain⟨a,b⟩:=nL.mp hq;exact Ky Gi b a
 have n1:2<=pr ns:=by
  cases ns with
  |nil=>exact absurd rfl h0
  |cons n ns=>
   have h2:=hn n bX;have:∀ {l:List Nat},(∀x∈l,2<=x)->1<=pr l:=fun {l}=>by
    induction l with
    |nil=>intro _;exact aI _
    |cons x l ih=>intro hl;exact kj (by have:=hl x bX;lia) (ih fun y hy=>hl y (bA _ hy))
   have h3:=this (l:=ns) fun x hx=>hn x (bA _ hx);show 2<=n*pr ns;exact bn h2 (Nat.le_mul_of_pos_right n h3)
 have mem:∀t∈jB ((gy ns).map lT),∃q∈gy ns,t=lT q\/t=wU (lT q):=fun t ht=>by
  rcases eK.mp ht with z|z
  .obtain⟨q,hq,e⟩:=bg.mp z;exact⟨q,hq,.inl e.symm⟩
  .obtain⟨q,hq,e⟩:=bg.mp z;exact⟨q,hq,.inr (by rw[e])⟩
 have rg:∀t∈jB ((gy ns).map lT),((0<=t.1/\t.1<pr ns)/\(0<=t.2/\t.2<pr ns))/\t.1≠t.2:=fun t ht=>by
  obtain⟨p,hq,e⟩:=mem t ht;obtain⟨a,b⟩:=q p hq;rcases e with rfl|rfl
  .exact⟨⟨⟨by show (0:Int)<=(p.1:Int);lia,by show (p.1:Int)<(pr ns:Int);lia⟩,by show (0:Int)<=(p.2:Int);lia,by show (p.2:Int)<(pr ns:Int);lia⟩,by show ((p.1:Nat):Int)≠(p.2:Nat);lia⟩
  .exact⟨⟨⟨by show (0:Int)<=(p.2:Int);lia,by show (p.2:Int)<(pr ns:Int);lia⟩,by show (0:Int)<=(p.1:Int);lia,by show (p.1:Int)<(pr ns:Int);lia⟩,by show ((p.2:Nat):Int)≠(p.1:Nat);lia⟩
 have nd:(jB ((gy ns).map lT)).Nodup:=yr (yt (sQ (by decide) hn)) fun u hu=>by
  obtain⟨p,hq,rfl⟩:=bg.mp hu;have:=(q p hq).1;show (p.1:Int)<(p.2:Int);lia
 refine⟨n1,hp,nd,fun t ht=>(rg t ht).1,fun t ht=>(rg t ht).2,fun h=>?_,fun h=>?_,fun a b ha hb=>?_⟩
 .rw[<-(Dc (ps:=(gy ns).map lT)).filter (fun t=>decide (t.1=h)) |>.length_eq,List.filter_map,a_];rfl
 .by_cases c:0<=h/\h<pr ns
  .have:=Aw (m:=pr ns) (h:=h.toNat) (ns:=ns) (st:=1) (by decide) Gi;have e:=wV (h:=h.toNat) (qs:=gy ns);rw[Int.toNat_of_nonneg c.1] at e;rw[e];exact bn this (Kz hn hp)
  .have e:(jB ((gy ns).map lT)).filter (fun t=>decide (t.1=h))=[]:=List.filter_eq_nil_iff.mpr fun t ht e=>c ((show t.1=h from i_ e) ▸ (rg t ht).1.1);rw[e];exact cK _
 .have CL:∀v,v<pr ns->(∃k,d9 (jB ((gy ns).map lT)) k 0 v)/\∃k,d9 (jB ((gy ns).map lT)) k v 0:=by
   intro v;induction v using Nat.strongRecOn with
   |ind v ih=>
    intro hv;rcases ux v with e|e
    .subst e;exact⟨⟨0,rfl⟩,0,rfl⟩
    .obtain⟨u,hu,uu⟩:=Av Gi e hv;obtain⟨⟨k,w⟩,l,w'⟩:=ih u hu (by lia);have t:T (jB ((gy ns).map lT)) u v:=eK.mpr (.inl (bg.mpr ⟨(u,v),nL.mpr ⟨by show u<pr ns;lia,uu⟩,rfl⟩));have t':T (jB ((gy ns).map lT)) v u:=Db t;exact⟨⟨k+1,u,w,t⟩,l+1,d9.cons t' w'⟩
  obtain⟨_,k,w⟩:=CL a ha;obtain⟨⟨l,w'⟩,_⟩:=CL b hb;exact⟨_,w.trans w'⟩
end im
namespace nM
open PySem L2
def e8(i:Nat):Stmt:=PySem.Challenge.pw_neverwait_k91_mirrored_houses.main.body.getD i (.Pass ⟨0,0,0,0⟩)
abbrev vE:Stmt:=e8 11
abbrev qW:Stmt:=e8 12
abbrev vF:Stmt:=e8 13
abbrev Gj:Stmt:=e8 15
structure Bl(mg:Str->Option Value):Prop where
 E4:mg "isinstance"=none
 int:mg "int"=none
 bool:mg "bool"=none
 tup:mg "tuple"=none
 lst:mg "list"=none
 str:mg "str"=none
 set:mg "set"=none
 len:mg "len"=none
 range:mg "range"=none
 sorted:mg "sorted"=none
 any:mg "any"=none
 max:mg "max"=none
 min:mg "min"=none
 V1:mg "ValueError"=none
 all:mg "all"=none
def Az(K:PySem.W.Frag)(H:Hp)(x:V):Prop:=∃t,IL K H x t/\(PySem.W.kitOne K t (.type "int")=some false\/(PySem.W.kitOne K t (.type "int")=some true/\PySem.W.kitOne K t (.type "bool")=some true))
theorem lj:PySem.W.kitOne K (.type "int") (.type "int")=some true:=by kernel_rfl
theorem qX:PySem.W.kitOne K (.type "int") (.type "bool")=some false:=by kernel_rfl
inductive Wh (K:PySem.W.Frag) (H:Hp):V->Option Int->Prop where
 |int (i:Int):Wh K H (.int i) (some i)
 |no {x:V} (h:Az K H x):Wh K H x none
def qY(K:PySem.W.Frag):Sp:=fun vs H Q _=>∃x o,vs=[x]/\Wh K H x o/\Q (.bl o.isSome) H
section
variable {P:Program} {w:World} {K:PySem.W.Frag} {mg:Str->Option Value} {base:Heap}
theorem Df:az ["thing"] ["thing"] (ak vE):=⟨rfl,rfl,rfl,by decide +kernel,rfl,by decide +kernel,by decide +kernel⟩
theorem AA(F:dU K "is_whole" "is_whole" vE f fd)(B:Bl mg):a9 P w K mg base aX 1 f fd ["thing"] (qY K):=by
 refine F.ok Df (fun vs H Q E h=>?_) (fun cI A outer s H vs Q E hr h=>?_)
 .obtain⟨x,o,rfl,_⟩:=h;rfl
 .obtain⟨x,o,rfl,W,k⟩:=h;refine⟨_,aj (aJ (jm (aF d7 (by rfl) B.E4 kR (aa (pv 0) (aa (fk (v:=.ty "int") rfl B.int PyProof.Rows.boot_int rfl) af)))
   (ky (FJ (aF d7 (by rfl) B.E4 kR (aa (pv 0) (aa (fk (v:=.ty "bool") rfl B.bool PyProof.Rows.boot_bool rfl) af))))))),?_⟩
  cases W with
  |int i=>
   refine⟨_,rfl,_,_,_,.type "int",true,rfl,⟨rfl,lj⟩,.of (.int _),true,rfl,?_⟩;exact⟨_,rfl,_,_,_,.type "int",false,rfl,⟨rfl,qX⟩,.of (.int _),false,rfl,k⟩
  |no h=>
   obtain⟨t,ty,h|⟨h1,h2⟩⟩:=h
   .exact⟨_,rfl,_,_,_,t,false,rfl,⟨rfl,h⟩,ty,false,rfl,k⟩
   .refine⟨_,rfl,_,_,_,t,true,rfl,⟨rfl,h1⟩,ty,true,rfl,?_⟩;exact⟨_,rfl,_,_,_,t,true,rfl,⟨rfl,h2⟩,ty,true,rfl,k⟩
def aO(o:Option Int)(lo hi:Int):Bool:=match o with
 |some i=>decide (lo<=i)&&decide (i<=hi)
 |none=>false
def iq(K:PySem.W.Frag):Sp:=fun vs H Q _=>∃x o lo hi,vs=[x,.int lo,.int hi]/\Wh K H x o/\Q (.bl (aO o lo hi)) H
theorem AB:az ["thing","least","most"] ["thing","least","most"] (ak qW):=⟨rfl,rfl,rfl,by decide +kernel,rfl,by decide +kernel,by decide +kernel⟩
theorem yu(F:dU K "is_whole_within" "is_whole_within" qW f fd)(W:cg P w K mg base aX 1 "is_whole" ["thing"] (qY K)):a9 P w K mg base aX 2 f fd ["thing","least","most"] (iq K):=by
 refine F.ok AB (fun vs H Q E h=>?_) (fun cI A outer s H vs Q E hr h=>?_)
 .obtain⟨x,o,lo,hi,rfl,_⟩:=h;rfl
 .obtain⟨x,o,lo,hi,rfl,wh,k⟩:=h;refine⟨_,aj (aJ (jm (aw W hr aG (aa (pv 0) af)) (ky (zF EH EH (pv 1) (pv 0) (pv 2))))),?_⟩;refine⟨_,rfl,x,o,rfl,wh,?_⟩;cases wh with
  |no h=>exact⟨false,rfl,k⟩
  |int i=>
   refine⟨true,rfl,_,rfl,_,rfl,_,_,rfl,rfl,_,rfl,?_⟩;show if decide (lo<=i)=true then _ else _
   have k':Q (.bl (decide (lo<=i)&&decide (i<=hi))) H:=k;by_cases h:lo<=i
   .rw[cf h] at k' |-;exact⟨_,rfl,_,_,rfl,rfl,k'⟩
   .rw[eN h] at k' |-;exact k'
def iG(K:PySem.W.Frag):Sp:=fun vs H Q _=>∃x o n,vs=[.int n,x]/\Wh K H x o/\Q (.bl (aO o 0 (n-1))) H
theorem Dg:az ["many","thing"] ["many","thing"] (ak vF):=⟨rfl,rfl,rfl,by decide +kernel,rfl,by decide +kernel,by decide +kernel⟩
theorem AC(F:dU K "is_house" "is_house" vF f fd)(W:cg P w K mg base aX 2 "is_whole_within" ["thing","least","most"] (iq K)):a9 P w K mg base aX 3 f fd ["many","thing"] (iG K):=by
 refine F.ok Dg (fun vs H Q E h=>?_) (fun cI A outer s H vs Q E hr h=>?_)
 .obtain⟨x,o,n,rfl,_⟩:=h;rfl
 .obtain⟨x,o,n,rfl,wh,k⟩:=h;refine⟨_,aj (aJ (aw W hr aG (aa (pv 1) (aa av (aa (bb gk (pv 0) av) af))))),?_⟩;exact⟨_,rfl,_,rfl,_,_,rfl,rfl,x,o,0,n-1,rfl,wh,k⟩
inductive Rw (K:PySem.W.Frag) (H:Hp):V->Option (List V)->Prop where
 |tup {p:Addr} {xs:List V} (h:H p=some (.tup xs)):Rw K H (.ref p) (some xs)
 |no {x:V} {t:Value} (ty:IL K H x t) (h:PySem.W.kitOne K t (.type "tuple")=some false):Rw K H x none
def KA(o:Option (List V))(m:Int):Bool:=match o with
 |some xs=>decide ((xs.length:Int)=m)
 |none=>false
theorem qZ:PySem.W.kitOne K (.type "tuple") (.type "tuple")=some true:=by kernel_rfl
def sS(K:PySem.W.Frag):Sp:=fun vs H Q _=>∃x o m,vs=[x,.int m]/\Rw K H x o/\Q (.bl (KA o m)) H
theorem KB:az ["thing","length"] ["thing","length"] (ak Gj):=⟨rfl,rfl,rfl,by decide +kernel,rfl,by decide +kernel,by decide +kernel⟩
theorem Gk(F:dU K "is_row" "is_row" Gj f fd)(B:Bl mg):a9 P w K mg base aX 1 f fd ["thing","length"] (sS K):=by
 refine F.ok KB (fun vs H Q E h=>?_) (fun cI A outer s H vs Q E hr h=>?_)
 .obtain⟨x,o,m,rfl,_⟩:=h;rfl
 .obtain⟨x,o,m,rfl,W,k⟩:=h;refine⟨_,aj (aJ (jm (aF d7 (by rfl) B.E4 kR (aa (pv 0) (aa (fk (v:=.ty "tuple") rfl B.tup gT rfl) af)))
   (ky (gm o8 (aF aW (by rfl) B.len fc (aa (pv 0) af)) (pv 1) (be _))))),?_⟩
  cases W with
  |@tup p xs h=>
   refine⟨_,rfl,_,_,_,.type "tuple",true,rfl,⟨rfl,qZ⟩,.of (.tup h),true,rfl,?_⟩;refine⟨_,rfl,_,_,rfl,.inr (bL.of h),_,rfl,rfl,?_⟩;have e:decide (V.int ((xs.length:Nat):Int)=V.int m)=decide (((xs.length:Nat):Int)=m):=by simp
   rw[e];exact k
  |no ty h=>exact⟨_,rfl,_,_,_,_,false,rfl,⟨rfl,h⟩,ty,false,rfl,k⟩
end
theorem bT(s:aM H H')(hD:H D=none):aM H (upd H' D o):=fun b u e=>by rw[ao (aq e hD)];exact s b u e
abbrev IV(ns:List Int):List V:=ns.map V.int
abbrev NV(ns:List Nat):List V:=ns.map fun (x:Nat)=>V.int (x:Int)
theorem wZ(G:St->Hp->Prop)(hr:∀σ H,G σ H->u D σ H)(ht:∀N:St->Hp->Prop,(∀σ H,G σ H->N σ H)->t { D with nx:=N } σ H):Ju t u D σ H:=ht _ hr
abbrev Zs:=List (Addr×(Int×Int))
abbrev IT(u:Int×Int):HO:=.tup [.int u.1,.int u.2]
def zr(zs:Zs):List V:=zs.map fun z=>V.ref z.1
def zp(zs:Zs):List (Int×Int):=zs.map (·.2)
def PO(H:Hp)(zs:Zs):Prop:=∀z∈zs,H z.1=some (IT z.2)
theorem pK:zr (a++b)=zr a++zr b:=c_
theorem pL:zp (a++b)=zp a++zp b:=c_
theorem ir:(zr a).length=a.length:=a_ _
theorem cA:(zp a).length=a.length:=a_ _
theorem q0:zr a=(a.map (·.1)).map V.ref:=by unfold zr;rw[dY];rfl
theorem q8{zs:Zs}{i:Nat}{x:V}(h:(zr zs)[i]?=some x):∃z,zs[i]?=some z/\x=.ref z.1:=by
 unfold zr at h;rw[bJ] at h;cases e:zs[i]? with
 |none=>rw[e] at h;cases h
 |some z=>rw[e] at h;exact⟨z,rfl,(bG h).symm⟩
theorem PO.nil:PO H []:=fun z hz=>(nomatch hz)
theorem PO.same(h:PO H zs)(s:aM H H'):PO H' zs:=fun z hz=>s _ _ (h z hz)
theorem PO.putL(h:PO H zs)(e:H D=some (.lst xs)):PO (upd H D o) zs:=fun z hz=>by
 have:=h z hz;rw[ao (by rintro rfl;rw[e] at this;cases this)];exact this
theorem PO.putN(h:PO H zs)(e:H D=none):PO (upd H D o) zs:=h.same (au e)
theorem PO.append(h:PO H a)(h':PO H b):PO H (a++b):=fun z hz=>(cY.mp hz).elim (h z) (h' z)
theorem PO.one(h:H p=some (IT u)):PO H [(p,u)]:=fun z hz=>by rw[dH.mp hz];exact h
theorem AD{zs:Zs}{i:Nat}(h:i<zs.length):(zs.map (·.1)).getD i 0=zs[i].1:=by
 rw[ce,bJ,cu h];rfl
theorem Dh(h:i<zs.length):(zp zs).getD i (0,0)=zs[i].2:=by
 unfold zp;rw[ce,bJ,cu h];rfl
theorem yv{H:Hp}{zs:Zs}(ho:PO H zs){as:List Addr}(h:as.Perm (zs.map (·.1))):∃y3:Zs,y3.Perm zs/\as=y3.map (·.1):=by
 classical
 let f:Addr->Int×Int:=fun a=>match H a with
  |some (.tup [.int x,.int y])=>(x,y)
  |_=>(0,0)
 have e:(zs.map (·.1)).map (fun a=>(a,f a))=zs:=by
  rw[dY];conv=>rhs;rw[<-gb zs]
  refine jE fun z hz=>?_;have:=ho z hz;show (z.1,f z.1)=z;have e2:f z.1=z.2:=by
   show (match H z.1 with|some (.tup [.int x,.int y])=>(x,y)|_=>(0,0))=z.2;rw[this]
  rw[e2]
 refine⟨as.map fun a=>(a,f a),?_,?_⟩
 .have:=h.map (fun a=>(a,f a));rw[e] at this;exact this
 .rw[dY];exact(gb as).symm
abbrev Tv(us:List (Int×Int)):Prop:=us=us
theorem Di{K:PySem.W.Frag}{H:Hp}{l:Addr}{zs:Zs}{Q:VK}(hl:H l=some (.lst (zr zs)))(ho:PO H zs)(hz:zs.length<=4096)(hb:∀u∈zp zs,0<=u.2/\u.2<64)(q:∀ (D:Addr) (y3:Zs),H D=none->y3.Perm zs->Tv (zp y3)->Q (.ref D) (upd H D (.lst (zr y3)))):Ar K [.ref l] H Q:=by
 refine⟨l,zs.map (·.1),rfl,bo.of (by rw[<-q0];exact hl),fun a ha=>?_,by rw[a_];exact hz,fun D tV hD hp=>?_⟩
 .obtain⟨z,hz,rfl⟩:=bg.mp ha;exact⟨_,_,bL.of (ho z hz)⟩
 .obtain⟨y3,h1,rfl⟩:=yv ho hp;rw[<-q0];exact q D y3 hD h1 rfl
theorem AE{K:PySem.W.Frag}{a D:Addr}{Ce:Zs}{g:TG}{tt:TT}{te:TE}{dz:Hp->Prop}{σB:St}{H0:Hp}(F:Int×Int->Int×Int)(jV:St->Prop)(ha:H0 a=some (.lst (zr Ce)))(V2:PO H0 Ce)(hD:H0 D=none)(hn:Ce.length<=100000)(h0:jV σB)(hs:∀z σ H (R:V->St->Hp->Prop) (Kf:St->Hp->Prop),z∈Ce->jV σ->H z.1=some (IT z.2)->(∀σ2 p,jV σ2->H p=none->R (.ref p) σ2 (upd H p (IT (F z.2))))->g (.ref z.1) σ H fun σ2 H2=>tt σ2 H2 fun b H3=>if b=true then te σ2 H3 fun v H4=>R v σ2 H4 else Kf σ2 H3)(hd:∀zs H,aM H0 H->H D=some (.lst (zr zs))->PO H zs->zp zs=(zp Ce).map F->(∀z∈zs,H0 z.1=none)->dz H):iZ (Cn K a) g tt te D dz σB (upd H0 D (.lst [])):=by
 refine fZ (xs:=zr Ce) (fun i ys σ H=>jV σ/\aM H0 H/\H D=some (.lst ys)/\∃zs:Zs,ys=zr zs/\PO H zs/\zp zs=((zp Ce).take i).map F/\∀z∈zs,H0 z.1=none) ⟨h0,au hD,ah,[],rfl,PO.nil,rfl,fun z hz=>nomatch hz⟩ (fun i ys σ H _ z=>bo.of (z.2.1 _ _ ha)) ?_ ?_
 .rintro i x ys σ H Kt Kf hx ⟨sh,sm,Cf,zs,rfl,po,ep,fr⟩ kt kf;obtain⟨z,hz,rfl⟩:=q8 hx;have hi:i<Ce.length:=(cj.mp hz).1;have E5:z∈Ce:=cQ hz;have hl:zs.length=i:=by rw[<-cA,ep,a_,gX,cA];lia
  refine hs z σ H Kt Kf E5 sh (sm _ _ (V2 z E5)) (fun σ2 p Pf hp=>?_)
  .have nD:D≠p:=aq Cf hp;refine kt _ _ _ (by rw[ao nD];exact Cf) (by rw[ir,hl];exact bj hi (bn hn (by decide))) ⟨Pf,bT (sm.trans (au hp)) hD,ah,zs++[(p,F z.2)],?_,?_,?_,?_⟩
   .rw[pK];rfl
   .refine PO.putL (xs:=zr zs) ?_ (by rw[ao nD];exact Cf);exact(po.putN hp).append (PO.one ah)
   .have e2:(zp Ce)[i]?=some z.2:=by unfold zp;rw[bJ,hz];rfl
    rw[pL,ep,dI,e2,mm,c_];rfl
   .intro z hz;rcases cY.mp hz with z'|z'
    .exact fr z z'
    .rw[dH.mp z'];exact sm.free hp
 .rintro ys σ H ⟨_,sm,Cf,zs,rfl,po,ep,fr⟩;rw[ir,<-cA,e_] at ep;exact hd zs H sm Cf po ep fr
open im
abbrev w4:Stmt:=dh (e8 20) 0
abbrev AF:Stmt:=dh (e8 20) 1
abbrev Gm:Stmt:=dh (e8 20) 3
abbrev Gn:Stmt:=dh (e8 20) 4
abbrev vG:Stmt:=dh (e8 20) 8
structure Er(K:PySem.W.Frag)(mg:Str->Option Value)(x:Str)(C:Addr):Prop where
 at_:mg x=some (.ref C)
 ok:ny K C
theorem V3:¬ (("house_count":Str)="tie_list"):=by decide +kernel
theorem V4:¬ (("house_count":Str)="out_lists"):=by decide +kernel
theorem V5:¬ (("house_count":Str)="distances"):=by decide +kernel
theorem V6:¬ (("out_lists":Str)="distances"):=by decide +kernel
def kN(n:Int)(tl ol ds:Addr):List (Str×V):=b8 "distances" (.ref ds) (b8 "out_lists" (.ref ol) (b8 "tie_list" (.ref tl) (b8 "house_count" (.int n) [])))
theorem w5(n:Int)(tl ol ds:Addr):(kN n tl ol ds).lookup ("house_count":Str)=some (.int n):=by
 unfold kN;rw[aK,am V5,aK,am V4,aK,am V3,aK,ap rfl]
theorem lU(n:Int)(tl ol ds:Addr){m:Str}(h1:¬ m="house_count")(h2:¬ m="tie_list")(h3:¬ m="out_lists")(h4:¬ m="distances"):(kN n tl ol ds).lookup m=none:=by
 unfold kN;rw[aK,am h4,aK,am h3,aK,am h2,aK,am h1];all_goals rfl
theorem Dj(n:Int)(tl ol ds:Addr):(kN n tl ol ds).lookup ("out_lists":Str)=some (.ref ol):=by
 unfold kN;rw[aK,am V6,aK,ap rfl]
theorem Dk(n:Int)(tl ol ds:Addr):(kN n tl ol ds).lookup ("distances":Str)=some (.ref ds):=by
 unfold kN;rw[aK,ap rfl]
def fJ(H:Hp)(L:Addr->Prop)(l:Addr)(n:Nat)(r:Nat->List Nat):Prop:=∃bs:List Addr,H l=some (.lst (bs.map V.ref))/\(∀b∈bs,L b)/\Holds H bs n (fun h=>.lst (NV (r h)))
theorem fJ.keep(R:fJ H L l n r)(hl:L l)(k:∀b o,L b->H b=some o->H' b=some o):fJ H' L l n r:=
 let ⟨bs,a,b,c⟩:=R
 ⟨bs,k _ _ hl a,b,c.mono fun j hj e=>k _ _ (b _ (by rw[ce,cu (by rw[c.1];exact hj)];exact jG _)) e⟩
theorem fJ.row(R:fJ H L l n r)(hh:h<n):∃ (bs:List Addr) (b:Addr),H l=some (.lst (bs.map V.ref))/\(bs.map V.ref)[h]?=some (V.ref b)/\H b=some (.lst (NV (r h)))/\L b:=by
 obtain⟨bs,a,b,c⟩:=R;have hl:h<bs.length:=by rw[c.1];exact hh
 refine⟨bs,bs[h],a,by rw[bJ,cu hl];rfl,?_,b _ (jG _)⟩;have:=c.2 h hh;rw[ce,cu hl] at this;exact this
def Dl(H:Hp)(L:Addr->Prop)(tl:Addr)(ts:Ts):Prop:=L tl/\∃zs:Zs,H tl=some (.lst (zr zs))/\PO H zs/\(∀z∈zs,L z.1)/\(zp zs).Perm ts/\Tv (zp zs)
theorem Dl.keep(h:Dl H L tl ts)(k:∀b o,L b->H b=some o->H' b=some o):Dl H' L tl ts:=
 let ⟨a,zs,b,c,d,e⟩:=h;⟨a,zs,k _ _ a b,fun z hz=>k _ _ (d z hz) (c z hz),d,e⟩
structure d_(C:Addr)(H:Hp)(L:Addr->Prop)(p:Addr)(n:Nat)(ts:Ts):Prop where
 nP:iN n ts
 ob:∃dx tl ol ds,H p=some (.ins C dx (kN n tl ol ds))/\L ol/\L ds/\fJ H L ol n (ci n ts)/\fJ H L ds n (fun h=>(List.range n).map (far ts h))/\Dl H L tl ts
theorem d_.keep(N:d_ C H L p n ts)(k:∀b o,L b->H b=some o->H' b=some o)(kp:∀o,H p=some o->H' p=some o):d_ C H' L p n ts:=
 let ⟨dx,tl,ol,ds,a,l1,l2,b,c,d⟩:=N.ob
 ⟨N.nP,dx,tl,ol,ds,kp _ a,l1,l2,b.keep l1 k,c.keep l2 k,d.keep k⟩
theorem d_.same(N:d_ C H L p n ts)(s:aM H H'):d_ C H' L p n ts:=N.keep (fun b o _ e=>s b o e) (fun o e=>s _ o e)
structure NT(K:PySem.W.Frag)(mg:Str->Option Value)(C:Addr):Prop where
 cl:yW K C
 nH:et K C "house_count"
 nT:et K C "tie_list"
 nO:et K C "out_lists"
 nD:et K C "distances"
 Pg:mg "Net"=some (.ref C)
structure dG(P:Program)(w:World)(K:PySem.W.Frag)(mg:Str->Option Value)(base:Heap)(CX:rN)(k:Nat)(C:Addr)(x:Str)(ps:List Str)(sp:Sp):Prop where
 ex:∃f fd,Ct K C x f/\fV K fd ps []/\a9 P w K mg base CX k f fd ps sp
section
variable {P:Program} {w:World} {K:PySem.W.Frag} {mg:Str->Option Value} {base:Heap}
theorem Dm:az ["self","thing"] ["self","thing"] (ak vG):=⟨rfl,rfl,rfl,by decide +kernel,rfl,by decide +kernel,by decide +kernel⟩
def jW(K:PySem.W.Frag)(C CE:Addr):Sp:=fun vs H Q E=>∃ (L:Addr->Prop) (p:Addr) (n:Nat) (ts:Ts) (x:V) (o:Option Int),vs=[.ref p,x]/\d_ C H L p n ts/\Wh K H x o/\(aO o 0 ((n:Int)-1)=false->E (.ref CE) none H)/\(aO o 0 ((n:Int)-1)=true->Q .bV H)
theorem AG{f C CE:Addr}{fd:FuncData}(F:dU K "check_house" "Net.check_house" vG f fd)(T:NT K mg C)(e:Er K mg "NoHouse" CE)(HH:cg P w K mg base aX 3 "is_house" ["many","thing"] (iG K)):
  a9 P w K mg base (eZ P w) 4 f fd ["self","thing"] (jW K C CE):=by
 refine F.EN Dm (fun vs H Q E h=>?_) (fun cI A outer s H vs Q E hr h=>?_)
 .obtain⟨L,p,n,ts,x,o,rfl,_⟩:=h;rfl
 .obtain⟨L,p,n,ts,x,o,rfl,N,wh,k1,k2⟩:=h;obtain⟨dx,tl,ol,ds,h1,_⟩:=N.ob;refine⟨_,aj (bw (cH (cw (aw HH hr aG (aa (dO (pv 0) rfl) (aa (pv 1) af))))) (aj (ic (q:=fun H1=>E (.ref CE) none H1) rfl e.ok rfl e.at_ (aa mW af) (fun _ _ _ _ _ _ _ I m q=>h_ I m q))) aN),?_⟩;refine⟨_,rfl,p,C,dx,_,_,rfl,h1,T.cl,T.nH,w5 _ _ _ _,_,rfl,x,o,n,rfl,wh,_,rfl,?_⟩;cases hw:aO o 0 ((n:Int)-1) with
  |false=>exact kG ⟨by show 1<=sizeLine;decide,k1 hw⟩
  |true=>exact eU (k2 hw)
theorem Dn(n:Int)(tl ol ds:Addr):(kN n tl ol ds).lookup ("check_house":Str)=none:=lU n tl ol ds (by decide +kernel) (by decide +kernel) (by decide +kernel) (by decide +kernel)
theorem KC(n:Int)(tl ol ds:Addr):(kN n tl ol ds).lookup ("far":Str)=none:=lU n tl ol ds (by decide +kernel) (by decide +kernel) (by decide +kernel) (by decide +kernel)
theorem aR:(NV xs).length=xs.length:=a_ _
theorem cV{o:Option Int}{n:Nat}(h:aO o 0 ((n:Int)-1)=true):∃i:Nat,i<n/\o=some (i:Int):=by
 cases o with
 |none=>cases h
 |some i=>
  unfold aO at h;simp at h;exact⟨i.toNat,by lia,by congr 1;lia⟩
theorem bW{i n:Nat}(h:i<n):aO (some (i:Int)) 0 ((n:Int)-1)=true:=by unfold aO;simp;lia
def w6(K:PySem.W.Frag)(C CE:Addr)(V7:Hp->Nat->Ts->Nat->VK->Prop):Sp:=fun vs H Q E=>∃ (L:Addr->Prop) (p:Addr) (n:Nat) (ts:Ts) (x:V) (o:Option Int),vs=[.ref p,x]/\d_ C H L p n ts/\Wh K H x o/\(aO o 0 ((n:Int)-1)=false->E (.ref CE) none H)/\∀i:Nat,i<n->o=some (i:Int)->V7 H n ts i Q
theorem KD:az ["self","house"] ["self","house"] (ak Gm):=⟨rfl,rfl,rfl,by decide +kernel,rfl,by decide +kernel,by decide +kernel⟩
def Do:Hp->Nat->Ts->Nat->VK->Prop:=fun H n ts i Q=>∀r H',aM H H'->H r=none->H' r=some (.lst (NV (ci n ts i)))->Q (.ref r) H'
theorem jv{H:Hp}{x:V}{i:Int}(h:Wh K H x (some i)):x=.int i:=by cases h;rfl
theorem Go{f C CE:Addr}{fd:FuncData}(F:dU K "out" "Net.out" Gm f fd)(T:NT K mg C)(B:Bl mg)(M:dG P w K mg base (eZ P w) 4 C "check_house" ["self","thing"] (jW K C CE)):
  a9 P w K mg base (eZ P w) 5 f fd ["self","house"] (w6 K C CE Do):=by
 obtain⟨fM,KE,mM,bM,GM⟩:=M.ex;refine F.EN KD (fun vs H Q E h=>?_) (fun cI A outer s H vs Q E hr h=>?_)
 .obtain⟨L,p,n,ts,x,o,rfl,_⟩:=h;rfl
 .obtain⟨L,p,n,ts,x,o,rfl,N,wh,k1,k2⟩:=h;obtain⟨dx,tl,ol,ds,h1,_,_,R,_⟩:=N.ob;refine⟨_,ag (cx (bU (pv 0) T.cl mM GM hr bM .nil (nu (E':=E) fun _ _ _ z=>z) (aa (pv 1) af)))
   (aj (aJ (cF qE (by rfl) B.lst ue (aa (cZ cz (dO (pv 0) rfl) (pv 1) (fun _ _=>rfl)) af)))),?_⟩
  refine⟨_,rfl,p,dx,_,rfl,h1,Dn _ _ _ _,_,rfl,L,p,n,ts,x,o,rfl,N,wh,k1,fun hw=>?_⟩;obtain⟨i,hi,rfl⟩:=cV hw;obtain rfl:=jv wh;obtain⟨bs,b,r1,r2,r3,_⟩:=R.row hi;exact⟨_,rfl,p,C,dx,_,_,rfl,h1,T.cl,T.nO,Dj _ _ _ _,_,rfl,ol,_,_,_,rfl,rfl,bo.of r1,bz r2,b,_,rfl,.inl (bo.of r3),fun l hl=>k2 i hi rfl l _ (au hl) hl ah⟩
theorem KG:az ["self","one","other"] ["self","one","other"] (ak Gn):=⟨rfl,rfl,rfl,by decide +kernel,rfl,by decide +kernel,by decide +kernel⟩
def AH(K:PySem.W.Frag)(C CE:Addr):Sp:=fun vs H Q E=>∃ (L:Addr->Prop) (p:Addr) (n:Nat) (ts:Ts) (x:V) (o:Option Int) (y:V) (o':Option Int),vs=[.ref p,x,y]/\d_ C H L p n ts/\Wh K H x o/\Wh K H y o'/\(aO o 0 ((n:Int)-1)=false\/aO o' 0 ((n:Int)-1)=false->E (.ref CE) none H)/\∀i j:Nat,i<n->j<n->o=some (i:Int)->o'=some (j:Int)->Q (.int (far ts i j:Nat)) H
theorem Gp{f C CE:Addr}{fd:FuncData}(F:dU K "far" "Net.far" Gn f fd)(T:NT K mg C)(M:dG P w K mg base (eZ P w) 4 C "check_house" ["self","thing"] (jW K C CE)):
  a9 P w K mg base (eZ P w) 5 f fd ["self","one","other"] (AH K C CE):=by
 obtain⟨fM,KE,mM,bM,GM⟩:=M.ex;refine F.EN KG (fun vs H Q E h=>?_) (fun cI A outer s H vs Q E hr h=>?_)
 .obtain⟨L,p,n,ts,x,o,y,o',rfl,_⟩:=h;rfl
 .obtain⟨L,p,n,ts,x,o,y,o',rfl,N,wh,Tw,k1,k2⟩:=h;obtain⟨dx,tl,ol,ds,h1,_,_,_,R,_⟩:=N.ob;refine⟨_,ag (cx (bU (pv 0) T.cl mM GM hr bM .nil (nu (E':=E) fun _ _ _ z=>z) (aa (pv 1) af)))
   (ag (cx (bU (pv 0) T.cl mM GM hr bM .nil (nu (E':=E) fun _ _ _ z=>z) (aa (pv 2) af)))
   (aj (aJ (cZ cz (cZ cz (dO (pv 0) rfl) (pv 1) (fun _ _=>rfl)) (pv 2) (fun _ _=>rfl))))),?_⟩
  refine⟨_,rfl,p,dx,_,rfl,h1,Dn _ _ _ _,_,rfl,L,p,n,ts,x,o,rfl,N,wh,fun z=>k1 (.inl z),fun hw=>?_⟩;refine⟨_,rfl,p,dx,_,rfl,h1,Dn _ _ _ _,_,rfl,L,p,n,ts,y,o',rfl,N,Tw,fun z=>k1 (.inr z),fun vC=>?_⟩;obtain⟨i,hi,rfl⟩:=cV hw;obtain⟨j,hj,rfl⟩:=cV vC;obtain rfl:=jv wh;obtain rfl:=jv Tw;obtain⟨bs,b,r1,r2,r3,_⟩:=R.row hi;have hg:(NV ((List.range n).map (far ts i)))[j]?=some (.int (far ts i j:Nat)):=by
   rw[bJ,bJ,uo hj];rfl
  exact⟨_,rfl,p,C,dx,_,_,rfl,h1,T.cl,T.nD,Dk _ _ _ _,_,rfl,ds,_,_,_,rfl,rfl,bo.of r1,bz r2,_,rfl,b,_,_,_,rfl,rfl,bo.of r3,bz hg,k2 i j hi hj rfl rfl⟩
end
open PySem L2 im
abbrev vH:Stmt:=e8 21
abbrev Gq:Stmt:=e8 22
abbrev Gr:Stmt:=e8 23
section
variable {P:Program} {w:World} {K:PySem.W.Frag} {mg:Str->Option Value} {base:Heap}
abbrev Gs:Stmt:=e8 14
theorem KH:az ["many","one","other"] ["many","one","other"] (ak Gs):=⟨rfl,rfl,rfl,by decide +kernel,rfl,by decide +kernel,by decide +kernel⟩
def AI:Sp:=fun vs H Q _=>∃ (n a b:Int),vs=[.int n,.int a,.int b]/\0<=a/\a<n/\0<=b/\b<n/\a≠b/\Q (.bl true) H
theorem Gu(F:dU K "are_unlike_houses" "are_unlike_houses" Gs f fd)(HH:cg P w K mg base aX 3 "is_house" ["many","thing"] (iG K)):
  a9 P w K mg base aX 4 f fd ["many","one","other"] AI:=by
 refine F.ok KH (fun vs H Q E h=>?_) (fun cI A outer s H vs Q E hr h=>?_)
 .obtain⟨n,a,b,rfl,_⟩:=h;rfl
 .obtain⟨n,a,b,rfl,a1,a2,b1,b2,qI,k⟩:=h;refine⟨_,aj (aJ (jm (aw HH hr aG (aa (pv 0) (aa (pv 1) af))) (jm (aw HH hr aG (aa (pv 0) (aa (pv 2) af))) (ky (gm k7 (pv 1) (pv 2) (be _)))))),?_⟩;refine⟨_,rfl,_,rfl,_,_,n,rfl,.int a,_,rfl,?_⟩;rw[ap (show aO (some a) 0 (n-1)=true by unfold aO;simp;lia)];refine⟨_,rfl,_,rfl,_,_,n,rfl,.int b,_,rfl,?_⟩;rw[ap (show aO (some b) 0 (n-1)=true by unfold aO;simp;lia)];refine⟨_,rfl,_,rfl,rfl,?_⟩;have e:(!decide (V.int a=V.int b))=true:=by simp[qI]
  rw[e];exact k
theorem KI:az ["many","thing"] ["many","thing"] (ak Gq):=⟨rfl,rfl,rfl,by decide +kernel,rfl,by decide +kernel,by decide +kernel⟩
def AJ:Sp:=fun vs H Q _=>∃ (n:Int) (p:Addr) (a b:Int),vs=[.int n,.ref p]/\H p=some (.tup [.int a,.int b])/\0<=a/\a<n/\0<=b/\b<n/\a≠b/\Q (.bl true) H
theorem Gv(F:dU K "is_tie" "is_tie" Gq f fd)(R:cg P w K mg base aX 1 "is_row" ["thing","length"] (sS K))(U:cg P w K mg base aX 4 "are_unlike_houses" ["many","one","other"] AI):
  a9 P w K mg base aX 5 f fd ["many","thing"] AJ:=by
 refine F.ok KI (fun vs H Q E h=>?_) (fun cI A outer s H vs Q E hr h=>?_)
 .obtain⟨n,p,a,b,rfl,_⟩:=h;rfl
 .obtain⟨n,p,a,b,rfl,hp,a1,a2,b1,b2,qI,k⟩:=h;refine⟨_,aj (aJ (jm (aw R (hr.mono (by decide)) aG (aa (pv 1) (aa av af)))
   (ky (aw U hr aG (aa (pv 0) (aa (cZ jo (pv 1) av (fun _ _=>rfl)) (aa (cZ jo (pv 1) av (fun _ _=>rfl)) af))))))),?_⟩
  refine⟨_,rfl,_,_,_,rfl,.tup hp,true,rfl,?_⟩;exact⟨_,rfl,_,rfl,p,_,_,_,rfl,rfl,bL.of hp,bz (j:=0) rfl,_,rfl,p,_,_,_,rfl,rfl,bL.of hp,bz (j:=1) rfl,n,a,b,rfl,a1,a2,b1,b2,qI,k⟩
theorem w9:az ["many","ties","tie"] ["many","ties"] (ak vH):=⟨rfl,rfl,rfl,by decide +kernel,rfl,by decide +kernel,by decide +kernel⟩
theorem sU:PySem.W.kitOne K (.type "list") (.type "list")=some true:=by kernel_rfl
structure dQ(H:Hp)(l:Addr)(n:Nat)(zs:Zs):Prop where
 nP:iN n (zp zs)
 at_:H l=some (.lst (zr zs))
 po:PO H zs
theorem dQ.same(h:dQ H l n zs)(s:aM H H'):dQ H' l n zs:=⟨h.nP,s _ _ h.at_,h.po.same s⟩
def iH:Sp:=fun vs H Q _=>∃ (n:Nat) (l:Addr) (zs:Zs),vs=[.int n,.ref l]/\dQ H l n zs/\∀H',aM H H'->Q .bV H'
theorem AK(F:dU K "check_ties" "check_ties" vH f fd)(B:Bl mg)(gF:∃t,mg "FEWEST_HOUSES"=some (.int 2 t))(gM:∃t,mg "MOST_HOUSES"=some (.int 32 t))(W:cg P w K mg base aX 2 "is_whole_within" ["thing","least","most"] (iq K))(T:cg P w K mg base aX 5 "is_tie" ["many","thing"] AJ):
  a9 P w K mg base aX 6 f fd ["many","ties"] iH:=by
 obtain⟨tF,gF⟩:=gF;obtain⟨tM,gM⟩:=gM;refine F.ok w9 (fun vs H Q E h=>?_) (fun cI A outer s H vs Q E hr h=>?_)
 .obtain⟨n,l,zs,rfl,_⟩:=h;rfl
 .refine⟨_,ag (bw (cH (cw (aw W (hr.mono (by decide)) aG (aa (pv 0) (aa (gf (v:=.int 2) rfl gF ⟨_,rfl⟩) (aa (gf (v:=.int 32) rfl gM ⟨_,rfl⟩) af)))))) cm aN)
   (ag (bw (cH (cw (aF d7 (by rfl) B.E4 kR (aa (pv 1) (aa (fk (v:=.ty "list") rfl B.lst ue rfl) af))))) cm aN)
   (ag (cy dX rfl (dg (pv 1)) (aA (i:=2) w9.nd rfl (Or.inl rfl)) (aj (bw (cH (cw (aw T hr aG (aa (pv 0) (aa (pv 2) af))))) cm aN)))
   (aj (bw (aT k7 (aF sj (by rfl) B.len fc (aa (cF (xZ rfl (by have:=hr.un;show (A.deeper _).units+8<_;lia)) (by rfl) B.set PyProof.Rows.boot_set (aa (pv 1) af)) af)) (aF aW (by rfl) B.len fc (aa (pv 1) af)) (be _)) cm aN)))),?_⟩
  obtain⟨n,l,zs,rfl,tt,k⟩:=h;obtain⟨fi,hl,po⟩:=id tt;have n1:=fi.n1;have n2:=fi.n2;refine⟨_,rfl,_,_,2,32,rfl,.int n,_,rfl,?_⟩;rw[show aO (some (n:Int)) 2 32=true by unfold aO;simp;lia];refine eU ?_;refine⟨_,rfl,_,_,_,.type "list",true,rfl,⟨rfl,sU⟩,.of (.lst hl),_,rfl,eU ?_⟩;refine⟨_,rfl,l,rfl,⟨_,bo.of hl⟩,m9 (K:=K) (a:=l) (xs:=zr zs) (fun i σ H2=>H2=H/\∃v,σ=[some (.int n),some (.ref l),v]) ⟨rfl,none,rfl⟩ (fun i σ H2 _ ⟨e,_⟩=>by rw[e];exact bo.of hl) ?_ ?_⟩
  .rintro i x σ H2 hx ⟨rfl,v,rfl⟩;obtain⟨z,hz,rfl⟩:=q8 hx;have E5:z∈zs:=cQ hz;have Tx:z.2∈zp zs:=bg.mpr ⟨z,E5,rfl⟩;have r:=fi.rg _ Tx;exact⟨_,rfl,_,rfl,n,_,_,_,rfl,po z E5,r.1.1,r.1.2,r.2.1,r.2.2,fi.ne _ Tx,_,rfl,eU ⟨rfl,_,rfl⟩⟩
  .rintro σ H2 ⟨rfl,v,rfl⟩;have fE:(zp zs).length<=256:=fi.len;refine⟨_,rfl,l,zs.map (·.1),zp zs,rfl,bo.of (by rw[<-q0];exact hl),by rw[a_,cA],fun i hi=>?_,fi.nd,fun y hy=>?_,by lia,fun D hD=>?_⟩
   .rw[cA] at hi;rw[AD hi,Dh hi];exact bL.of (po _ (jG hi))
   .have r:=fi.rg _ hy;lia
   .have nl:l≠D:=aq hl hD;refine⟨D,_,rfl,ah,by lia,_,rfl,l,zr zs,rfl,.inl (bo.of (by rw[ao nl];exact hl)),rfl,_,rfl,?_⟩;have ez:(!decide (V.int (((zp zs).length:Nat):Int)=V.int (((zr zs).length:Nat):Int)))=false:=by rw[cA,ir];simp
    rw[ez];exact eU (k _ (au hD))
end
abbrev sV:Stmt:=e8 24
section
variable {P:Program} {w:World} {K:PySem.W.Frag} {mg:Str->Option Value} {base:Heap}
theorem kO(S:St->Prop)(p q:Int×Int->Int)(h:Int)(hD:H D=none)(hl:H l=some (.lst (zr zs)))(po:PO H zs)(hn:zs.length<=1000)(s0:S σB)(hg:∀z σ H2 (Kt:V->St->Hp->Prop) (Kf:St->Hp->Prop),z∈zs->S σ->H2 z.1=some (IT z.2)->(∀σ2,S σ2->p z.2=h->Kt (.int (q z.2)) σ2 H2)->(∀σ2,S σ2->p z.2≠h->Kf σ2 H2)->
   g (.ref z.1) σ H2 fun σ2 H2=>tt σ2 H2 fun b H3=>if b=true then te σ2 H3 fun v H4=>Kt v σ2 H4 else Kf σ2 H3)(hd:dz (upd H D (.lst (IV (((zp zs).filter fun y=>decide (p y=h)).map q))))):iZ (Cn K l) g tt te D dz σB (upd H D (.lst [])):=by
 have nl:l≠D:=aq hl hD;have tk:∀ {i:Nat} {z:Addr×(Int×Int)},zs[i]?=some z->(zp zs).take (i+1)=(zp zs).take i++[z.2]:=fun {i z} hz=>by
  rw[dI,show (zp zs)[i]?=some z.2 by unfold zp;rw[bJ,hz];rfl];rfl
 refine fZ (xs:=zr zs) (fun i ys σ H2=>S σ/\ys=IV ((((zp zs).take i).filter fun y=>decide (p y=h)).map q)/\H2=upd H D (.lst ys)) ⟨s0,by simp,rfl⟩ (fun i ys σ H2 _ ⟨_,_,e⟩=>by rw[e];exact bo.of (by rw[ao nl];exact hl)) ?_ ?_
 .rintro i x ys σ H2 Kt Kf hx ⟨hS,ey,rfl⟩ kt kf;obtain⟨z,hz,rfl⟩:=q8 hx;have E5:z∈zs:=cQ hz;have hp:=po z E5;have na:z.1≠D:=aq hp hD;have hi:i<zs.length:=(cj.mp hz).1;refine hg z σ _ Kt Kf E5 hS (by rw[ao na];exact hp) (fun σ2 s2 e=>?_) (fun σ2 s2 e=>?_)
  .refine kt _ _ _ ah ?_ ⟨s2,?_,?_⟩
   .rw[ey,a_,a_];exact fL (pW _ _) (fL (List.length_take_le _ _) (bj (show i<1000 by lia) (by decide)))
   .rw[ey,tk hz,uy,c_];have:decide (p z.2=h)=true:=by simp[e]
    simp[jd,this]
   .rw[lJ]
  .refine kf _ _ ⟨s2,?_,rfl⟩;have:decide (p z.2=h)=false:=by simp[e]
   rw[ey,tk hz,uy];simp[jd,this]
 .rintro ys σ H2 ⟨_,ey,rfl⟩;rw[ir,<-cA,e_] at ey;rw[ey];exact hd
theorem IU:(["one","other","house"]:List Str).Nodup:=by decide +kernel
theorem w_:az ["many","ties","house","leading_out","leading_in"] ["many","ties"] (ak Gr):=⟨rfl,rfl,rfl,by decide +kernel,rfl,by decide +kernel,by decide +kernel⟩
theorem Gw(F:dU K "check_balance" "check_balance" Gr f fd)(B:Bl mg)(gM:∃t,mg "MOST_TIES_OUT"=some (.int 8 t)):
  a9 P w K mg base aX 1 f fd ["many","ties"] iH:=by
 obtain⟨tM,gM⟩:=gM;refine F.ok w_ (fun vs H Q E h=>?_) (fun cI A outer s H vs Q E hr h=>?_)
 .obtain⟨n,l,zs,rfl,_⟩:=h;rfl
 .obtain⟨n,l,zs,rfl,T,k⟩:=h;have fi:=T.nP;have n1:=fi.n1;have n2:=fi.n2;have fE:zs.length<=256:=by have:=fi.len;rw[cA] at this;exact this
  refine'⟨_,aj (cy dX rfl (cn rfl B.range (aa (pv 0) af)) (aA (i:=2) w_.nd rfl (Or.inr rfl))
   (ag (aP (i:=3) w_.nd rfl (Or.inl rfl) (aF aW (by rfl) B.len fc (aa ?c1 af)))
   (ag (aP (i:=4) w_.nd rfl (Or.inl rfl) (aF aW (by rfl) B.len fc (aa ?c2 af)))
   (ag (bw (aT k7 (pv 3) (pv 4) (be _)) cm aN)
   (aj (bw (aT wf (pv 3) (gf (v:=.int 8) rfl gM ⟨_,rfl⟩) (be _)) cm aN)))))),?_⟩
  case c1=>
   refine' cL (g:=xD K 2 (hW (cD 0) (hW (cD 1) xC))) (NB:=["one","other","house"]) (src:=[none,none,some 2]) (cJ (by kernel_rfl)) rfl (dg (pv 1)) ?g ?t ?e;case g=>exact fun cl C s₃ H₃ fp=>eS (n:=2) rfl (aZ (aA (i:=0) IU rfl (Or.inl rfl) (Or.inr rfl)) (aZ (aA (i:=1) IU rfl (Or.inl rfl) (Or.inr rfl)) dA))
   case t=>exact fun cl C s₃ H₃ fp=>lP (aT o8 (pv 0) (pv 2) (be _))
   case e=>exact fun cl C s₃ H₃ fp=>pv 0
  case c2=>
   refine' cL (g:=xD K 2 (hW (cD 0) (hW (cD 1) xC))) (NB:=["one","other","house"]) (src:=[none,none,some 2]) (cJ (by kernel_rfl)) rfl (dg (pv 1)) ?g ?t ?e;case g=>exact fun cl C s₃ H₃ fp=>eS (n:=2) rfl (aZ (aA (i:=0) IU rfl (Or.inl rfl) (Or.inr rfl)) (aZ (aA (i:=1) IU rfl (Or.inl rfl) (Or.inr rfl)) dA))
   case t=>exact fun cl C s₃ H₃ fp=>lP (aT o8 (pv 1) (pv 2) (be _))
   case e=>exact fun cl C s₃ H₃ fp=>pv 1
  refine⟨_,rfl,n,rfl,by lia,by lia,eL (n:=n) (lo:=0) (fun i σ H2=>aM H H2/\∃a b c,σ=[some (.int n),some (.ref l),a,b,c]) ⟨aM.refl _,none,none,none,rfl⟩ ?_ ?_⟩
  .rintro i σ H2 hi ⟨sm,a,b,c,rfl⟩;have T2:=T.same sm;refine⟨_,rfl,l,rfl,⟨_,bo.of T2.at_⟩,fun D hD=>kO (fun σ=>∃a b,σ=[a,b,some (.int (0+(i:Int)))]) (·.1) (·.1) (0+(i:Int)) hD T2.at_ T2.po (by lia) ⟨_,_,rfl⟩ ?_ ?_⟩
   .rintro z σ H3 Kt Kf hj ⟨x,y,rfl⟩ ha kt kf;refine⟨z.1,_,rfl,bL.of ha,rfl,_,_,rfl,_,_,rfl,rfl,?_⟩;refine⟨_,rfl,_,rfl,rfl,_,rfl,?_⟩;refine qF (fun e=>?_) (fun e=>?_)
    .exact⟨_,rfl,kt _ ⟨_,_,rfl⟩ (by simpa using e)⟩
    .exact kf _ ⟨_,_,rfl⟩ (by simpa using e)
   .refine⟨D,_,rfl,.inl (bo.of ah),?_⟩;have yw:=bT (o:=.lst (IV (((zp zs).filter fun y=>decide (y.1=0+(i:Int))).map (·.1)))) (sm.trans (aM.refl _)) (H:=H) (by cases z:H D with|none=>rfl|some o=>rw[sm _ _ z] at hD;cases hD);have T3:=T.same yw;refine⟨_,rfl,l,rfl,⟨_,bo.of T3.at_⟩,fun D' Tz=>kO (fun σ=>∃a b,σ=[a,b,some (.int (0+(i:Int)))]) (·.2) (·.2) (0+(i:Int)) Tz T3.at_ T3.po (by lia) ⟨_,_,rfl⟩ ?_ ?_⟩
    .rintro z σ H3 Kt Kf hj ⟨x,y,rfl⟩ ha kt kf;refine⟨z.1,_,rfl,bL.of ha,rfl,_,_,rfl,_,_,rfl,rfl,?_⟩;refine⟨_,rfl,_,rfl,rfl,_,rfl,?_⟩;refine qF (fun e=>?_) (fun e=>?_)
     .exact⟨_,rfl,kt _ ⟨_,_,rfl⟩ (by simpa using e)⟩
     .exact kf _ ⟨_,_,rfl⟩ (by simpa using e)
    .refine⟨D',_,rfl,.inl (bo.of ah),?_⟩;rw[fz] at *;have q1:(IV (((zp zs).filter fun y=>decide (y.1=(i:Int))).map (·.1))).length=(IV (((zp zs).filter fun y=>decide (y.2=(i:Int))).map (·.2))).length:=by
      rw[a_,a_,a_,a_];exact fi.VZ i
     have q2:(IV (((zp zs).filter fun y=>decide (y.1=(i:Int))).map (·.1))).length<=8:=by
      rw[a_,a_];exact fi.most i
     refine⟨_,rfl,_,rfl,rfl,_,rfl,?_⟩;rw[<-q1];rw[show (!decide (V.int (((IV (((zp zs).filter fun y=>decide (y.1=(i:Int))).map (·.1))).length:Nat):Int)=V.int (((IV (((zp zs).filter fun y=>decide (y.1=(i:Int))).map (·.1))).length:Nat):Int)))=false by simp];refine eU ?_;refine⟨_,rfl,_,_,rfl,rfl,_,rfl,?_⟩;rw[show decide ((((IV (((zp zs).filter fun y=>decide (y.1=(i:Int))).map (·.1))).length:Nat):Int) > 8)=false by rw[decide_eq_false_iff_not];lia];exact eU ⟨yw.trans (au Tz),_,_,_,rfl⟩
  .rintro σ H2 ⟨sm,a,b,c,rfl⟩;exact k H2 sm
end
def Dp:Expr:=match (bp sV).getD 1 (.Pass ⟨0,0,0,0⟩) with
 |.Return (some (.Call _ _ (k::_) _)) _=>k.value
 |_=>.Name "x" ⟨0,0,0,0⟩
def Dq:Arguments:=match Dp with
 |.Lambda a _ _ _=>a
 |_=>{ posonlyargs:=[],args:=[],vararg:=none,kwonlyargs:=[],kw_defaults:=[],kwarg:=none,defaults:=[] }
def Dr:Expr:=match Dp with
 |.Lambda _ b _ _=>b
 |e=>e
def KJ:Scope:=match Dp with
 |.Lambda _ _ s _=>s
 |_=>{ kind:=.function,names:=[],isGenerator:=false,isCoroutine:=false }
def Gx:Pos:=match Dp with
 |.Lambda _ _ _ p=>p
 |_=>⟨0,0,0,0⟩
def E6:Str:=("houses_out":Str)++".<locals>."++"<lambda>"
abbrev gC(Pt:Addr)(H:Hp):Prop:=pC Gx E6 Pt H
def cM(Pt:Addr)(H H':Hp):Prop:=∀b o,H b=some o->b≠Pt->H' b=some o
theorem cM.trans{Pt:Addr}{H H1 H2:Hp}(a:cM Pt H H1)(b:cM Pt H1 H2):cM Pt H H2:=fun c o h n=>b c o (a c o h n) n
theorem cM.of(a:aM H H'):cM Pt H H':=fun c o h _=>a c o h
theorem gC.not(t:gC Pt H)(h:H b=some o)(n:∀ps,o≠.lq ps):b≠Pt:=by
 rintro rfl;rcases t with z|⟨c,z,_⟩ <;> · rw[h] at z;exact n _ (bG z)
theorem gC.same(t:gC Pt H)(e:aM H H'):gC Pt H':=by
 rcases t with z|⟨c,z,y⟩
 .exact .inl (e _ _ z)
 .exact .inr ⟨c,e _ _ z,e _ _ y⟩
theorem Ds{n a b h:Int}(hn:0<n)(a0:0<=a)(a1:a<n)(b0:0<=b)(b1:b<n)(e:(a-h) % n=(b-h) % n):a=b:=by
 have h1:=Int.emod_emod_of_dvd (a-h) (Int.dvd_refl n);have q:(a-b) % n=0:=by
  have:a-b=(a-h)-(b-h):=by lia
  rw[this,Int.sub_emod,e,Int.sub_self,Int.zero_emod]
 obtain⟨c,hc⟩:=Int.dvd_of_emod_eq_zero q;have c0:c=0:=by
  rcases Int.lt_trichotomy c 0 with z|z|z
  .have:n*c<=n*(-1):=y_ (by lia) (by lia);lia
  .exact z
  .have:n*1<=n*c:=y_ (by lia) (by lia);lia
 rw[c0] at hc;lia
theorem oP{ts:Ts}{h:Int}(nd:ts.Nodup):((ts.filter fun y=>decide (y.1=h)).map (·.2)).Nodup:=by
 refine L2.kK (nd.filter _) fun x hx y hy e=>?_;have a:=(fR.mp hx).2;have b:=(fR.mp hy).2;simp at a b;exact kq (a.trans b.symm) e
theorem yx{n:Nat}{ts:Ts}{h:Nat}(F:iN n ts)(hh:h<n){out:List Int}(ko:Gc (h:Int) (n:Int) ((ts.filter fun y=>decide (y.1=(h:Int))).map (·.2)) out):out.map V.int=NV (ci n ts h):=by
 obtain⟨ps,hp,rfl,hs⟩:=ko;have yb:(ps.map (·.2)).Perm ((ts.filter fun y=>decide (y.1=(h:Int))).map (·.2)):=by
  have:=hp.map (·.2);rw[dY] at this;refine this.trans (ql ?_);conv=>rhs;rw[<-gb ((ts.filter fun y=>decide (y.1=(h:Int))).map (·.2))]
  rfl
 have mem:∀z,z∈ps.map (·.2)↔((h:Int),z)∈ts:=fun z=>by
  rw[yb.mem_iff,bg];constructor
  .rintro⟨y,hy,rfl⟩;obtain⟨y1,y2⟩:=fR.mp hy;have:y.1=(h:Int):=by simpa using y2
   rw[<-this];exact y1
  .intro hz;exact⟨_,fR.mpr ⟨hz,by simp⟩,rfl⟩
 have nd:(ps.map (·.2)).Nodup:=yb.nodup_iff.mpr (oP F.nd);have key:∀q∈ps,q.1=(q.2-(h:Int)) % (n:Int):=fun q hq=>by
  obtain⟨z,_,e⟩:=bg.mp (hp.mem_iff.mp hq);rw[<-e]
 have hn:(0:Int)<n:=by have:=F.n1;lia
 have sorted:(ps.map (·.2)).Pairwise fun x y=>(x-(h:Int)) % (n:Int)<(y-(h:Int)) % (n:Int):=by
  refine jF.mpr ?_;have V8:=jF.mp nd;refine(hs.and V8).imp_of_mem fun {x y} hx hy E2=>?_;have l1:=E2.1;rw[key x hx,key y hy] at l1;have ax:=F.rg _ ((mem x.2).mp (bg.mpr ⟨x,hx,rfl⟩));have ay:=F.rg _ ((mem y.2).mp (bg.mpr ⟨y,hy,rfl⟩));have ne:(x.2-(h:Int)) % (n:Int)≠(y.2-(h:Int)) % (n:Int):=fun z=>E2.2 (Ds hn ax.2.1 ax.2.2 ay.2.1 ay.2.2 z);lia
 have e:ps.map (·.2)=(ci n ts h).map fun (o:Nat)=>(o:Int):=by
  refine lg (k:=fun z=>(z-(h:Int)) % (n:Int)) sorted ?_ fun z=>?_
  .refine jF.mpr ?_;exact lf hh
  .rw[mem,bg];constructor
   .intro hz;have r:=F.rg _ hz;refine⟨z.toNat,(de F hh).mpr ?_,by lia⟩;show (((h:Nat):Int),((z.toNat:Nat):Int))∈ts;rw[show ((z.toNat:Nat):Int)=z by lia];exact hz
   .rintro⟨o,ho,rfl⟩;exact(de F hh).mp ho
 rw[e,dY];rfl
section
variable {P:Program} {w:World} {K:PySem.W.Frag} {mg:Str->Option Value} {base:Heap}
theorem AL:az ["many","ties","house","others"] ["many","ties","house"] (ak sV):=⟨rfl,rfl,rfl,by decide +kernel,rfl,by decide +kernel,by decide +kernel⟩
def q9(Pt:Addr):Sp:=fun vs H Q _=>∃ (n:Nat) (l:Addr) (h:Nat) (zs:Zs),vs=[.int n,.ref l,.int h]/\h<n/\dQ H l n zs/\gC Pt H/\
 ∀ (r:Addr) (H':Hp),gC Pt H'->cM Pt H H'->H r=none->H' r=some (.lst (NV (ci n (zp zs) h)))->Q (.ref r) H'
theorem Dt(F:vx K "houses_out" "houses_out" sV f fd c)(B:Bl mg)(kb:K.In base)(hb:qN mg base)(hc:PySem.W.codeHdIn K c Pt=true):
  a9 P w K mg base aX 1 f fd ["many","ties","house"] (q9 Pt):=by
 refine F.ok AL (fun vs H Q E h=>?_) (fun A outer s H vs Q E hr h=>?_)
 .obtain⟨n,l,h,zs,rfl,_⟩:=h;rfl
 .obtain⟨n,l,h,zs,rfl,hh,T,tb,k⟩:=h;have fi:=T.nP;have n1:=fi.n1;have fE:zs.length<=256:=by have:=fi.len;rw[cA] at this;exact this
  have LS:Kg (gu aX P w K mg base ["many","ties","house","others"] "houses_out" (ak sV) f (.ref c) A outer s H E).EE E6 Dq Dr KJ "other" "house" "many" 2 0:=
   ⟨⟨_,_,_,_,_,rfl⟩,fun _ _ _ _ _=>rfl,rfl,rfl,rfl,rfl,rfl,rfl,rfl,by decide +kernel,by decide +kernel,by decide +kernel,rfl,rfl,rfl,by decide,⟨by decide,by decide⟩,⟨by decide,by decide⟩⟩
  refine'⟨_,ag (jr (i:=3) (g:=xD K 2 (hW (cD 0) (hW (cD 1) xC))) (NB:=["one","other","house"]) (src:=[none,none,some 2]) (cJ (by kernel_rfl)) rfl (dg (pv 1)) ?g ?t ?e AL.nd rfl rfl rfl)
   (aj (aJ (ya (vv LS hr) rfl B.sorted pU (aa (pv 3) af) (Cy (Gb (NB:=["other","house","many"]) (src:=[none,some 2,some 0]) (C2 kb hb hc) (cJ (by kernel_rfl))) FU)))),?_⟩
  case g=>exact fun cl C s₃ H₃ fp=>eS (n:=2) rfl (aZ (aA (i:=0) IU rfl (Or.inl rfl) (Or.inr rfl)) (aZ (aA (i:=1) IU rfl (Or.inl rfl) (Or.inr rfl)) dA))
  case t=>exact fun cl C s₃ H₃ fp=>lP (aT o8 (pv 0) (pv 2) (be _))
  case e=>exact fun cl C s₃ H₃ fp=>pv 1
  refine⟨_,rfl,l,rfl,⟨_,bo.of T.at_⟩,fun D hD=>kO (fun σ=>∃a b,σ=[a,b,some (.int (h:Int))]) (·.1) (·.2) (h:Int) hD T.at_ T.po (by lia) ⟨_,_,rfl⟩ ?_ ?_⟩
  .rintro z σ H3 Kt Kf hj ⟨x,y,rfl⟩ ha kt kf;refine⟨z.1,_,rfl,bL.of ha,rfl,_,_,rfl,_,_,rfl,rfl,?_⟩;refine⟨_,rfl,_,rfl,rfl,_,rfl,?_⟩;refine qF (fun e=>?_) (fun e=>?_)
   .exact⟨_,rfl,kt _ ⟨_,_,rfl⟩ (by simpa using e)⟩
   .exact kf _ ⟨_,_,rfl⟩ (by simpa using e)
  .generalize TC:((zp zs).filter fun y=>decide (y.1=(h:Int))).map (·.2)=os;have ER:os.length<=8:=by rw[<-TC,a_];exact fi.most h
   have sm:aM H (upd H D (.lst (IV os))):=au hD;refine⟨_,rfl,tb.same sm,fun f' c' H2 V9 gR FG CU=>?_⟩;have t2:gC Pt H2:=V9;have fK:H2 D=some (.lst (IV os)):=gR _ _ ah ((tb.same sm).not ah (by intro ps z;cases z));refine⟨D,f',c',os,h,n,rfl,rfl,bo.of fK,(by lia),CU,FG,rfl,rfl,by lia,fun r out oM ko=>?_⟩;rw[<-TC] at ko;rw[yx fi hh ko];have yw:aM H2 (upd H2 r (.lst (NV (ci n (zp zs) h)))):=au oM;refine k r _ (t2.same yw) (fun b o e hb=>yw _ _ (gR b o (sm _ _ e) hb)) ?_ ah;cases z:H r with
   |none=>rfl
   |some o=>
    by_cases hP:r=Pt
    .rcases t2 with q|⟨_,q,_⟩ <;> · rw[<-hP,oM] at q;cases q
    .rw[gR r o (sm _ _ z) hP] at oM;cases oM
end
abbrev AM:Stmt:=e8 25
abbrev vI:Stmt:=e8 26
def iO(n:Nat)(R:List Nat)(f:Nat->Nat):List V:=(List.range n).map fun x=>if x∈R then V.int ((f x:Nat):Int) else .bV
theorem iu:(iO n R f).length=n:=by unfold iO;rw[a_,ja]
theorem iw(h:x<n):(iO n R f)[x]?=some (if x∈R then V.int ((f x:Nat):Int) else .bV):=by
 unfold iO;rw[bJ,uo h];rfl
theorem vJ(hs:s<n):(List.replicate n V.bV).set s (V.int 0)=iO n [s] (fun _=>0):=by
 apply uC;intro x;by_cases hx:x<n
 .rw[iw hx];by_cases e:x=s
  .subst e;rw[l9 (by rw[l3];exact hx),ap (by simp)];rfl
  .rw[pY (fun z=>e z.symm),List.getElem?_replicate,ap hx,am (by simp[e])]
 .rw[j5 (by rw[mz,l3];lia),j5 (by rw[iu];lia)]
theorem AN(hv:v<n):(iO n R f).set v (V.int ((k:Nat):Int))=iO n (R++[v]) (put f v k):=by
 apply uC;intro x;by_cases hx:x<n
 .rw[iw hx];by_cases e:x=v
  .subst e;rw[l9 (by rw[iu];exact hx),ap (by simp),io]
  .rw[pY (fun z=>e z.symm),iw hx,eA e];by_cases h:x∈R
   .rw[ap h,ap (kU _ h)]
   .rw[am h,am (fun z=>(cY.mp z).elim h fun z=>e (by simpa using z))]
 .rw[j5 (by rw[mz,iu];lia),j5 (by rw[iu];lia)]
def KL(σ:St):Nat:=match σ[4]? with
 |some (some (V.int z))=>z.toNat
 |_=>0
theorem V_:(["others"]:List Str).Nodup:=by decide +kernel
def nQ(H:Hp)(ol:Addr)(n:Nat)(ts:Ts):Prop:=∃bs:List Addr,H ol=some (.lst (bs.map V.ref))/\Holds H bs n (fun h=>.lst (NV (ci n ts h)))
theorem nQ.same(x:nQ H ol n ts)(e:aM H H'):nQ H' ol n ts:=let ⟨bs,a,b⟩:=x;⟨bs,e _ _ a,b.mono fun _ _ z=>e _ _ z⟩
theorem E7{as:List Addr}{i:Nat}{x:V}(h:(as.map V.ref)[i]?=some x):i<as.length/\x=.ref (as.getD i 0):=by
 rw[bJ] at h;cases e:as[i]? with
 |none=>rw[e] at h;cases h
 |some a=>
  rw[e] at h;refine⟨(cj.mp e).1,?_⟩;rw[ce,e];exact(bG h).symm
section
variable {P:Program} {w:World} {K:PySem.W.Frag} {mg:Str->Option Value} {base:Heap}
theorem jw:az ["out_lists","start","distances","reached","at","house","other"] ["out_lists","start"] (ak AM):=⟨rfl,rfl,rfl,by decide +kernel,rfl,by decide +kernel,by decide +kernel⟩
def q_:Sp:=fun vs H Q _=>∃ (ol:Addr) (n s:Nat) (ts:Ts),vs=[.ref ol,.int s]/\iN n ts/\s<n/\nQ H ol n ts/\
 ∀ (r:Addr) (H':Hp),aM H H'->H r=none->H' r=some (.lst (NV ((List.range n).map (far ts s))))->Q (.ref r) H'
theorem Du{f:Addr}{fd:FuncData}(F:dU K "distances_from" "distances_from" AM f fd)(B:Bl mg):a9 P w K mg base aX 1 f fd ["out_lists","start"] q_:=by
 refine F.ok jw (fun vs H Q E h=>?_) (fun cI A outer s H vs Q E hr h=>?_)
 .obtain⟨ol,n,s,ts,rfl,_⟩:=h;rfl
 .obtain⟨ol,n,st,ts,rfl,fi,hs,O,k⟩:=h;have n1:=fi.n1;have n2:=fi.n2;refine'⟨_,ag (jr (i:=2) (g:=cD 0) (NB:=["others"]) (src:=[none]) (cJ (by kernel_rfl)) rfl (dg (pv 0)) ?g ?t ?e jw.nd rfl rfl rfl)
   (ag (jn av (mZ (pv 2) (pv 1) h9))
   (ag (aP (i:=3) jw.nd rfl (Or.inl rfl) (hZ (aa (pv 1) af)))
   (ag (aP (i:=4) jw.nd rfl (Or.inl rfl) av)
   (ag (zu dX (aT zD (pv 4) (aF aW (by rfl) B.len fc (aa (pv 3) af)) (be _))
    (ag (aP (i:=5) jw.nd rfl (Or.inl rfl) (cZ cz (pv 3) (pv 4) (fun _ _=>rfl)))
    (ag (cy dX rfl (dg (cZ cz (pv 0) (pv 5) (fun _ _=>rfl))) (aA (i:=6) jw.nd rfl (Or.inl rfl))
     (aj (bw (aT u7 (cZ cz (pv 2) (pv 6) (fun _ _=>rfl)) gc (be _))
      (ag (jn (bb eT (cZ cz (pv 2) (pv 5) (fun _ _=>rfl)) av) (mZ (pv 2) (pv 6) h9))
      (aj (cx (nj l0 lZ lY dw (pv 3) (aa (pv 6) af))))) aN)))
    (aj (kA (i:=4) jw.nd rfl (Or.inl rfl) av zo)))))
   (aj (aJ (pv 2))))))),?_⟩
  case g=>exact fun cl C s₃ H₃ fp=>aA (i:=0) V_ rfl (Or.inl rfl) (Or.inr rfl)
  case t=>exact fun cl C s₃ H₃ fp=>cW
  case e=>exact fun cl C s₃ H₃ fp=>gc
  obtain⟨bs,ER,Ph,IN⟩:=id O;refine⟨_,rfl,ol,rfl,⟨_,bo.of ER⟩,fun D hD=>?_⟩;have Wa:ol≠D:=aq ER hD;refine fZ (xs:=bs.map V.ref) (fun i ys σ H2=>(∃a,σ=[a])/\ys=List.replicate i V.bV/\H2=upd H D (.lst ys)) ⟨⟨_,rfl⟩,rfl,rfl⟩ (fun i ys σ H2 _ ⟨_,_,e⟩=>by rw[e];exact bo.of (by rw[ao Wa];exact ER)) ?_ ?_
  .rintro i x ys σ H2 Kt Kf hx ⟨⟨a,rfl⟩,rfl,rfl⟩ kt kf;have hi:=(E7 hx).1;refine kt _ _ _ ah ?_ ⟨⟨_,rfl⟩,?_,by rw[lJ]⟩
   .rw[l3];exact bj hi (by rw[Ph];exact bn n2 (by decide))
   .rw[ui]
  .rintro ys σ H2 ⟨_,rfl,rfl⟩;rw[a_,Ph];refine⟨_,rfl,_,rfl,D,_,st,st,rfl,rfl,ah,by rw[l3];exact jT hs,?_⟩;rw[lJ,vJ hs];refine⟨_,rfl,by show 1<=sizeLine;decide,fun R hR=>?_⟩;have Np:D≠R:=aq (H:=upd H D (.lst (iO n [st] (fun _=>0)))) ah hR;have Pi:H R=none:=by rw[ao Np.symm] at hR;exact hR
   refine zy (fun σ H2=>∃ (i:Nat) (Rs:List Nat) (f:Nat->Nat),i<=Rs.length/\yp n ts st i Rs f/\(∃a b,σ=[some (.ref ol),some (.int st),some (.ref D),some (.ref R),some (.int (i:Int)),a,b])/\aM H H2/\H2 D=some (.lst (iO n Rs f))/\H2 R=some (.lst (NV Rs)))
    (fun σ _=>n-KL σ) ⟨0,[st],fun _=>0,cK _,yp.start hs,⟨none,none,rfl⟩,bT (au hD) Pi,?_,ah⟩ ?_ ?_
   .rw[ao Np,ah]
   .rintro σ H2 ⟨i,Rs,f,hi,Bf,⟨a,b,rfl⟩,sm,fK,Pj⟩;have X9:Rs.length<=n:=gx Bf.nd Bf.lt;refine⟨_,rfl,_,rfl,R,_,rfl,.inl (bo.of Pj),_,_,rfl,rfl,_,rfl,?_⟩;rw[aR];by_cases pE:i<Rs.length
    .rw[show decide ((i:Int)<((Rs.length:Nat):Int))=true by simp;lia];refine kG ?_;have hu:Rs[i]?=some Rs[i]:=cu pE;generalize Rs[i]=u at hu;have Dv:u<n:=Bf.lt u (cQ hu);have Wb:(NV Rs)[i]?=some (.int (u:Int)):=by rw[bJ,hu];rfl
     refine⟨_,rfl,_,rfl,R,_,_,_,rfl,rfl,bo.of Pj,bz Wb,?_⟩;have Nq:(bs.map V.ref)[u]?=some (.ref (bs.getD u 0)):=by
      rw[bJ,ce,cu (by rw[Ph];exact Dv)];rfl
     have Wc:=sm _ _ (IN _ Dv);refine⟨_,rfl,_,rfl,ol,_,_,_,rfl,rfl,bo.of (sm _ _ ER),bz Nq,_,rfl,⟨_,bo.of Wc⟩,?_⟩;have X_:bs.getD u 0≠D:=aq (IN _ Dv) hD;have Ya:bs.getD u 0≠R:=aq (IN _ Dv) Pi;refine m9 (K:=K) (xs:=NV (ci n ts u)) (fun j σ H3=>∃ (lC:List Nat) (f':Nat->Nat),yp n ts st i lC f'/\lC[i]?=some u/\(∀v∈(ci n ts u).take j,v∈lC/\f' v<=f' u+1)/\
      (∃b,σ=[some (.ref ol),some (.int st),some (.ref D),some (.ref R),some (.int (i:Int)),some (.int (u:Int)),b])/\aM H H3/\H3 D=some (.lst (iO n lC f'))/\H3 R=some (.lst (NV lC)))
      ⟨Rs,f,Bf,hu,fun v hv=>by simp at hv,⟨_,rfl⟩,sm,fK,Pj⟩ (fun j σ H3 _ ⟨_,_,_,_,_,_,E8,_⟩=>bo.of (E8 _ _ (IN _ Dv))) ?_ ?_
     .rintro j x σ H3 hx ⟨lC,f',Dw,z8,dn,⟨b',rfl⟩,E8,xa,Cd⟩;rw[bJ] at hx;cases hv:(ci n ts u)[j]? with
      |none=>rw[hv] at hx;cases hx
      |some v=>
       rw[hv] at hx;obtain rfl:V.int ((v:Nat):Int)=x:=bG hx;have TD:v∈ci n ts u:=cQ hv;have Nr:v<n:=Da fi Dv TD;have Wd:T ts u v:=(de fi Dv).mp TD;have tk:(ci n ts u).take (j+1)=(ci n ts u).take j++[v]:=by rw[dI,hv];rfl
       have KM:u∈lC:=cQ z8;refine⟨_,rfl,_,rfl,D,_,_,_,rfl,rfl,bo.of xa,bz (iw Nr),rfl,_,rfl,?_⟩;by_cases Gy:v∈lC
       .rw[ap Gy];refine eU ⟨lC,f',Dw,z8,fun x hx=>?_,⟨_,rfl⟩,E8,xa,Cd⟩;rw[tk] at hx;rcases cY.mp hx with z|z
        .exact dn x z
        .simp at z;subst z;exact⟨Gy,Dw.bd u z8 _ Gy⟩
       .rw[am Gy];refine kG ?_;have We:(iO n lC f')[u]?=some (.int ((f' u:Nat):Int)):=by rw[iw Dv,ap KM]
        refine⟨_,rfl,_,rfl,D,_,_,_,rfl,rfl,bo.of xa,bz We,_,_,rfl,rfl,_,rfl,_,rfl,D,_,_,_,rfl,rfl,xa,by rw[iu];exact jT Nr,?_⟩;have e1:(iO n lC f').set v (.int (((f' u:Nat):Int)+1))=iO n (lC++[v]) (put f' v (f' u+1)):=by
         rw[show ((f' u:Nat):Int)+1=((f' u+1:Nat):Int) by lia,AN Nr]
        rw[e1];have sK:(upd H3 D (.lst (iO n (lC++[v]) (put f' v (f' u+1))))) R=some (.lst (NV lC)):=by rw[ao Np.symm];exact Cd
        have KN:lC.length<=n:=gx Dw.nd Dw.lt;refine⟨_,rfl,.inl ⟨rfl,_,bo.of sK⟩,_,rfl,R,_,_,rfl,rfl,sK,by rw[aR];exact bj (show lC.length<33 by lia) (by decide),?_⟩;have EW:i<lC.length:=(cj.mp z8).1;have Wf:u≠v:=fun z=>Gy (z ▸ KM);refine⟨lC++[v],put f' v (f' u+1),Dw.add z8 Nr Wd Gy,by rw[l7 EW];exact z8,fun x hx=>?_,⟨_,rfl⟩,bT (bT E8 hD) Pi,?_,?_⟩
        .rw[eA Wf];rw[tk] at hx;rcases cY.mp hx with z|z
         .obtain⟨q1,q2⟩:=dn x z;exact⟨kU _ q1,by rw[eA (fun (z:x=v)=>Gy (z ▸ q1))];exact q2⟩
         .simp at z;subst z;exact⟨by simp,by rw[io];exact aI _⟩
        .rw[ao Np,ah]
        .rw[ah];show _=some (HO.lst (NV (lC++[v])));rw[show NV (lC++[v])=NV lC++[.int (v:Int)] by unfold NV;rw[c_];rfl]
     .rintro σ H3 ⟨lC,f',Dw,z8,dn,⟨b',rfl⟩,E8,xa,Cd⟩;rw[aR,e_] at dn;have EW:i<lC.length:=(cj.mp z8).1;have KN:lC.length<=n:=gx Dw.nd Dw.lt;refine⟨_,rfl,_,_,rfl,rfl,⟨⟨i+1,lC,f',EW,Dw.next z8 (fun v t=>dn v ((de fi Dv).mpr t)),⟨_,_,rfl⟩,E8,xa,Cd⟩,?_⟩⟩;show n-((i:Int)+1).toNat<n-(i:Int).toNat;lia
    .rw[show decide ((i:Int)<((Rs.length:Nat):Int))=false by rw[decide_eq_false_iff_not];lia];have e:iO n Rs f=NV ((List.range n).map (far ts st)):=by
      unfold iO NV;rw[dY];refine jE fun x hx=>?_;obtain⟨q1,q2⟩:=Bf.done fi (by lia) (eE.mp hx);rw[ap q1,q2];rfl
     rw[e] at fK;refine eU ⟨_,rfl,k D H2 sm hD fK⟩
   .rintro σ H2 Q1 Q2 imp ⟨v,e1,v2,e2,p,ys,e3,e4,i1,i2,e5,e6,kk,e7,q⟩;exact⟨v,e1,v2,e2,p,ys,e3,e4,i1,i2,e5,e6,kk,e7,imp _ _ q⟩
end
theorem KO:(["row"]:List Str).Nodup:=by decide +kernel
section
variable {P:Program} {w:World} {K:PySem.W.Frag} {mg:Str->Option Value} {base:Heap}
theorem Dx:az ["distances"] ["distances"] (ak vI):=⟨rfl,rfl,rfl,by decide +kernel,rfl,by decide +kernel,by decide +kernel⟩
def rd:Sp:=fun vs H Q _=>∃ (l:Addr) (ds:List Addr) (n:Nat) (o:Nat->List V),vs=[.ref l]/\H l=some (.lst (ds.map V.ref))/\n<=32/\Holds H ds n (fun j=>.lst (o j))/\(∀j,j<n->∀x∈o j,∃i,x=.int i)/\∀H',aM H H'->Q .bV H'
theorem AO(F:dU K "check_reached" "check_reached" vI f fd)(B:Bl mg):a9 P w K mg base aX 1 f fd ["distances"] rd:=by
 refine F.ok Dx (fun vs H Q E h=>?_) (fun cI A outer s H vs Q E hr h=>?_)
 .obtain⟨l,ds,n,o,rfl,_⟩:=h;rfl
 .obtain⟨l,ds,n,o,rfl,hl,n2,hh,hx,k⟩:=h;refine'⟨_,aj (bw (cw (aF (x0 rfl) (by rfl) B.any PyProof.Rows.boot_any (aa ?c af))) cm aN),?_⟩;case c=>
   refine' cL (g:=cD 0) (te:=EF (SC K false) (tC .bV) (cN 0)) (NB:=["row"]) (src:=[none]) (cJ (by kernel_rfl)) rfl (dg (pv 0)) ?g ?t ?e;case g=>exact fun cl C s₃ H₃ fp=>aA (i:=0) KO rfl (Or.inl rfl) (Or.inr rfl)
   case t=>exact fun cl C s₃ H₃ fp=>cW
   case e=>exact fun cl C s₃ H₃ fp=>gm iD gc (pv 0) rfl
  refine⟨_,rfl,l,rfl,⟨_,bo.of hl⟩,fun D hD=>?_⟩;have nl:l≠D:=aq hl hD;refine fZ (xs:=ds.map V.ref) (fun i ys σ H2=>(∃a,σ=[a])/\ys=(List.replicate i false).map V.bl/\H2=upd H D (.lst ys)) ⟨⟨_,rfl⟩,rfl,rfl⟩ (fun i ys σ H2 _ ⟨_,_,e⟩=>by rw[e];exact bo.of (by rw[ao nl];exact hl)) ?_ ?_
  .rintro i x ys σ H2 Kt Kf Wg ⟨⟨a,rfl⟩,rfl,rfl⟩ kt kf;obtain⟨hi,rfl⟩:=E7 Wg;rw[hh.1] at hi;have hd:=hh.2 i hi;have nd:ds.getD i 0≠D:=aq hd hD;have q1:(o i).all iY=true:=jH.mpr fun x oG=>by obtain⟨z,rfl⟩:=hx i hi x oG;rfl
   have q2:yY .bV (o i)=false:=by
    unfold yY;rw[uD];intro x oG;obtain⟨z,rfl⟩:=hx i hi x oG;exact fun z=>by cases z
   refine⟨_,rfl,_,_,rfl,.inl (bo.of (by rw[ao nd];exact hd)),rfl,q1,?_⟩;refine kt _ _ _ ah ?_ ⟨⟨_,rfl⟩,?_,by rw[lJ]⟩
   .rw[a_,l3];exact bj hi (bn n2 (by decide))
   .rw[ui,c_,q2];rfl
  .rintro ys σ H2 ⟨_,rfl,rfl⟩;refine⟨D,_,rfl,bo.of ah,_,rfl,?_⟩;have e:(List.replicate (ds.map V.ref).length false).any id=false:=by
    rw[uD];intro x oG;rw[(List.mem_replicate.mp oG).2];decide
   rw[e];exact eU (k _ (au hD))
end
theorem TF:(["one","other"]:List Str).Nodup:=by decide +kernel
theorem KP:(["house","many","ties"]:List Str).Nodup:=by decide +kernel
theorem Pk:(["house","self"]:List Str).Nodup:=by decide +kernel
def i4(p Pt:Addr)(H H':Hp):Prop:=∀b o,H b=some o->b≠p->b≠Pt->H' b=some o
theorem dQ.mono(h:dQ H l n zs)(e:i4 p Pt H H')(hp:H p=some (.ins C dx fs))(tb:gC Pt H):dQ H' l n zs:=
 ⟨h.nP,e _ _ h.at_ (du h.at_ hp (by intro z;cases z)) (tb.not h.at_ (by intro ps z;cases z)),fun z hz=>e _ _ (h.po z hz) (du (h.po z hz) hp (by intro z;cases z)) (tb.not (h.po z hz) (by intro ps z;cases z))⟩
theorem gC.mono(t:gC Pt H)(e:∀b o,H b=some o->b≠p->H' b=some o)(hp:H p=some (.ins C dx fs)):gC Pt H':=by
 rcases t with z|⟨c,z,y⟩
 .exact .inl (e _ _ z (du z hp (by intro q;cases q)))
 .exact .inr ⟨c,e _ _ z (du z hp (by intro q;cases q)),e _ _ y (du y hp (by intro q;cases q))⟩
theorem gC.full(t:gC Pt H):H Pt≠none:=by
 rcases t with z|⟨c,z,y⟩ <;> rw[z] <;> intro q <;> cases q
theorem i4.free(s:i4 p Pt H H')(hp:H' p≠none)(tb:gC Pt H')(h:H' r=none):H r=none:=by
 cases z:H r with
 |none=>rfl
 |some o=>
  by_cases e1:r=p
  .subst e1;exact absurd h hp
  .by_cases e2:r=Pt
   .subst e2;exact absurd h tb.full
   .rw[s r o z e1 e2] at h;cases h
theorem KQ(h:k [] H):iM σ H k:=h
theorem iI{H:Hp}{p:Addr}{o:HO}(h:H p=some o):H p≠none:=by rw[h];intro z;cases z
section
variable {P:Program} {w:World} {K:PySem.W.Frag} {mg:Str->Option Value} {base:Heap}
theorem Gz:az ["self","many","ties"] ["self","many","ties"] (ak w4):=⟨rfl,rfl,rfl,by decide +kernel,rfl,by decide +kernel,by decide +kernel⟩
def vK(C Pt:Addr):Sp:=fun vs H Q E=>∃ (p dx:Addr) (n:Nat) (l:Addr) (zs:Zs),vs=[.ref p,.int n,.ref l]/\H p=some (.ins C dx [])/\dQ H l n zs/\gC Pt H/\
  ∀H',d_ C H' (fun a=>H a=none) p n (zp zs)->gC Pt H'->i4 p Pt H H'->Q .bV H'
theorem Dy{f C Pt:Addr}{fd:FuncData}(F:dU K "__init__" "Net.__init__" w4 f fd)(T:NT K mg C)(B:Bl mg)(CT:cg P w K mg base aX 6 "check_ties" ["many","ties"] iH)(CB:cg P w K mg base aX 1 "check_balance" ["many","ties"] iH)(Wi:cg P w K mg base aX 1 "houses_out" ["many","ties","house"] (q9 Pt))(DF:cg P w K mg base aX 1 "distances_from" ["out_lists","start"] q_)(CR:cg P w K mg base aX 1 "check_reached" ["distances"] rd):
  a9 P w K mg base aX 7 f fd ["self","many","ties"] (vK C Pt):=by
 refine F.ok Gz (fun vs H Q E h=>?_) (fun cI A outer s H vs Q E hr h=>?_)
 .obtain⟨p,dx,n,l,zs,rfl,_⟩:=h;rfl
 .have xb:bt 1 _:=hr.mono (by decide);refine'⟨_,ag (cx (aw CT hr aG (aa (pv 1) (aa (pv 2) af))))
   (ag (cx (aw CB xb aG (aa (pv 1) (aa (pv 2) af))))
   (ag (kC (pv 0) (pv 1) rfl)
   (ag (kC (pv 0) (aF vB (by rfl) B.sorted pU (aa ?c1 af)) rfl)
   (ag (kC (pv 0) ?c2 rfl)
   (ag (kC (pv 0) ?c3 rfl)
   (aj (cx (aw CR xb aG (aa (dO (pv 0) rfl) af))))))))),?_⟩
  case c1=>
   refine' cL (g:=xD K 2 (hW (cD 0) (hW (cD 1) xC))) (te:=JJ (bR (cN 0) (bR (cN 1) iM))) (NB:=["one","other"]) (src:=[none,none]) (cJ (by kernel_rfl)) rfl (dg (pv 2)) ?g ?t ?e;case g=>exact fun cl C s₃ H₃ fp=>eS (n:=2) rfl (aZ (aA (i:=0) TF rfl (Or.inl rfl) (Or.inr rfl)) (aZ (aA (i:=1) TF rfl (Or.inl rfl) (Or.inr rfl)) dA))
   case t=>exact fun cl C s₃ H₃ fp=>cW
   case e=>exact fun cl C s₃ H₃ fp=>gs (aa (pv 0) (aa (pv 1) af))
  case c2=>
   refine' cL (g:=cD 0) (te:=iX (q9 Pt) [] E0 (bR (cN 1) (bR (cN 2) (bR (cN 0) iM)))) (NB:=["house","many","ties"]) (src:=[none,some 1,some 2]) (cJ (by kernel_rfl)) rfl (cn rfl B.range (aa (pv 1) af)) ?g ?t ?e;case g=>exact fun cl C s₃ H₃ fp=>aA (i:=0) KP rfl (Or.inl rfl) (Or.inr rfl)
   case t=>exact fun cl C s₃ H₃ fp=>cW
   case e=>exact fun cl C s₃ H₃ fp=>aw Wi xb aG (aa (pv 1) (aa (pv 2) (aa (pv 0) af)))
  case c3=>
   refine' cL (g:=cD 0) (te:=iX q_ [] E0 (bR (JI K (cN 1) "out_lists") (bR (cN 0) iM))) (NB:=["house","self"]) (src:=[none,some 0]) (cJ (by kernel_rfl)) rfl (cn rfl B.range (aa (pv 1) af)) ?g ?t ?e;case g=>exact fun cl C s₃ H₃ fp=>aA (i:=0) Pk rfl (Or.inl rfl) (Or.inr rfl)
   case t=>exact fun cl C s₃ H₃ fp=>cW
   case e=>exact fun cl C s₃ H₃ fp=>aw DF xb aG (aa (dO (pv 1) rfl) (aa (pv 0) af))
  obtain⟨p,dx,n,l,zs,rfl,hp,TT,tb,k⟩:=h;have fi:=TT.nP;have n1:=fi.n1;have n2:=fi.n2;have fE:zs.length<=256:=by have:=fi.len;rw[cA] at this;exact this
  refine⟨_,rfl,_,rfl,n,l,zs,rfl,TT,fun H1 s1=>?_⟩;refine⟨_,rfl,_,rfl,n,l,zs,rfl,TT.same s1,fun H2 s2=>?_⟩;have sW:aM H H2:=s1.trans s2;refine⟨_,rfl,_,rfl,p,C,dx,[],rfl,sW _ _ hp,T.cl,T.nH,(by show 0<1000;decide),?_⟩
  let G1:Hp:=upd H2 p (.ins C dx (b8 "house_count" (.int n) []))
  have d1:i4 p Pt H G1:=fun b o e h1 _=>by show upd _ _ _ _=_;rw[ao h1];exact sW _ _ e
  have Nt:G1 p=some (.ins C dx (b8 "house_count" (.int n) [])):=ah;have Pl:dQ G1 l n zs:=TT.mono d1 hp tb;have vL:gC Pt G1:=tb.mono (fun b o e h1=>by show upd _ _ _ _=_;rw[ao h1];exact sW _ _ e) hp;refine⟨_,rfl,l,rfl,⟨_,bo.of Pl.at_⟩,fun D hD=>?_⟩;refine AE (fun y=>y) (fun σ=>∃a b,σ=[a,b]) Pl.at_ Pl.po hD (by lia) ⟨_,_,rfl⟩ ?_ ?_
  .rintro z σ H3 R Kf hz ⟨a,b,rfl⟩ ha kk;refine⟨_,_,rfl,bL.of ha,rfl,_,_,rfl,_,_,rfl,rfl,?_⟩;exact⟨_,rfl,_,rfl,by show 2<=sizeLine;decide,fun t ht=>kk _ _ ⟨_,_,rfl⟩ ht⟩
  .intro TH H3 sm xa KR ez Wj;rw[List.map_id'] at ez;have Yb:TH.length=zs.length:=by rw[<-cA,ez,cA]
   refine KQ ?_;refine Di xa KR (by lia) (fun u hu=>by have:=(fi.rg u (ez ▸ hu)).2;lia) fun tl IW Pm pm Wk=>?_;have Pn:H tl=none:=d1.free (iI Nt) vL (sm.free Pm);have FO:∀z∈IW,H z.1=none:=fun z hz=>d1.free (iI Nt) vL (Wj z (pm.mem_iff.mp hz));have Po:H3 p=some (.ins C dx (b8 "house_count" (.int n) [])):=sm _ _ Nt;have GA:p≠tl:=aq Po Pm;refine⟨_,rfl,p,C,dx,_,rfl,by rw[ao GA];exact Po,T.cl,T.nT,by show 1<1000;decide,?_⟩
   let G2:Hp:=upd (upd H3 tl (.lst (zr IW))) p (.ins C dx (b8 "tie_list" (.ref tl) (b8 "house_count" (.int n) [])))
   have q2:∀b o,H3 b=some o->b≠p->G2 b=some o:=fun b o e h1=>by
    show upd _ _ _ _=_;rw[ao h1,ao (aq e Pm)];exact e
   have d2:i4 p Pt H G2:=fun b o e h1 h2=>q2 _ _ (sm _ _ (d1 _ _ e h1 h2)) h1;have TJ:G2 tl=some (.lst (zr IW)):=by show upd _ _ _ _=_;rw[ao GA.symm,ah]
   have Pp:PO G2 IW:=fun z hz=>q2 _ _ (KR z (pm.mem_iff.mp hz)) (du (KR z (pm.mem_iff.mp hz)) Po (by intro z;cases z));have GC:G2 p=some (.ins C dx (b8 "tie_list" (.ref tl) (b8 "house_count" (.int n) []))):=ah;have Wl:dQ G2 l n zs:=TT.mono d2 hp tb;have GD:gC Pt G2:=vL.mono (fun b o e h1=>q2 _ _ (sm _ _ e) h1) Nt;refine⟨_,rfl,n,rfl,by lia,by lia,fun D2 fK=>?_⟩;refine eW (n:=n) (lo:=0) (fun i ys σ H4=>(∃a,σ=[a,some (.int n),some (.ref l)])/\∃bs:List Addr,ys=bs.map V.ref/\(∀b∈bs,H b=none)/\Holds H4 bs i (fun h=>.lst (NV (ci n (zp zs) h)))/\cM Pt G2 H4/\gC Pt H4/\H4 D2=some (.lst ys)/\∀b∈bs,b≠D2)
    ⟨⟨_,rfl⟩,[],rfl,(fun _ h=>nomatch h),Holds.nil,cM.of (au fK),GD.same (au fK),ah,(fun _ h=>nomatch h)⟩ ?_ ?_
   .rintro i ys σ H4 Kt Kf hi ⟨⟨a,rfl⟩,bs,rfl,Pq,hb,AQ,IX,E9,Pr⟩ kt kf;have Wm:dQ H4 l n zs:=Wl.mono (p:=p) (fun b o e _ h2=>AQ _ _ e h2) GC GD;have IY:=AQ _ _ GC (GD.not GC (by intro ps z;cases z));refine⟨_,rfl,_,rfl,_,rfl,n,l,i,zs,by rw[fz];rfl,hi,Wm,IX,fun r H5 t5 rM Ps Nu=>?_⟩;have Pu:H r=none:=i4.free (fun b o e h1 h2=>AQ _ _ (d2 _ _ e h1 h2) h2) (iI IY) IX Ps;have Nv:H5 D2=some (.lst (bs.map V.ref)):=rM _ _ E9 (IX.not E9 (by intro ps z;cases z));have KS:r≠D2:=by rintro rfl;rw[E9] at Ps;cases Ps
    have i5:∀b o ss,H5 b=some o->b≠D2->(upd H5 D2 ss) b=some o:=fun b o ss e h=>by rw[ao h];exact e
    refine kt _ _ _ Nv (by rw[a_,hb.1];exact bj hi (bn n2 (by decide))) ⟨⟨_,rfl⟩,bs++[r],by rw[c_];rfl,?_,?_,?_,?_,ah,?_⟩
    .intro b r6;rcases cY.mp r6 with z|z
     .exact Pq b z
     .rw[dH.mp z];exact Pu
    .refine Holds.snoc (hb.mono fun j hj e=>?_) (i5 _ _ _ Nu KS);refine i5 _ _ _ (rM _ _ e (IX.not e (by intro ps z;cases z))) (Pr _ ?_);rw[ce,cu (by rw[hb.1];exact hj)];exact jG _
    .intro b o e h;exact i5 _ _ _ (rM _ _ (AQ _ _ e h) h) (aq e fK)
    .rcases t5 with z|⟨c,z,y⟩
     .exact .inl (i5 _ _ _ z (du z Nv (by intro q;cases q)))
     .exact .inr ⟨c,i5 _ _ _ z (du z Nv (by intro q;cases q)),i5 _ _ _ y (du y Nv (by intro q;cases q))⟩
    .intro b r6;rcases cY.mp r6 with z|z
     .exact Pr b z
     .rw[dH.mp z];exact KS
   .rintro ys σ H4 ⟨_,bs,rfl,Pq,hb,AQ,IX,E9,Pr⟩;have IY:H4 p=some (.ins C dx (b8 "tie_list" (.ref tl) (b8 "house_count" (.int n) []))):=AQ _ _ GC (GD.not GC (by intro ps z;cases z));have Pw:H D2=none:=d2.free (iI GC) GD fK;refine⟨_,rfl,p,C,dx,_,rfl,IY,T.cl,T.nO,by have h1:=cT "tie_list" (V.ref tl) (b8 "house_count" (V.int n) []);have h2:=cT "house_count" (V.int n) [];simp at h2;lia,?_⟩
    let G3:Hp:=upd H4 p (.ins C dx (b8 "out_lists" (.ref D2) (b8 "tie_list" (.ref tl) (b8 "house_count" (.int n) []))))
    have q3:∀b o,H4 b=some o->b≠p->G3 b=some o:=fun b o e h1=>by show upd _ _ _ _=_;rw[ao h1];exact e
    have GE:G3 p=some (.ins C dx (b8 "out_lists" (.ref D2) (b8 "tie_list" (.ref tl) (b8 "house_count" (.int n) [])))):=ah;have d3:i4 p Pt H G3:=fun b o e h1 h2=>q3 _ _ (AQ _ _ (d2 _ _ e h1 h2) h2) h1;have Px:gC Pt G3:=IX.mono q3 IY;have TN:Holds G3 bs n (fun h=>.lst (NV (ci n (zp zs) h))):=hb.mono fun j hj e=>q3 _ _ e (du e IY (by intro z;cases z));have Py:G3 D2=some (.lst (bs.map V.ref)):=q3 _ _ E9 (du E9 IY (by intro z;cases z));have O3:nQ G3 D2 n (zp zs):=⟨bs,Py,TN⟩
    refine⟨_,rfl,n,rfl,by lia,by lia,fun D3 AR=>?_⟩;refine eW (n:=n) (lo:=0) (fun i ys σ H6=>(∃a,σ=[a,some (.ref p)])/\∃ds:List Addr,ys=ds.map V.ref/\(∀b∈ds,H b=none)/\Holds H6 ds i (fun s=>.lst (NV ((List.range n).map (far (zp zs) s))))/\aM G3 H6/\H6 D3=some (.lst ys)/\∀b∈ds,b≠D3)
     ⟨⟨_,rfl⟩,[],rfl,(fun _ h=>nomatch h),Holds.nil,au AR,ah,(fun _ h=>nomatch h)⟩ ?_ ?_
    .rintro i ys σ H6 Kt Kf hi ⟨⟨a,rfl⟩,ds,rfl,Pz,hd,Dz,GG,JF⟩ kt kf;refine⟨_,rfl,p,C,dx,_,_,rfl,Dz _ _ GE,T.cl,T.nO,by rw[aK,ap rfl],_,rfl,D2,n,i,zp zs,by rw[fz];rfl,fi,hi,O3.same Dz,fun r H7 PB PC Wn=>?_⟩;have Wo:H7 D3=some (.lst (ds.map V.ref)):=PB _ _ GG;have KS:r≠D3:=by rintro rfl;rw[GG] at PC;cases PC
     have Pu:H r=none:=i4.free (fun b o e h1 h2=>Dz _ _ (d3 _ _ e h1 h2)) (iI (Dz _ _ GE)) (Px.same Dz) PC;have i5:∀b o ss,H7 b=some o->b≠D3->(upd H7 D3 ss) b=some o:=fun b o ss e h=>by rw[ao h];exact e
     refine kt _ _ _ Wo (by rw[a_,hd.1];exact bj hi (bn n2 (by decide))) ⟨⟨_,rfl⟩,ds++[r],by rw[c_];rfl,?_,?_,?_,ah,?_⟩
     .intro b r6;rcases cY.mp r6 with z|z
      .exact Pz b z
      .rw[dH.mp z];exact Pu
     .refine Holds.snoc (hd.mono fun j hj e=>?_) (i5 _ _ _ Wn KS);refine i5 _ _ _ (PB _ _ e) (JF _ ?_);rw[ce,cu (by rw[hd.1];exact hj)];exact jG _
     .intro b o e;exact i5 _ _ _ (PB _ _ (Dz _ _ e)) (aq e AR)
     .intro b r6;rcases cY.mp r6 with z|z
      .exact JF b z
      .rw[dH.mp z];exact KS
    .rintro ys σ H6 ⟨_,ds,rfl,Pz,hd,Dz,GG,JF⟩;have KT:=Dz _ _ GE;refine⟨_,rfl,p,C,dx,_,rfl,KT,T.cl,T.nD,by have h1:=cT "tie_list" (V.ref tl) (b8 "house_count" (V.int n) []);have h2:=cT "house_count" (V.int n) [];have h3:=cT "out_lists" (V.ref D2) (b8 "tie_list" (V.ref tl) (b8 "house_count" (V.int n) []));simp at h2;lia,?_⟩;have q4:∀b o u,H6 b=some o->b≠p->(upd H6 p u) b=some o:=fun b o u e h1=>by rw[ao h1];exact e
     refine⟨_,rfl,p,C,dx,_,_,rfl,ah,T.cl,T.nD,by rw[aK,ap rfl],D3,ds,n,fun s=>NV ((List.range n).map (far (zp zs) s)),rfl,q4 _ _ _ GG (du GG KT (by intro z;cases z)),n2,hd.mono fun j hj e=>q4 _ _ _ e (du e KT (by intro z;cases z)),fun j hj x hx=>?_,fun H8 s8=>?_⟩
     .obtain⟨y,hy,rfl⟩:=bg.mp hx;exact⟨_,rfl⟩
     .have up:∀b o,G3 b=some o->b≠p->H8 b=some o:=fun b o e h1=>s8 _ _ (q4 _ _ _ (Dz _ _ e) h1);have PD:H D3=none:=d3.free (iI GE) Px AR;have TQ:∀b o,G2 b=some o->b≠p->b≠Pt->H8 b=some o:=fun b o e h1 h2=>up _ _ (q3 _ _ (AQ _ _ e h2) h1) h1;refine k H8 ⟨fi,dx,tl,D2,D3,s8 _ _ ah,Pw,PD,⟨bs,up _ _ Py (du Py GE (by intro z;cases z)),Pq,TN.mono fun j hj e=>up _ _ e (du e GE (by intro z;cases z))⟩,
       ⟨ds,s8 _ _ (q4 _ _ _ GG (du GG KT (by intro z;cases z))),Pz,hd.mono fun j hj e=>s8 _ _ (q4 _ _ _ e (du e KT (by intro z;cases z)))⟩,
       ⟨Pn,IW,TQ _ _ TJ GA.symm (GD.not TJ (by intro ps z;cases z)),fun z hz=>TQ _ _ (Pp z hz) (du (Pp z hz) GC (by intro z;cases z)) (GD.not (Pp z hz) (by intro ps z;cases z)),FO,((show (zp IW).Perm (zp TH) from pm.map _).trans (ql ez)),Wk⟩⟩ ?_ fun b o e h1 h2=>up _ _ (d3 _ _ e h1 h2) h1
      exact Px.mono up GE
end
theorem iJ:NV xs++[.int (x:Int)]=NV (xs++[x]):=by unfold NV;rw[c_];rfl
theorem i6{xs:List Nat}{i:Nat}{x:V}(h:(NV xs)[i]?=some x):∃y,xs[i]?=some y/\x=.int (y:Int):=by
 unfold NV at h;rw[bJ] at h;cases e:xs[i]? with
 |none=>rw[e] at h;cases h
 |some z=>rw[e] at h;exact⟨z,rfl,(bG h).symm⟩
end nM
namespace L2
open PySem PySem.Spec PyProof.Rows
section
variable {X:Cx}
def DA(X:Cx)(H:Hp)(d:Nat)(x y:V):Prop:=∀ (ae:List (Addr×Obj)) (s:Shared) (σ:St) (A:Around) (u v:Value),aD X ae σ H s->A.units+d<cLine->bh x u->bh y v->SeqAt.EqAt A s u v true
theorem xc:DA X H 0 (.int i) (.int i):=by
 intro ae s σ A u v I hu rx ry;have h:=vf (A:=A) (s:=s) rx ry rfl rfl;rw[show wr (.int i) (.int i)=true by show decide (i=i)=true;simp] at h;exact h
theorem iK(I:aD X ae σ H s)(hu:A.units+d<cLine)(rx:aS xs us)(ry:aS ys vs)(he:∀i,i<xs.length->i<ys.length->DA X H d (xs.getD i .bV) (ys.getD i .bV)):∀j (h1:j<us.toArray.size) (h2:j<vs.toArray.size),SeqAt.EqAt A s us.toArray[j] vs.toArray[j] true:=by
 intro j h1 h2;have j1:j<xs.length:=by rw[rx.length];simpa using h1
 have j2:j<ys.length:=by rw[ry.length];simpa using h2
 have e1:xs[j]?=some (xs.getD j .bV):=by rw[ce,cu j1];rfl
 have e2:ys[j]?=some (ys.getD j .bV):=by rw[ce,cu j2];rfl
 obtain⟨u,OS,ru⟩:=rx.get e1;obtain⟨v,CW,rv⟩:=ry.get e2;have eu:us.toArray[j]=u:=by
  have:us[j]?=some us.toArray[j]:=by simp at h1 |-
  rw[OS] at this;exact(bG this).symm
 have ev:vs.toArray[j]=v:=by
  have:vs[j]?=some vs.toArray[j]:=by simp at h2 |-
  rw[CW] at this;exact(bG this).symm
 rw[eu,ev];exact he j j1 j2 ae s σ A u v I hu ru rv
theorem jX:(List.range n).all (fun _=>true)=true:=jH.mpr fun _ _=>rfl
def KU(X:Cx)(FZ:Bool)(d:Nat):R2:=fun x y H Q=>∃p q xs ys,x=.ref p/\y=.ref q/\bL X.K H p xs/\bL X.K H q ys/\xs.length=ys.length/\(∀i,i<xs.length->i<ys.length->DA X H d (xs.getD i .bV) (ys.getD i .bV))/\Q (.bl (!FZ)) H
theorem DB(hu:X.A.units+(d+1)<cLine):jO X (compareOp .Eq) (KU X false d):=by
 intro ae s σ H x y v u Q I rx ry h;obtain⟨p,q,xs,ys,rfl,rfl,hp,hq,hl,he,k⟩:=h;obtain rfl:v=Value.ref p:=rx;obtain rfl:u=Value.ref q:=ry;obtain⟨us,r1,p1,_⟩:=I.tuple hp;obtain⟨vs,r2,p2,_⟩:=I.tuple hq;have e:(us.toArray.size==vs.toArray.size)=true:=by simp only[cp];rw[<-r1.length,<-r2.length,hl];simp
 refine SeqAt.eq_tupleAt (e:=fun _=>true) (show s.heap.IsTuple p us.toArray from p1) (show s.heap.IsTuple q vs.toArray from p2) (by lia) (iK I (by show X.A.units+1+d<cLine;lia) r1 r2 he) ⟨.bl _,H,I,rfl,?_⟩;rw[jX,e];exact k
theorem lV{d:Nat}(hu:X.A.units+(d+1)<cLine):jO X (compareOp .NotEq) (KU X true d):=by
 intro ae s σ H x y v u Q I rx ry h;obtain⟨p,q,xs,ys,rfl,rfl,hp,hq,hl,he,k⟩:=h;obtain rfl:v=Value.ref p:=rx;obtain rfl:u=Value.ref q:=ry;obtain⟨us,r1,p1,_⟩:=I.tuple hp;obtain⟨vs,r2,p2,_⟩:=I.tuple hq;have e:(us.toArray.size==vs.toArray.size)=true:=by simp only[cp];rw[<-r1.length,<-r2.length,hl];simp
 refine SeqAt.RcNeAt.tuples (e:=fun _=>true) (show s.heap.IsTuple p us.toArray from p1) (show s.heap.IsTuple q vs.toArray from p2) (by lia) (iK I (by show X.A.units+1+d<cLine;lia) r1 r2 he) _ _ _ _ ⟨.bl _,H,I,rfl,?_⟩;rw[jX,e];exact k
def E_(X:Cx)(FZ:Bool)(d:Nat):R2:=fun x y H Q=>∃p q xs ys,x=.ref p/\y=.ref q/\bo X.K H p xs/\bo X.K H q ys/\xs.length=ys.length/\(∀i,i<xs.length->i<ys.length->DA X H d (xs.getD i .bV) (ys.getD i .bV))/\Q (.bl (!FZ)) H
theorem DC{d:Nat}(hu:X.A.units+(d+1)<cLine):jO X (compareOp .NotEq) (E_ X true d):=by
 intro ae s σ H x y v u Q I rx ry h;obtain⟨p,q,xs,ys,rfl,rfl,hp,hq,hl,he,k⟩:=h;obtain rfl:v=Value.ref p:=rx;obtain rfl:u=Value.ref q:=ry;obtain⟨us,r1,p1,_⟩:=I.list hp;obtain⟨vs,r2,p2,_⟩:=I.list hq;refine SeqAt.RcNeAt.lists (e:=fun _=>true) p1.isList p2.isList (by simp only[cp];rw[<-r1.length,<-r2.length];exact hl) (by lia) (iK I (by show X.A.units+1+d<cLine;lia) r1 r2 he) _ _ _ _ ⟨.bl _,H,I,rfl,?_⟩;rw[jX];exact k
end
end L2
namespace nM
open PySem L2 im
section
variable {P:Program} {w:World} {K:PySem.W.Frag} {mg:Str->Option Value} {base:Heap}
theorem GJ:az ["self"] ["self"] (ak AF):=⟨rfl,rfl,rfl,by decide +kernel,rfl,by decide +kernel,by decide +kernel⟩
def vM(C:Addr):Sp:=fun vs H Q _=>∃ (L:Addr->Prop) (p:Addr) (n:Nat) (ts:Ts),vs=[.ref p]/\d_ C H L p n ts/\Q (.int n) H
theorem DD{f C:Addr}{fd:FuncData}(F:dU K "many" "Net.many" AF f fd)(T:NT K mg C):a9 P w K mg base aX 1 f fd ["self"] (vM C):=by
 refine F.ok GJ (fun vs H Q E h=>?_) (fun cI A outer s H vs Q E hr h=>?_)
 .obtain⟨L,p,n,ts,rfl,_⟩:=h;rfl
 .obtain⟨L,p,n,ts,rfl,N,k⟩:=h;obtain⟨dx,tl,ol,ds,h1,_⟩:=N.ob;refine⟨_,aj (aJ (dO (pv 0) rfl)),?_⟩;exact⟨_,rfl,p,C,dx,_,_,rfl,h1,T.cl,T.nH,w5 _ _ _ _,k⟩
end
end nM
namespace L2
open PySem PySem.Spec PyProof.Rows
theorem vN{X:Cx}:M8 X .Mult (fun x y H Q=>∃i j,x=.int i/\y=.int j/\Co i j/\Q (.int (i*j)) H):=by
 intro ae s σ H x y v u Q I r1 r2 h;obtain⟨i,j,e1,e2,c,q⟩:=h;subst e1;subst e2;obtain⟨t,rfl⟩:=r1;obtain⟨t',rfl⟩:=r2;exact imul_int ⟨.int _,H,I.tok _,⟨_,rfl⟩,q⟩ c.ok
end L2
namespace nM
open PySem L2 im
abbrev AS:Stmt:=e8 31
abbrev re:Stmt:=e8 32
abbrev rf:Stmt:=e8 34
abbrev rh:Stmt:=e8 35
abbrev AU:Stmt:=e8 36
def pO(ns:List Nat):Nat:=ns.foldl (·*·) 1
theorem vO{ns:List Nat}{x:Nat}:pO (ns++[x])=pO ns*x:=by unfold pO;rw[List.foldl_append];rfl
theorem AV{ns:List Nat}:pO ns=pr ns:=by
 have go:∀ (l:List Nat) (a:Nat),l.foldl (·*·) a=a*pr l:=fun l=>by
  induction l with
  |nil=>intro a;exact(kl a).symm
  |cons x l ih=>intro a;rw[qk,ih];show a*x*pr l=a*(x*pr l);rw[qp]
 unfold pO;rw[go,qx]
theorem fJ.weak{H:Hp}{L L':Addr->Prop}{l:Addr}{n:Nat}{r:Nat->List Nat}(R:fJ H L l n r)(h:∀a,L a->L' a):fJ H L' l n r:=let ⟨bs,a,b,c⟩:=R;⟨bs,a,fun x hx=>h _ (b x hx),c⟩
theorem d_.weak{C:Addr}{H:Hp}{L L':Addr->Prop}{p:Addr}{n:Nat}{ts:Ts}(N:d_ C H L p n ts)(h:∀a,L a->L' a):d_ C H L' p n ts:=
 let ⟨dx,tl,ol,ds,a,l1,l2,b,c,d1,zs,d2,d3,d4,d5⟩:=N.ob
 ⟨N.nP,dx,tl,ol,ds,a,h _ l1,h _ l2,b.weak h,c.weak h,h _ d1,zs,d2,d3,fun z hz=>h _ (d4 z hz),d5⟩
def ll(H:Hp)(D:Addr)(ts:Ts)(H2:Hp):Prop:=aM H H2/\∃zs:Zs,H2 D=some (.lst (zr zs))/\PO H2 zs/\zp zs=ts
theorem ll.add{H H2:Hp}{D t:Addr}{ts:Ts}{u:Int×Int}{zs:Zs}(hD:H D=none)(sm:aM H H2)(h1:H2 D=some (.lst (zr zs)))(po:PO H2 zs)(ez:zp zs=ts)(ht:H2 t=none):ll H D (ts++[u]) (upd (upd H2 t (IT u)) D (.lst (zr zs++[.ref t]))):=by
 have nD:D≠t:=aq h1 ht;refine⟨bT (sm.trans (au ht)) hD,zs++[(t,u)],by rw[ah,pK];rfl,?_,?_⟩
 .refine PO.putL (xs:=zr zs) ?_ (by rw[ao nD];exact h1);exact(po.putN ht).append (PO.one ah)
 .rw[pL,ez];rfl
section
variable {P:Program} {w:World} {K:PySem.W.Frag} {mg:Str->Option Value} {base:Heap}
abbrev yy(C Pt:Addr)(H:Hp)(n:Nat)(ts:Ts)(Q:VK):Prop:=∀ (p:Addr) (H':Hp),H p=none->d_ C H' (fun a=>H a=none) p n ts->gC Pt H'->cM Pt H H'->Q (.ref p) H'
theorem ix:az ["many","pairs","ties","pair","one","other"] ["many","pairs"] (ak re):=⟨rfl,rfl,rfl,by decide +kernel,rfl,by decide +kernel,by decide +kernel⟩
def nR(C Pt:Addr):Sp:=fun vs H Q _=>∃ (n:Nat) (l:Addr) (zs:Zs),vs=[.int n,.ref l]/\H l=some (.lst (zr zs))/\PO H zs/\iN n (jB (zp zs))/\gC Pt H/\yy C Pt H n (jB (zp zs)) Q
theorem yz{f C Pt fI:Addr}{fd TR:FuncData}(F:dU K "pairs_net" "pairs_net" re f fd)(B:Bl mg)(T:NT K mg C)(M:Mk K C fI)(bI:fV K TR ["self","many","ties"] [])(GI:a9 P w K mg base aX 7 fI TR ["self","many","ties"] (vK C Pt))(R:cg P w K mg base aX 1 "is_row" ["thing","length"] (sS K)):
  a9 P w K mg base aX 9 f fd ["many","pairs"] (nR C Pt):=by
 refine F.ok ix (fun vs H Q E h=>?_) (fun cI A outer s H vs Q E hr h=>?_)
 .obtain⟨n,l,zs,rfl,_⟩:=h;rfl
 .obtain⟨n,l,zs,rfl,hl,po,fi,tb,k⟩:=h;have h1:bt 1 _:=hr.mono (by decide);refine⟨_,ag (bw (cH (cw (aF d7 (by rfl) B.E4 kR (aa (pv 1) (aa (fk (v:=.ty "list") rfl B.lst ue rfl) af))))) cm aN)
   (ag (aP (i:=2) ix.nd rfl (Or.inl rfl) (hZ af))
   (ag (cy dX rfl (dg (pv 1)) (aA (i:=3) ix.nd rfl (Or.inl rfl))
    (ag (bw (cH (cw (aw R h1 aG (aa (pv 3) (aa av af))))) cm aN)
    (ag (jn (pv 3) (eS (n:=2) rfl (aZ (aA (i:=4) ix.nd rfl (Or.inl rfl)) (aZ (aA (i:=5) ix.nd rfl (Or.inl rfl)) dA))))
    (ag (cx (nj l0 lZ lY dw (pv 2) (aa (gs (aa (pv 4) (aa (pv 5) af))) af)))
    (aj (cx (nj l0 lZ lY dw (pv 2) (aa (gs (aa (pv 5) (aa (pv 4) af))) af))))))))
   (aj (aJ (wm M GI hr rfl T.Pg bI .nil aG (aa (pv 0) (aa (pv 2) af))))))),?_⟩
  have fE:2*zs.length<=256:=by have:=fi.len;rw[qT,cA] at this;exact this
  refine⟨_,rfl,_,_,_,.type "list",true,rfl,⟨rfl,sU⟩,.of (.lst hl),_,rfl,eU ?_⟩;refine⟨by show 0<=sizeLine;decide,fun D hD=>?_⟩;refine⟨_,rfl,l,rfl,⟨_,bo.of (au hD _ _ hl)⟩,m9 (K:=K) (xs:=zr zs) (fun i σ H2=>(∃x3 x4 x5,σ=[some (.int n),some (.ref l),some (.ref D),x3,x4,x5])/\ll H D (jB ((zp zs).take i)) H2) ⟨⟨_,_,_,rfl⟩,au hD,[],ah,PO.nil,rfl⟩ (fun i σ H2 _ z=>bo.of (z.2.1 _ _ hl)) ?_ ?_⟩
  .rintro i x σ H2 hx ⟨⟨x3,x4,x5,rfl⟩,yw,ys,hy,PF,ey⟩;obtain⟨z,hz,rfl⟩:=q8 hx;have hi:i<zs.length:=(cj.mp hz).1;have ha:=yw _ _ (po z (cQ hz));have KW:ys.length<=256:=by rw[<-cA,ey,qT,gX,cA];lia
   refine⟨_,rfl,_,_,_,rfl,.tup ha,_,rfl,eU ?_⟩;refine⟨_,rfl,_,_,rfl,bL.of ha,rfl,_,_,rfl,_,_,rfl,rfl,?_⟩;refine⟨_,rfl,.inl ⟨rfl,_,bo.of hy⟩,_,rfl,_,rfl,by show 2<=sizeLine;decide,fun t ht=>?_⟩;refine⟨D,_,_,rfl,rfl,au ht _ _ hy,by rw[ir];exact fL KW (by decide),?_⟩;obtain⟨E8,Wp,PJ,KR,TU⟩:=ll.add (u:=z.2) hD yw hy PF ey ht;have PM:Wp.length=ys.length+1:=by rw[<-cA,TU,<-ey,iQ,cA];rfl
   generalize upd (upd H2 t _) D _=H3 at *;refine⟨_,rfl,.inl ⟨rfl,_,bo.of PJ⟩,_,rfl,_,rfl,by show 2<=sizeLine;decide,fun t2 GK=>?_⟩;refine⟨D,_,_,rfl,rfl,au GK _ _ PJ,by rw[ir,PM];exact fL (Nat.succ_le_succ KW) (by decide),⟨_,_,_,rfl⟩,?_⟩;have P4:=ll.add (u:=wU z.2) hD E8 PJ KR TU GK;have e2:(zp zs)[i]?=some z.2:=by unfold zp;rw[bJ,hz];rfl
   rw[dI,e2,mm,vD];rw[cq] at P4;exact P4
  .rintro σ H2 ⟨⟨x3,x4,x5,rfl⟩,yw,ys,hy,PF,ey⟩;rw[ir,<-cA,e_] at ey;refine⟨_,rfl,_,rfl,fun px dx nx PP PQ=>?_⟩;have sN:aM H2 (upd (upd H2 dx (.own px)) px (.ins C dx [])):=(au (o:=.own px) PP).trans (au (D:=px) (o:=.ins C dx []) (by rw[ao PQ.symm];exact nx));have Wq:(upd (upd H2 dx (.own px)) px (.ins C dx [])) px=some (.ins C dx []):=ah;have sM:=yw.trans sN;generalize upd (upd H2 dx (.own px)) px (.ins C dx [])=HM at *;have TM:dQ HM D n ys:=⟨by rw[ey];exact fi,sN _ _ hy,PF.same sN⟩
   refine⟨px,dx,n,D,ys,rfl,Wq,TM,tb.same sM,fun H7 N7 t7 s7=>⟨rfl,?_⟩⟩;have TV:H px=none:=yw.free nx;rw[ey] at N7;exact k px H7 TV (N7.weak fun a ha=>sM.free ha) t7 fun b o e h=>s7 _ _ (sM _ _ e) (aq e TV) h
theorem pP{o:Option Int}{a b:Nat}(h:aO o a b=true):∃n:Nat,a<=n/\n<=b/\o=some (n:Int):=by
 cases o with
 |none=>cases h
 |some i=>
  unfold aO at h;simp at h;exact⟨i.toNat,by lia,by lia,by congr 1;lia⟩
theorem yy.same{C Pt:Addr}{H H1:Hp}{n:Nat}{ts:Ts}{Q:VK}(k:yy C Pt H n ts Q)(s:aM H H1):yy C Pt H1 n ts Q:=fun p H' hp N t st=>k p H' (s.free hp) (N.weak fun a ha=>s.free ha) t fun b o e h=>st _ _ (s _ _ e) h
end
inductive Sd (K:PySem.W.Frag) (H:Hp):V->Option (List (Option Int))->Prop where
 |tup {p:Addr} {xs:List V} {os:List (Option Int)} (h:H p=some (.tup xs)) (hl:xs.length=os.length) (e:∀ (i:Nat) x o,xs[i]?=some x->os[i]?=some o->Wh K H x o):Sd K H (.ref p) (some os)
 |no {x:V} {t:Value} (ty:IL K H x t) (h:PySem.W.kitOne K t (.type "tuple")=some false):Sd K H x none
def gQ(os:List (Option Int)):List Nat:=os.map fun o=>(o.getD 0).toNat
def box:Option (List (Option Int))->Option (List Nat)
 |none=>none
 |some os=>if decide (1<=os.length)&&(decide (os.length<=5)&&(os.all (fun o=>aO o 2 8)&&decide (pr (gQ os)<=32))) then some (gQ os) else none
theorem AW{os:List (Option Int)}{ns:List Nat}(h:box (some os)=some ns):ns=gQ os/\1<=ns.length/\ns.length<=5/\(∀x∈ns,2<=x/\x<=8)/\pr ns<=32/\os=ns.map fun (n:Nat)=>some (n:Int):=by
 unfold box at h;dsimp only at h;by_cases c:(decide (1<=os.length)&&(decide (os.length<=5)&&(os.all (fun o=>aO o 2 8)&&decide (pr (gQ os)<=32))))=true
 .rw[ap c] at h;simp only[gY,j9,jH] at c;obtain⟨c1,c2,c3,c4⟩:=c;obtain rfl:=bG h;have ex:∀o∈os,∃n:Nat,2<=n/\n<=8/\o=some (n:Int):=fun o ho=>pP (a:=2) (b:=8) (c3 o ho);refine⟨rfl,by unfold gQ;rw[a_];exact c1,by unfold gQ;rw[a_];exact c2,fun x hx=>?_,c4,?_⟩
  .obtain⟨o,ho,rfl⟩:=bg.mp hx;obtain⟨n,n1,n2,rfl⟩:=ex o ho;exact⟨by show 2<=(n:Int).toNat;lia,by show (n:Int).toNat<=8;lia⟩
  .unfold gQ;rw[dY];conv=>lhs;rw[<-gb os]
   refine jE fun o ho=>?_;obtain⟨n,n1,n2,rfl⟩:=ex o ho;show some (n:Int)=some (((n:Int).toNat:Nat):Int);exact congrArg some (by lia)
 .rw[am c] at h;cases h
section
variable {P:Program} {w:World} {K:PySem.W.Frag} {mg:Str->Option Value} {base:Heap}
theorem rj:az ["numbers","result","number"] ["numbers"] (ak AU):=⟨rfl,rfl,rfl,by decide +kernel,rfl,by decide +kernel,by decide +kernel⟩
def nU(K:PySem.W.Frag):Sp:=fun vs H Q _=>∃ (a:Addr) (ns:List Nat),vs=[.ref a]/\bL K H a (NV ns)/\(∀x∈ns,x<=1000)/\Q (.int (pr ns)) H
theorem DG{f:Addr}{fd:FuncData}(F:dU K "product" "product" AU f fd):a9 P w K mg base aX 1 f fd ["numbers"] (nU K):=by
 refine F.ok rj (fun vs H Q E h=>?_) (fun cI A outer s H vs Q E hr h=>?_)
 .obtain⟨a,ns,rfl,_⟩:=h;rfl
 .obtain⟨a,ns,rfl,hS,hx,k⟩:=h;refine⟨_,ag (aP (i:=1) rj.nd rfl (Or.inl rfl) av)
   (ag (cy dX rfl (gg (pv 0)) (aA (i:=2) rj.nd rfl (Or.inl rfl)) (aj (kA (i:=1) rj.nd rfl (Or.inl rfl) (pv 2) vN)))
   (aj (aJ (pv 1)))),?_⟩
  refine⟨_,rfl,a,rfl,⟨_,hS⟩,gj (K:=K) (xs:=NV ns) (fun i σ H2=>H2=H/\∃x,σ=[some (.ref a),some (.int (pO (ns.take i))),x]) ⟨rfl,_,rfl⟩ (fun i σ H2 _ z=>by rw[z.1];exact hS) ?_ ?_⟩
  .rintro i x σ H2 oG ⟨rfl,y,rfl⟩;obtain⟨v,hv,rfl⟩:=i6 oG;have h1:=hx v (cQ hv);refine⟨_,rfl,_,rfl,_,_,rfl,rfl,.inr ⟨by lia,by lia⟩,rfl,some (.int v),?_⟩;have tk:ns.take (i+1)=ns.take i++[v]:=by rw[dI,hv];rfl
   rw[tk,vO];rfl
  .rintro σ H2 ⟨rfl,x,rfl⟩;rw[aR,e_,AV];exact⟨_,rfl,k⟩
end
end nM
namespace im
def Fa(m:Nat)(ns:List Nat)(i:Nat):List (Nat×Nat):=(List.range i).flatMap fun j=>oO m (pr (ns.take j)) (ns.getD j 0)
theorem i7{α:Type}{f:Nat->List α}{n:Nat}:(List.range (n+1)).flatMap f=(List.range n).flatMap f++f n:=by
 rw[uM,List.flatMap_append];simp
theorem fq:∀ {ns:List Nat} {x:Nat},pr (ns++[x])=pr ns*x
 |[],x=>by show x*1=1*x;lia
 |n::ns,x=>by show n*pr (ns++[x])=n*pr ns*x;rw[fq,qp]
theorem AX{m:Nat}:∀ {ns:List Nat} {st:Nat},bx m st ns=(List.range ns.length).flatMap fun j=>oO m (st*pr (ns.take j)) (ns.getD j 0)
 |[],st=>rfl
 |n::ns,st=>by
  show oO m st n++bx m (st*n) ns=_;rw[cR,oZ,List.flatMap_cons,AX (ns:=ns)];congr 1
  .show oO m st n=oO m (st*1) n;rw[kl]
  .rw[List.flatMap_map];congr 1;funext j;show _=oO m (st*(n*pr (ns.take j))) (ns.getD j 0);rw[qp]
end im
namespace nM
open PySem L2 im
section
variable {P:Program} {w:World} {K:PySem.W.Frag} {mg:Str->Option Value} {base:Heap}
theorem nV{os:List (Option Int)}(h:(decide (1<=os.length)&&(decide (os.length<=5)&&(os.all (fun o=>aO o 2 8)&&decide (pr (gQ os)<=32))))=false):box (some os)=none:=by
 unfold box;dsimp only;rw[h];rfl
theorem GQ{os:List (Option Int)}(h:(decide (1<=os.length)&&(decide (os.length<=5)&&(os.all (fun o=>aO o 2 8)&&decide (pr (gQ os)<=32))))=true):box (some os)=some (gQ os):=by
 unfold box;dsimp only;rw[h];rfl
theorem Sd.nums{H:Hp}{p:Addr}{os:List (Option Int)}{xs:List V}(h:H p=some (.tup xs))(hl:xs.length=os.length)(e:∀ (i:Nat) x o,xs[i]?=some x->os[i]?=some o->Wh K H x o)(ha:os.all (fun o=>aO o 2 8)=true):xs=NV (gQ os)/\∀x∈gQ os,2<=x/\x<=8:=by
 have ex:∀o∈os,∃n:Nat,2<=n/\n<=8/\o=some (n:Int):=fun o ho=>pP (a:=2) (b:=8) (jH.mp ha o ho);refine⟨uC fun i=>?_,fun x hx=>?_⟩
 .unfold NV gQ;rw[bJ,bJ];cases c:xs[i]? with
  |none=>
   have:os[i]?=none:=by
    rw[List.getElem?_eq_none_iff] at c |-;lia
   rw[this];rfl
  |some x=>
   have hi:i<os.length:=by have:=(cj.mp c).1;lia
   have c2:os[i]?=some os[i]:=cu hi;obtain⟨n,n1,n2,e3⟩:=ex os[i] (jG hi);have wh:=e i x _ c c2;rw[c2,e3] at *;obtain rfl:=jv wh;show some (V.int (n:Int))=some (V.int (((n:Int).toNat:Nat):Int));rw[qc]
 .obtain⟨o,ho,rfl⟩:=bg.mp hx;obtain⟨n,n1,n2,rfl⟩:=ex o ho;exact⟨by show 2<=(n:Int).toNat;lia,by show (n:Int).toNat<=8;lia⟩
theorem sX:az ["sides","side"] ["sides"] (ak rf):=⟨rfl,rfl,rfl,by decide +kernel,rfl,by decide +kernel,by decide +kernel⟩
def nW(K:PySem.W.Frag)(CS:Addr):Sp:=fun vs H Q E=>∃ (x:V) (o:Option (List (Option Int))),vs=[x]/\Sd K H x o/\(box o=none->E (.ref CS) none H)/\(∀ns,box o=some ns->Q .bV H)
theorem yA{f CS:Addr}{fd:FuncData}(F:dU K "check_sides" "check_sides" rf f fd)(B:Bl mg)(e:Er K mg "NoShape" CS)(gM:∃t,mg "MOST_SIDES"=some (.int 5 t))(gS:∃t,mg "SHORTEST_SIDE"=some (.int 2 t))(gL:∃t,mg "LONGEST_SIDE"=some (.int 8 t))(gH:∃t,mg "MOST_HOUSES"=some (.int 32 t))(W:cg P w K mg base aX 2 "is_whole_within" ["thing","least","most"] (iq K))(PR:cg P w K mg base aX 1 "product" ["numbers"] (nU K)):a9 P w K mg base (eZ P w) 3 f fd ["sides"] (nW K CS):=by
 obtain⟨tM,gM⟩:=gM;obtain⟨tS,gS⟩:=gS;obtain⟨tL,gL⟩:=gL;obtain⟨tH,gH⟩:=gH;refine F.EN sX (fun vs H Q E h=>?_) (fun cI A outer s H vs Q E hr h=>?_)
 .obtain⟨x,o,rfl,_⟩:=h;rfl
 .obtain⟨x,o,rfl,sd,k1,k2⟩:=h;have h1:bt 1 _:=hr.mono (by decide);refine⟨_,ag (bw (PW.pt (mX (cH (cw (aF d7 (by rfl) B.E4 kR (aa (pv 0) (aa (fk (v:=.ty "tuple") rfl B.tup gT rfl) af))))) (jl (cH (cw (aw W hr aG (aa (aF aW (by rfl) B.len fc (aa (pv 0) af)) (aa av (aa (gf (v:=.int 5) rfl gM ⟨_,rfl⟩) af))))))))) (aj (ic (q:=fun H1=>E (.ref CS) none H1) rfl e.ok rfl e.at_ (aa mW af) (fun _ _ _ _ _ _ _ I m q=>h_ I m q))) aN)
   (ag (cy F3 rfl (gg (pv 0)) (aA (i:=1) sX.nd rfl (Or.inl rfl)) (aj (bw (cH (cw (aw W hr aG (aa (pv 1) (aa (gf (v:=.int 2) rfl gS ⟨_,rfl⟩) (aa (gf (v:=.int 8) rfl gL ⟨_,rfl⟩) af)))))) (aj (ic (q:=fun H1=>E (.ref CS) none H1) rfl e.ok rfl e.at_ (aa mW af) (fun _ _ _ _ _ _ _ I m q=>h_ I m q))) aN)))
   (aj (bw (aT wf (aw PR h1 aG (aa (pv 0) af)) (gf (v:=.int 32) rfl gH ⟨_,rfl⟩) (be _)) (aj (ic (q:=fun H1=>E (.ref CS) none H1) rfl e.ok rfl e.at_ (aa mW af) (fun _ _ _ _ _ _ _ I m q=>h_ I m q))) aN))),?_⟩
  cases sd with
  |no ty h=>exact⟨_,rfl,_,_,_,_,false,rfl,⟨rfl,h⟩,ty,_,rfl,kG ⟨by show 1<=sizeLine;decide,k1 rfl⟩⟩
  |@tup p xs os hp hl ew=>
   refine⟨_,rfl,_,_,_,.type "tuple",true,rfl,⟨rfl,qZ⟩,.of (.tup hp),_,rfl,eU ?_⟩;refine⟨_,rfl,p,xs,rfl,.inr (bL.of hp),_,_,1,5,rfl,.int _,_,rfl,?_⟩;cases hw:aO (some ((xs.length:Nat):Int)) 1 5 with
   |false=>
    refine kG ⟨by show 1<=sizeLine;decide,k1 (nV ?_)⟩;unfold aO at hw;simp at hw;by_cases c:1<=os.length
    .rw[cf c,eN (show ¬ os.length<=5 by lia)];rfl
    .rw[eN c];rfl
   |true=>
    have vC:1<=os.length/\os.length<=5:=by unfold aO at hw;simp at hw;lia
    refine eU ⟨_,rfl,p,rfl,⟨_,bL.of hp⟩,gj (K:=K) (xs:=xs) (fun i σ H2=>H2=H/\(∃v,σ=[some (.ref p),v])/\∀j o,j<i->os[j]?=some o->aO o 2 8=true) ⟨rfl,⟨_,rfl⟩,fun j o hj=>absurd hj (by lia)⟩ (fun i σ H2 _ z=>by rw[z.1];exact bL.of hp) ?_ ?_⟩
    .rintro i v σ H2 hv ⟨rfl,⟨v',rfl⟩,pE⟩;have hi:i<os.length:=by have:=(cj.mp hv).1;lia
     have ho:os[i]?=some os[i]:=cu hi;refine⟨_,rfl,_,_,2,8,rfl,ew i v _ hv ho,_,rfl,?_⟩;cases hc:aO os[i] 2 8 with
     |false=>
      refine kG ⟨by show 1<=sizeLine;decide,k1 (nV ?_)⟩;have:os.all (fun o=>aO o 2 8)=false:=by
       rw[List.all_eq_false];exact⟨os[i],jG hi,by rw[hc];decide⟩
      rw[cf vC.1,cf vC.2,this];rfl
     |true=>
      refine eU ⟨rfl,⟨_,rfl⟩,fun j o hj PU=>?_⟩;by_cases c:j=i
      .subst c;rw[ho] at PU;obtain rfl:=bG PU;exact hc
      .exact pE j o (by lia) PU
    .rintro σ H2 ⟨rfl,⟨v',rfl⟩,pE⟩;have ha:os.all (fun o=>aO o 2 8)=true:=jH.mpr fun o ho=>by
      obtain⟨j,hj,rfl⟩:=pX.mp ho;exact pE j _ (by lia) (cu hj)
     obtain⟨ex,hx⟩:=Sd.nums hp hl ew ha;subst ex;refine⟨_,rfl,p,gQ os,rfl,bL.of hp,fun x oG=>by have:=hx x oG;lia,_,_,rfl,rfl,_,rfl,?_⟩;refine qF (fun c=>?_) (fun c=>?_)
     .have c':(32:Int)<((pr (gQ os):Nat):Int):=by simpa using c
      refine⟨by show 1<=sizeLine;decide,k1 (nV ?_)⟩;rw[cf vC.1,cf vC.2,ha,eN (by lia)];rfl
     .have c':¬ (32:Int)<((pr (gQ os):Nat):Int):=by simpa using c
      exact k2 _ (GQ (by rw[cf vC.1,cf vC.2,ha,cf (by lia)];rfl))
end
theorem xf{A B:Prop}{b:Bool}(hb:b=true)(h:A):if b=true then A else B:=by rw[ap hb];exact h
theorem ee{A B:Prop}{b:Bool}(hb:b=false)(h:B):if b=true then A else B:=by rw[am (by rw[hb];decide)];exact h
theorem AY{m st n:Nat}:oO (m+1) st n=oO m st n++(if m / st % n+1<n then [(m,m+st)] else []):=by
 unfold oO;rw[uM,uy,c_,jd];by_cases c:m / st % n+1<n
 .rw[ap (cf c),ap c];rfl
 .rw[am (by simpa using c),am c];rfl
theorem jx:∀ {ns:List Nat} {i:Nat},(∀x∈ns,1<=x)->pr (ns.take i)<=pr ns
 |[],i,_=>by rw[List.take_nil];exact aI _
 |n::ns,0,h=>by
  show 1<=n*pr ns;have:∀ {l:List Nat},(∀x∈l,1<=x)->1<=pr l:=fun {l}=>by
   induction l with
   |nil=>intro _;exact aI _
   |cons x l ih=>intro hl;exact kj (hl x bX) (ih fun y hy=>hl y (bA _ hy))
  exact this (l:=n::ns) h
 |n::ns,i+1,h=>by
  show n*pr (ns.take i)<=n*pr ns;exact gW n (jx fun x hx=>h x (bA _ hx))
section
variable {P:Program} {w:World} {K:PySem.W.Frag} {mg:Str->Option Value} {base:Heap}
theorem f_:az ["sides","pairs","step","side","house"] ["sides"] (ak rh):=⟨rfl,rfl,rfl,by decide +kernel,rfl,by decide +kernel,by decide +kernel⟩
def nX:Sp:=fun vs H Q _=>∃ (a:Addr) (ns:List Nat),vs=[.ref a]/\H a=some (.tup (NV ns))/\ns.length<=5/\(∀x∈ns,2<=x/\x<=8)/\pr ns<=32/\∀ (r:Addr) (zs:Zs) (H':Hp),aM H H'->H r=none->H' r=some (.lst (zr zs))->PO H' zs->zp zs=(gy ns).map lT->Q (.ref r) H'
theorem yB{f:Addr}{fd:FuncData}(F:dU K "box_pairs" "box_pairs" rh f fd)(B:Bl mg)(PR:cg P w K mg base aX 1 "product" ["numbers"] (nU K)):a9 P w K mg base aX 2 f fd ["sides"] nX:=by
 refine F.ok f_ (fun vs H Q E h=>?_) (fun cI A outer s H vs Q E hr h=>?_)
 .obtain⟨a,ns,rfl,_⟩:=h;rfl
 .obtain⟨a,ns,rfl,ha,hl,hn,hm,k⟩:=h;refine⟨_,ag (aP (i:=1) f_.nd rfl (Or.inl rfl) (hZ af))
   (ag (aP (i:=2) f_.nd rfl (Or.inl rfl) av)
   (ag (cy dX rfl (gg (pv 0)) (aA (i:=3) f_.nd rfl (Or.inl rfl))
    (ag (cy dX rfl (cn rfl B.range (aa (aw PR hr aG (aa (pv 0) af)) af)) (aA (i:=4) f_.nd rfl (Or.inl rfl))
     (aj (bw (aT zD (bb eT (bb gl (bb lL (pv 4) (pv 2)) (pv 3)) av) (pv 3) (be _))
      (aj (cx (nj l0 lZ lY dw (pv 1) (aa (gs (aa (pv 4) (aa (bb eT (pv 4) (pv 2)) af))) af)))) aN)))
    (aj (kA (i:=2) f_.nd rfl (Or.inl rfl) (pv 3) vN))))
   (aj (aJ (pv 1))))),?_⟩
  refine⟨by show 0<=sizeLine;decide,fun D hD=>?_⟩;have s0:=au (o:=.lst []) hD;have TW:∀x∈ns,1<=x:=fun x hx=>by have:=hn x hx;lia
  refine⟨_,rfl,a,rfl,⟨_,bL.of (s0 _ _ ha)⟩,gj (K:=K) (xs:=NV ns) (fun i σ H2=>(∃x3 x4,σ=[some (.ref a),some (.ref D),some (.int ((pr (ns.take i):Nat):Int)),x3,x4])/\ll H D ((Fa (pr ns) ns i).map lT) H2) ⟨⟨_,_,rfl⟩,s0,[],ah,PO.nil,rfl⟩ (fun i σ H2 _ z=>bL.of (z.2.1 _ _ ha)) ?_ ?_⟩
  .rintro i x σ H2 hx ⟨⟨x3,x4,rfl⟩,P2⟩;obtain⟨n,hv,rfl⟩:=i6 hx;have hi:i<ns.length:=(cj.mp hv).1;have TX:=hn n (cQ hv);have gO:=jx (ns:=ns) (i:=i) TW;have Wr:1<=pr (ns.take i):=by
    have:=jx (ns:=ns.take i) (i:=0) fun x hx=>TW x (mf hx);exact this
   have gd:ns.getD i 0=n:=by rw[ce,hv];rfl
   have tk:ns.take (i+1)=ns.take i++[n]:=by rw[dI,hv];rfl
   rw[tk,fq];have eB:Fa (pr ns) ns (i+1)=Fa (pr ns) ns i++oO (pr ns) (pr (ns.take i)) n:=by unfold Fa;rw[i7,gd]
   rw[eB];generalize pr (ns.take i)=st at *;refine⟨_,rfl,a,ns,rfl,bL.of (P2.1 _ _ ha),fun x hx=>by have:=hn x hx;lia,?_⟩;refine⟨((pr ns:Nat):Int),rfl,by lia,by lia,eL (n:=pr ns) (lo:=0) (fun j σ H4=>(∃x4,σ=[some (.ref a),some (.ref D),some (.int (st:Int)),some (.int (n:Int)),x4])/\ll H D ((Fa (pr ns) ns i++oO j st n).map lT) H4) ⟨⟨_,rfl⟩,by rw[show oO 0 st n=[] from rfl,uN];exact P2⟩ ?_ ?_⟩
   .rintro j σ H4 hj ⟨⟨Ws,rfl⟩,AQ,TY,IZ,TZ,PV⟩;have Wt:((0:Int)+(j:Int)) / (st:Int) % (n:Int)+1=(((j / st % n+1:Nat)):Int):=by rw[fz];rfl
    refine⟨_,rfl,_,rfl,_,_,rfl,rfl,⟨by lia,by lia⟩,_,rfl,_,_,rfl,rfl,(by show (0:Int)<(n:Int);lia),_,_,rfl,rfl,_,rfl,_,_,rfl,rfl,_,rfl,?_⟩;rw[Wt,AY];by_cases c:j / st % n+1<n
    .rw[ap c];refine xf (cf (by lia)) ?_;rw[fz];refine⟨_,rfl,.inl ⟨rfl,_,bo.of IZ⟩,_,rfl,_,rfl,_,rfl,_,_,rfl,rfl,by show 2<=sizeLine;decide,fun t ht=>?_⟩;have PX:TY.length<=1000:=by
      have e:=congrArg List.length PV;rw[cA,a_,iQ] at e;have z1:∀m' s' n',(oO m' s' n').length<=m':=fun m' s' n'=>by unfold oO;rw[a_];exact bn (pW _ _) (by simp)
      have z2:∀i',(Fa (pr ns) ns i').length<=i'*32:=fun i'=>by
       induction i' with
       |zero=>exact aI _
       |succ i' ih=>unfold Fa at ih |-;rw[i7,iQ,Nat.succ_mul];have:=z1 (pr ns) (pr (ns.take i')) (ns.getD i' 0);lia
      have:=z2 i;have:=z1 j st n;lia
     refine⟨D,_,_,rfl,rfl,au ht _ _ IZ,by rw[ir];exact fL PX (by decide),⟨_,rfl⟩,?_⟩;have P5:=ll.add (u:=lT (j,j+st)) hD AQ IZ TZ PV ht;rw[<-cq,c_ (l₂:=[(j,j+st)])];exact P5
    .rw[am c,uN];refine ee (eN (by lia)) ⟨⟨_,rfl⟩,AQ,TY,IZ,TZ,PV⟩
   .rintro σ H4 ⟨⟨Ws,rfl⟩,P4⟩;exact⟨_,rfl,_,rfl,_,_,rfl,rfl,.inr ⟨by lia,by lia⟩,⟨_,_,rfl⟩,P4⟩
  .rintro σ H2 ⟨⟨x3,x4,rfl⟩,yw,zs,hz,po,ez⟩;refine⟨_,rfl,k D zs H2 yw hD hz po ?_⟩;rw[ez,aR];unfold gy Fa;rw[AX];simp only[qx]
theorem GR:az ["sides"] ["sides"] (ak AS):=⟨rfl,rfl,rfl,by decide +kernel,rfl,by decide +kernel,by decide +kernel⟩
def rk(K:PySem.W.Frag)(C Pt CS:Addr):Sp:=fun vs H Q E=>∃ (x:V) (o:Option (List (Option Int))),vs=[x]/\Sd K H x o/\gC Pt H/\(box o=none->E (.ref CS) none H)/\(∀ns,box o=some ns->yy C Pt H (pr ns) (jB ((gy ns).map lT)) Q)
theorem DH{f C Pt CS:Addr}{fd:FuncData}(F:dU K "box_net" "box_net" AS f fd)(Wu:cg P w K mg base (eZ P w) 3 "check_sides" ["sides"] (nW K CS))(PN:cg P w K mg base aX 9 "pairs_net" ["many","pairs"] (nR C Pt))(PR:cg P w K mg base aX 1 "product" ["numbers"] (nU K))(BP:cg P w K mg base aX 2 "box_pairs" ["sides"] nX):
  a9 P w K mg base (eZ P w) 10 f fd ["sides"] (rk K C Pt CS):=by
 refine F.EN GR (fun vs H Q E h=>?_) (fun cI A outer s H vs Q E hr h=>?_)
 .obtain⟨x,o,rfl,_⟩:=h;rfl
 .obtain⟨x,o,rfl,sd,tb,k1,k2⟩:=h;have h1:bt 1 _:=hr.mono (by decide);have h2:bt 2 _:=hr.mono (by decide);have h3:bt 3 _:=hr.mono (by decide);refine⟨_,ag (cx (aw Wu h3 (nu (E':=E) fun _ _ _ z=>z) (aa (pv 0) af)))
   (aj (aJ (aw PN hr aG (aa (aw PR h1 aG (aa (pv 0) af)) (aa (aw BP h2 aG (aa (pv 0) af)) af))))),?_⟩
  refine⟨_,rfl,x,o,rfl,sd,k1,fun ns hb=>?_⟩;cases sd with
  |no ty h=>cases hb
  |@tup p xs os hp hl ew=>
   obtain⟨e1,l1,l2,hn,hm,eo⟩:=AW hb;have ha:os.all (fun o=>aO o 2 8)=true:=jH.mpr fun o ho=>by
    rw[eo] at ho;obtain⟨n,M5,rfl⟩:=bg.mp ho;have:=hn n M5;unfold aO;simp;lia
   obtain⟨ex,_⟩:=Sd.nums hp hl ew ha;rw[<-e1] at ex;subst ex;refine⟨_,rfl,p,ns,rfl,bL.of hp,fun x hx=>by have:=hn x hx;lia,?_⟩;refine⟨_,rfl,p,ns,rfl,hp,l2,hn,hm,fun r zs H2 s2 y4 GT po ez=>?_⟩;refine⟨pr ns,r,zs,rfl,GT,po,?_,tb.same s2,?_⟩
   .rw[ez];exact Ay (fun x hx=>(hn x hx).1) (by rintro rfl;simp at l1) hm
   .rw[ez];exact(k2 ns hb).same s2
end
end nM
namespace L2
open PySem PySem.Spec PyProof.Rows
theorem sY{K:PySem.W.Frag}{a D:Addr}{xs:List V}{g:TG}{tt:TT}{te:TE}{dz:Hp->Prop}{σB:St}{H0:Hp}(Pv:Nat->List V->St->Hp->Prop)(h0:Pv 0 [] σB H0)(hl:∀i ys σ H,i<=xs.length->Pv i ys σ H->bL K H a xs)(hs:∀i x ys σ H (Kt:V->St->Hp->Prop) (Kf:St->Hp->Prop),xs[i]?=some x->Pv i ys σ H->
   (∀v σ2 H4,H4 D=some (.lst ys)->ys.length<sizeLine->Pv (i+1) (ys++[v]) σ2 (upd H4 D (.lst (ys++[v])))->Kt v σ2 H4)->(∀σ2 H3,Pv (i+1) ys σ2 H3->Kf σ2 H3)->
   g x σ H fun σ2 H2=>tt σ2 H2 fun b H3=>if b=true then te σ2 H3 fun v H4=>Kt v σ2 H4 else Kf σ2 H3)(hd:∀ys σ H,Pv xs.length ys σ H->dz H):iZ (IH K a) g tt te D dz σB H0:=by
 refine⟨fun i m σ H=>m=xs.length-i/\i<=xs.length/\∃ys,Pv i ys σ H,⟨xs.length,by simp,cK _,[],h0⟩,?_⟩;rintro i m σ H ⟨rfl,hi,ys,p⟩;have q:=hl i ys σ H hi p;by_cases dv:i<xs.length
 .refine .inr ⟨⟨xs,xs[i],q,by simp[dv]⟩,?_⟩;rintro x H' ⟨rfl,y⟩;exact hs i x ys σ _ (fun v σ2 H4=>∃ys,H4 D=some (.lst ys)/\ys.length<sizeLine/\∃m',m'<xs.length-i/\m'=xs.length-(i+1)/\i+1<=xs.length/\∃ss,Pv (i+1) ss σ2 (upd H4 D (.lst (ys++[v]))))
   (fun σ2 H3=>∃m',m'<xs.length-i/\m'=xs.length-(i+1)/\i+1<=xs.length/\∃ss,Pv (i+1) ss σ2 H3) (y xs q) p
   (fun v σ2 H4 z1 z2 z3=>⟨ys,z1,z2,_,by lia,rfl,dv,_,z3⟩) (fun σ2 H3 z=>⟨_,by lia,rfl,dv,_,z⟩)
 .have e:i=xs.length:=by lia
  subst e;exact .inl ⟨⟨xs,q,aI _⟩,hd ys σ H p⟩
section
variable {X:Cx}
end
end L2
namespace im
def cP:List Nat->Nat->List Nat
 |[],_=>[]
 |n::ns,h=>(h % n)::cP ns (h / n)
theorem bi:∀ {ns:List Nat} {h:Nat},(cP ns h).length=ns.length
 |[],_=>rfl
 |n::ns,h=>by show (cP ns (h / n)).length+1=ns.length+1;rw[bi]
theorem nY:∀ {ns:List Nat} {n h:Nat},cP (ns++[n]) h=cP ns h++[h / pr ns % n]
 |[],n,h=>by show [h % n]=[h / 1 % n];rw[mQ]
 |m::ns,n,h=>by
  show (h % m)::cP (ns++[n]) (h / m)=(h % m)::(cP ns (h / m)++[h / (m*pr ns) % n]);rw[nY,oY]
theorem nZ:∀ {ns:List Nat} {h i:Nat},(∀x∈ns,0<x)->i<ns.length->(cP ns h).getD i 0<ns.getD i 0
 |[],_,_,_,hi=>absurd hi (mx _)
 |n::ns,h,0,hn,_=>eH h (hn n bX)
 |n::ns,h,i+1,hn,hi=>nZ (ns:=ns) (h:=h / n) (i:=i) (fun x hx=>hn x (bA _ hx)) (uf hi)
def rO:List Nat->List Nat->Nat
 |n::ns,d::ds=>d+n*rO ns ds
 |_,_=>0
theorem sZ:∀ {ns ds:List Nat} {n d:Nat},ns.length=ds.length->rO (ns++[n]) (ds++[d])=rO ns ds+pr ns*d
 |[],[],n,d,_=>by show d+n*0=0+1*d;lia
 |m::ns,e::ds,n,d,h=>by
  show e+m*rO (ns++[n]) (ds++[d])=e+m*rO ns ds+m*pr ns*d;rw[sZ (mI h),mL,qp,uV]
def rP(ns:List Nat)(a b:Nat):Option Nat:=(List.range ns.length).find? fun i=>decide ((cP ns a).getD i 0≠(cP ns b).getD i 0)
theorem yC{n:Nat}{f:Nat->Bool}:(List.range (n+1)).find? f=if f 0=true then some 0 else ((List.range n).find? fun i=>f (i+1)).map (·+1):=by
 rw[oZ,List.find?_cons];split
 .next h=>rw[ap h]
 .next h=>
  rw[am (by rw[h];decide),List.find?_map];rfl
theorem xg{n:Nat}{ns:List Nat}{a b:Nat}:rP (n::ns) a b=if a % n=b % n then (rP ns (a / n) (b / n)).map (·+1) else some 0:=by
 unfold rP;rw[cR,yC];show (if decide (a % n≠b % n)=true then _ else _)=_;by_cases c:a % n=b % n
 .rw[am (by simp[c]),ap c];rfl
 .rw[ap (by simpa using c),am c]
def DI:List Nat->Nat->Nat->Nat->Prop
 |[],_,_,_=>False
 |n::_,0,a,b=>a % n+1<n/\b=a+1
 |n::ns,k+1,a,b=>a % n=b % n/\DI ns k (a / n) (b / n)
theorem AZ:∀ {ns:List Nat} {a b:Nat},(∀x∈ns,0<x)->(U ns a b↔∃k,DI ns k a b)
 |[],a,b,_=>⟨fun h=>h.elim,fun ⟨k,h⟩=>h.elim⟩
 |n::ns,a,b,hn=>by
  rw[qV hn,AZ fun x hx=>hn x (bA _ hx)];constructor
  .rintro(h|⟨e,k,h⟩)
   .exact⟨0,h⟩
   .exact⟨k+1,e,h⟩
  .rintro⟨k,h⟩;cases k with
   |zero=>exact .inl h
   |succ k=>exact .inr ⟨h.1,k,h.2⟩
theorem vP{b n:Nat}(hn:0<n):(b % n+1<n)↔1<=(b+1) % n:=by
 have e:=jI b n;have l:=eH b hn;constructor
 .intro h;rw[(dq h).2];lia
 .intro h;rcases Nat.lt_or_ge (b % n+1) n with c|c
  .exact c
  .have:b+1=n*(b / n+1):=by rw[mL,kl];lia
   rw[this,Nat.mul_mod_right] at h;exact absurd h (by decide)
theorem A0:∀ {ns:List Nat} {k a b:Nat},DI ns k a b->rP ns a b=some k
 |n::ns,0,a,b,⟨h,e⟩=>by
  subst e;rw[xg,am (by rw[(dq h).2];lia)]
 |n::ns,k+1,a,b,⟨e,h⟩=>by rw[xg,ap e,A0 h];rfl
theorem DJ{ns:List Nat}{a b:Nat}:rP ns a b=rP ns b a:=by
 unfold rP;congr 1;funext i;exact decide_eq_decide.mpr ⟨cS,cS⟩
def DK(ns:List Nat)(a b k:Nat):Prop:=DI ns k a b\/DI ns k b a
theorem A1{ns:List Nat}{a b k:Nat}(h:DK ns a b k):rP ns a b=some k:=by
 rcases h with h|h
 .exact A0 h
 .rw[DJ];exact A0 h
theorem gD{ns:List Nat}{a b:Nat}(hn:∀x∈ns,0<x)(ha:a<pr ns)(hb:b<pr ns):T (jB ((gy ns).map lT)) a b↔∃k,DK ns a b k:=by
 have Nw:∀ {a b:Nat},(a,b)∈gy ns↔a<pr ns/\U ns a b:=nL;show ((a:Int),(b:Int))∈_↔_;rw[eK];constructor
 .rintro(h|h)
  .obtain⟨q,hq,e⟩:=bg.mp h;have e1:q.1=a:=ff (congrArg Prod.fst e);have e2:q.2=b:=ff (congrArg Prod.snd e);obtain⟨k,u⟩:=(AZ hn).mp (Nw.mp hq).2;exact⟨k,.inl (by rw[<-e1,<-e2];exact u)⟩
  .obtain⟨q,hq,e⟩:=bg.mp h;have e1:q.1=b:=ff (congrArg Prod.fst e);have e2:q.2=a:=ff (congrArg Prod.snd e);obtain⟨k,u⟩:=(AZ hn).mp (Nw.mp hq).2;exact⟨k,.inr (by rw[<-e1,<-e2];exact u)⟩
 .rintro⟨k,u|u⟩
  .exact .inl (bg.mpr ⟨(a,b),Nw.mpr ⟨ha,(AZ hn).mpr ⟨k,u⟩⟩,rfl⟩)
  .exact .inr (bg.mpr ⟨(b,a),Nw.mpr ⟨hb,(AZ hn).mpr ⟨k,u⟩⟩,rfl⟩)
end im
namespace L2
open PySem PySem.Spec PyProof.Rows
def zC(k:Bool):String:=if k then "list" else "tuple"
def zI(k:Bool):String:=if k then "list_iterator" else "tuple_iterator"
def lm(k:Bool)(h:Heap)(a:Addr)(items:Array Value):Prop:=∃o,h.get? a=some o/\o.cls=.type (zC k)/\∃n,o.data=.seq items n
def cB(k:Bool)(h:Heap)(it a:Addr)(i:Nat):Prop:=∃o,h.get? it=some o/\o.cls=.type (zI k)/\o.data=.fields #[.ref a,.int (i:Int) 0]
def oQ(k:Bool)(K:PySem.W.Frag)(H:Hp)(a:Addr)(xs:List V):Prop:=match k with
 |true=>bo K H a xs
 |false=>bL K H a xs
theorem cB.at{k:Bool}{it a:Addr}{i:Nat}{h h':Heap}(r:cB k h it a i)(e:∀o,h.get? it=some o->h'.get? it=some o):cB k h' it a i:=let ⟨o,q,z⟩:=r;⟨o,e o q,z⟩
theorem cE{k:Bool}{c it t:Addr}{h h':Heap}{i:Nat}(r:cB k h it t i)(sb:Heap.SameBut c h h')(n:it≠c):cB k h' it t i:=r.at fun o e=>aH sb n e
theorem jY{k:Bool}{c t:Addr}{h h':Heap}{xs:Array Value}(r:lm k h t xs)(sb:Heap.SameBut c h h')(n:t≠c):lm k h' t xs:=let ⟨o,e,z⟩:=r;⟨o,aH sb n e,z⟩
theorem aD.q{k:Bool}{X:Cx}{ae:List (Addr×Obj)}{σ:St}{H:Hp}{s:Shared}{a:Addr}{xs:List V}(I:aD X ae σ H s)(h:oQ k X.K H a xs):∃us,aS xs us/\lm k s.heap a us.toArray/\xs.length<=sizeLine:=by
 cases k
 .exact I.tuple h
 .obtain⟨us,r,p,z⟩:=I.list h;exact⟨us,r,p.isList,z⟩
theorem aD.xh{k:Bool}{X:Cx}{ae:List (Addr×Obj)}{σ:St}{H:Hp}{s:Shared}{a:Addr}{xs ys:List V}(I:aD X ae σ H s)(h:oQ k X.K H a xs)(h':oQ k X.K H a ys):xs=ys:=by
 cases k
 .exact I.o7 h h'
 .exact I.rT h h'
variable {ka kb:Bool}
section
variable {prog:Program} {w:World} {A:Around} {E:Value->Shared->Prop} {s:Shared}
theorem dR{k:Bool}{it t:Addr}{i:Nat}{xs:Array Value}{x:Value}{Q:Value->Shared->Prop}(mT:cB k s.heap it t i)(ht:lm k s.heap t xs)(hx:xs[i]?=some x)(q:∀h',cB k h' it t (i+1)->Heap.SameBut it s.heap h'->Q x { s with heap:=h' }):wpAny (model prog w) A (Builtin.SmallTypes.nextOf (.ref it)) Q E s:=by
 cases k
 .exact vy mT ht hx q
 .exact wpAny_nextOf_list_item mT ht hx q
theorem kP{k:Bool}{it t:Addr}{i:Nat}{xs:Array Value}{Q:Value->Shared->Prop}(hh:A.handled=none)(mT:cB k s.heap it t i)(ht:lm k s.heap t xs)(hx:xs[i]?=none)(q:∀h' e,Heap.ExtBut it s.heap h'->(∃o,h'.get? e=some o/\o.cls=.type "StopIteration")->E (.ref e) { s with heap:=h' }):wpAny (model prog w) A (Builtin.SmallTypes.nextOf (.ref it)) Q E s:=by
 cases k
 .exact yd hh mT ht hx q
 .exact wpAny_nextOf_list_end hh mT ht hx q
theorem iy{k:Bool}{t:Addr}{items:Array Value}{Q:Value->Shared->Prop}(g:lm k s.heap t items)(q:Q (.ref s.heap.objs.size) { s with heap:=s.heap.push { cls:=.type (zI k),data:=.fields #[.ref t,.int 0 0] } }):wpAny (model prog w) A (pyIter (.ref t)) Q E s:=by
 cases k
 .exact wpAny_pyIter_tuple g q
 .exact mw g q
theorem yD{z ti tq i1 i2 t1 t2:Addr}{k:Nat}{xs ys:Array Value}{x y a b:Value}{Q:Value->Shared->Prop}(dj:ZipApart z ti tq i1 i2 t1 t2)(gz:IsZip s.heap z ti tq .none)(gi:IsPair s.heap ti (.ref i1) (.ref i2))(gq:IsPair s.heap tq a b)(r1:cB ka s.heap i1 t1 k)(r2:cB kb s.heap i2 t2 k)(g1:lm ka s.heap t1 xs)(g2:lm kb s.heap t2 ys)(ex:xs[k]?=some x)(ey:ys[k]?=some y)(q:∀h',IsZip h' z ti tq (rawInt s.heap.objs.size)->IsPair h' tq x y->cB ka h' i1 t1 (k+1)->cB kb h' i2 t2 (k+1)->IsPair h' s.heap.objs.size x y->(∀c o,c≠z->c≠tq->c≠i1->c≠i2->s.heap.get? c=some o->h'.get? c=some o)->Q (.ref s.heap.objs.size) { s with heap:=h' }):
  wpAny (model prog w) A (Builtin.«zip.__next__» ⟨[.ref z],[]⟩) (fun dz s'=>∃v,dz=.done (.ret v)/\Q v s') E s:=by
 change wpAny _ _ (field (.ref z) 2 >>= _) _ _ _;refine ai (br gz rfl (x:=.bool false) rfl ?_);change wpAny _ _ (field (.ref z) 3 >>= _) _ _ _;refine ai (br gz rfl (x:=.ref ti) rfl (ai (fT gi rfl ?_)));change wpAny _ _ (Builtin.SmallTypes.ownedTupleIsFree (.ref z) >>= _) _ _ _;refine ai ?_;unfold Builtin.SmallTypes.ownedTupleIsFree;refine ai (br gz rfl (x:=.none) rfl (wpAny_pure ?_));simp only[jh];refine ai (fg (ai (br gz rfl (x:=.ref tq) rfl ?_)));refine ai (eC gz (by simp) fun m1 oR iF=>?_);replace oR:IsZip m1 z ti tq .ellipsis:=oR;refine ai ?_;simp only[mr,qj,gZ,g7];refine ai (ai (kh ?_));change wpAny _ _ (Builtin.SmallTypes.nextOf (.ref i1) >>= _) _ _ _;refine ai (dR (cE r1 iF dj.i1z) (jY g1 iF dj.l1z) ex fun m2 KY fX=>wpAny_pure ?_);have KZ:IsPair m2 tq a b:=aH fX dj.TOi1 (aH iF dj.TOz gq);refine ai (fT KZ rfl (ai (p7 KZ fun m3 GU rl=>?_)));replace GU:IsPair m3 tq x b:=GU;refine ai (mR (wpAny_pure ?_));refine ai (ai (kh ?_));change wpAny _ _ (Builtin.SmallTypes.nextOf (.ref i2) >>= _) _ _ _;refine ai (dR (cE (cE (cE r2 iF dj.i2z) fX dj.i12.symm) rl dj.TOi2.symm) (jY (jY (jY g2 iF dj.l2z) fX dj.l2i1) rl dj.l2TO) ey fun m4 K0 s_=>wpAny_pure ?_);have GV:IsPair m4 tq x b:=aH s_ dj.TOi2 GU;refine ai (fT GV rfl (ai (p7 GV fun m5 DL A2=>?_)));replace DL:IsPair m5 tq x y:=DL;refine ai (mR (wpAny_pure (wpAny_pure ?_)));refine ai (fT DL rfl (ai (mG ?_)));have sz:m5.objs.size=s.heap.objs.size:=by rw[A2.1,s_.1,rl.1,fX.1,iF.1]
 have K1:IsZip m5 z ti tq .ellipsis:=aH A2 dj.TOz.symm (aH s_ dj.i2z.symm (aH rl dj.TOz.symm (aH fX dj.i1z.symm oR)));have PY:∀c o,c≠z->c≠tq->c≠i1->c≠i2->s.heap.get? c=some o->m5.get? c=some o:=fun c o c1 c2 c3 c4 e=>
  aH A2 c2 (aH s_ c4 (aH rl c2 (aH fX c3 (aH iF c1 e))))
 have PZ:cB ka m5 i1 t1 (k+1):=cE (cE (cE KY rl dj.TOi1.symm) s_ dj.i12) A2 dj.TOi1.symm;have P0:cB kb m5 i2 t2 (k+1):=cE K0 A2 dj.TOi2.symm;have zl:z<m5.objs.size:=aU K1;change wpAny _ _ (Builtin.SmallTypes.ownedTupleHandOut (.ref z) (.ref m5.objs.size) >>= _) _ _ _;refine ai ?_;unfold Builtin.SmallTypes.ownedTupleHandOut;have P1:IsZip (m5.push { cls:=.type "tuple",data:=.seq #[x,y] }) z ti tq .ellipsis:=ba _ K1;refine ai (eC P1 (by simp) fun m7 GW I0=>?_);replace GW:IsZip m7 z ti tq (rawInt m5.objs.size):=GW;refine eC GW (by simp) fun m8 DM I_=>?_;replace DM:IsZip m8 z ti tq (rawInt m5.objs.size):=DM;have up:∀c o,c≠z->m5.get? c=some o->m8.get? c=some o:=fun c o c1 e=>aH I_ c1 (aH I0 c1 (ba _ e));have K2:IsPair m8 m5.objs.size x y:=aH I_ (gJ zl) (aH I0 (gJ zl) (bv _ rfl));rw[sz] at DM K2;refine wpAny_pure ⟨_,rfl,?_⟩;change Q (.ref m5.objs.size) _;rw[sz];exact q m8 DM (up _ _ dj.TOz DL) (PZ.at fun o e=>up _ o dj.i1z e) (P0.at fun o e=>up _ o dj.i2z e) K2 fun c o c1 c2 c3 c4 e=>up c o c1 (PY c o c1 c2 c3 c4 e)
theorem A3{z ti tq i1 i2 t1 t2:Addr}{k:Nat}{xs:Array Value}{Q:PySem.Fin->Shared->Prop}(hh:A.handled=none)(dj:ZipApart z ti tq i1 i2 t1 t2)(gz:IsZip s.heap z ti tq .none)(gi:IsPair s.heap ti (.ref i1) (.ref i2))(r1:cB ka s.heap i1 t1 k)(g1:lm ka s.heap t1 xs)(ex:xs[k]?=none)(q:∀h' e,(∀c o,c≠z->c≠i1->s.heap.get? c=some o->h'.get? c=some o)->(∃o,h'.get? e=some o/\o.cls=.type "StopIteration")->E (.ref e) { s with heap:=h' }):
  wpAny (model prog w) A (Builtin.«zip.__next__» ⟨[.ref z],[]⟩) Q E s:=by
 change wpAny _ _ (field (.ref z) 2 >>= _) _ _ _;refine ai (br gz rfl (x:=.bool false) rfl ?_);change wpAny _ _ (field (.ref z) 3 >>= _) _ _ _;refine ai (br gz rfl (x:=.ref ti) rfl (ai (fT gi rfl ?_)));change wpAny _ _ (Builtin.SmallTypes.ownedTupleIsFree (.ref z) >>= _) _ _ _;refine ai ?_;unfold Builtin.SmallTypes.ownedTupleIsFree;refine ai (br gz rfl (x:=.none) rfl (wpAny_pure ?_));simp only[jh];refine ai (fg (ai (br gz rfl (x:=.ref tq) rfl ?_)));refine ai (eC gz (by simp) fun m1 oR iF=>?_);replace oR:IsZip m1 z ti tq .ellipsis:=oR;refine ai ?_;simp only[mr,qj,gZ,g7];refine ai (ai (kh ?_));change wpAny _ _ (Builtin.SmallTypes.nextOf (.ref i1) >>= _) _ _ _;refine ai (kP hh (cE r1 iF dj.i1z) (jY g1 iF dj.l1z) ex fun m2 e fX he=>?_);obtain⟨oe,GX,K3⟩:=he;have GZ:IsZip m2 z ti tq .ellipsis:=fX _ _ dj.i1z.symm oR;have P3:e≠z:=fun y=>by subst y;rw[GZ] at GX;cases GX;simp at K3
 exact eC GZ (by simp) fun m3 _ rl=>q m3 e (fun c o c1 c3 y=>aH rl c1 (fX _ _ c3 (aH iF c1 y))) ⟨oe,aH rl P3 GX,K3⟩
theorem vQ{z ti tq i1 i2 t1 t2:Addr}{k:Nat}{xs ys:Array Value}{x y a b:Value}{Q:Option Value->Shared->Prop}(dj:ZipApart z ti tq i1 i2 t1 t2)(gz:IsZip s.heap z ti tq .none)(gi:IsPair s.heap ti (.ref i1) (.ref i2))(gq:IsPair s.heap tq a b)(r1:cB ka s.heap i1 t1 k)(r2:cB kb s.heap i2 t2 k)(g1:lm ka s.heap t1 xs)(g2:lm kb s.heap t2 ys)(ex:xs[k]?=some x)(ey:ys[k]?=some y)(q:∀h',IsZip h' z ti tq (rawInt s.heap.objs.size)->IsPair h' tq x y->cB ka h' i1 t1 (k+1)->cB kb h' i2 t2 (k+1)->IsPair h' s.heap.objs.size x y->(∀c o,c≠z->c≠tq->c≠i1->c≠i2->s.heap.get? c=some o->h'.get? c=some o)->Q (some (.ref s.heap.objs.size)) { s with heap:=h' }):
  wpAny (model prog w) A (pyNext (.ref z)) Q E s:=by
 have ty:s.TypeIs (.ref z) "zip":=⟨_,gz,rfl⟩
 unfold pyNext;refine ai (ki (jD (name:=Str.ofString "__next__") ty F.slot_zip_next (iS F.slot_zip_next ty F.entry_zip_next ?_ (F.args_zip_next_1 _))));exact yD dj gz gi gq r1 r2 g1 g2 ex ey fun h' a1 a2 a3 a4 a5 a6=>wpAny_pure (q h' a1 a2 a3 a4 a5 a6)
theorem vR{z ti tq i1 i2 t1 t2:Addr}{k:Nat}{xs:Array Value}{Q:Option Value->Shared->Prop}(hh:A.handled=none)(dj:ZipApart z ti tq i1 i2 t1 t2)(gz:IsZip s.heap z ti tq .none)(gi:IsPair s.heap ti (.ref i1) (.ref i2))(r1:cB ka s.heap i1 t1 k)(g1:lm ka s.heap t1 xs)(ex:xs[k]?=none)(q:∀h',(∀c o,c≠z->c≠i1->s.heap.get? c=some o->h'.get? c=some o)->Q none { s with heap:=h' }):wpAny (model prog w) A (pyNext (.ref z)) Q E s:=by
 have ty:s.TypeIs (.ref z) "zip":=⟨_,gz,rfl⟩
 unfold pyNext;refine ai (ki (jD (name:=Str.ofString "__next__") ty F.slot_zip_next (iS F.slot_zip_next ty F.entry_zip_next (A3 hh dj gz gi r1 g1 ex fun h' e hk he=>?_) (F.args_zip_next_1 _))));obtain⟨o,ho,hc⟩:=he;exact ai (uS (T:="StopIteration") (b:=true) ⟨o,ho,hc⟩ isSubtype_stop (wpAny_pure (q _ hk)))
abbrev zQ(k:Bool)(t:Addr):Obj:={ cls:=.type (zI k),data:=.fields #[.ref t,.int 0 0] }
abbrev Nx(k j:Bool)(h:Heap)(t1 t2:Addr):Heap:=((h.push (zQ k t1)).push (zQ j t2)).push { cls:=.type "tuple",data:=.seq #[.ref h.objs.size,.ref (h.push (zQ k t1)).objs.size] }
abbrev Ny(k j:Bool)(h:Heap)(t1 t2:Addr):Heap:=(Nx k j h t1 t2).push { cls:=.type "tuple",data:=.seq #[.none,.none] }
abbrev Ja(k j:Bool)(h:Heap)(t1 t2:Addr):Heap:=(Ny k j h t1 t2).push { cls:=.type "zip",data:=.fields #[.none,.bool false,.bool false,.ref ((h.push (zQ k t1)).push (zQ j t2)).objs.size,.ref (Nx k j h t1 t2).objs.size] }
theorem A4(t1 t2:Addr)(xs ys:Array Value):
  Meets (Builtin.«zip.__new__» ⟨[.type "zip",.ref t1,.ref t2],[]⟩) (fun _ R s=>lm ka s.heap t1 xs/\lm kb s.heap t2 ys/\R (.ok (.ret (.ref (Ny ka kb s.heap t1 t2).objs.size))) { s with heap:=Ja ka kb s.heap t1 t2 }):=
 .of_wp fun prog w A R s h=>by
  obtain⟨hp,g,d,tk,os⟩:=s;obtain⟨g1,g2,h⟩:=h;have Wv:=sub_zip;have gA:lm ka (Shared.heap ⟨hp,g,d,tk,os⟩) t1 xs:=g1;have gB:lm kb (Shared.heap ⟨hp.push (zQ ka t1),g,d,tk,os⟩) t2 ys:=let ⟨o,e,z⟩:=g2;⟨o,ba _ e,z⟩
  wp_walk using iy gA,iy gB
  exact⟨_,rfl,h⟩
theorem pQ{t1 t2:Addr}{xs ys:Array Value}{Q:Value->Shared->Prop}(g1:lm ka s.heap t1 xs)(g2:lm kb s.heap t2 ys)(q:∀h',IsZip h' (s.heap.objs.size+4) (s.heap.objs.size+2) (s.heap.objs.size+3) .none->IsPair h' (s.heap.objs.size+2) (.ref s.heap.objs.size) (.ref (s.heap.objs.size+1))->IsPair h' (s.heap.objs.size+3) .none .none->
   cB ka h' s.heap.objs.size t1 0->cB kb h' (s.heap.objs.size+1) t2 0->(∀c o,s.heap.get? c=some o->h'.get? c=some o)->Q (.ref (s.heap.objs.size+4)) { s with heap:=h' }):
  wpAny (model prog w) A (call (.type "zip") [.ref t1,.ref t2]) Q E s:=by
 refine callType_new F.called_zip (by decide) (F.typeCall_zip_2 _ _) (F.newCall_zip_2 _ _) (fun obj=>F.args_object_init_3 obj _ _) F.entry_zip_new (A4 t1 t2 xs ys) ⟨g1,g2,?_⟩;have n1:(s.heap.push (zQ ka t1)).objs.size=s.heap.objs.size+1:=fU ..;have n2:((s.heap.push (zQ ka t1)).push (zQ kb t2)).objs.size=s.heap.objs.size+2:=by rw[fU,n1]
 have n3:(Nx ka kb s.heap t1 t2).objs.size=s.heap.objs.size+3:=by rw[fU,n2]
 have n4:(Ny ka kb s.heap t1 t2).objs.size=s.heap.objs.size+4:=by rw[fU,n3]
 have e5:(Ja ka kb s.heap t1 t2).get? (Ny ka kb s.heap t1 t2).objs.size=some _:=bv _ rfl;have e4:(Ja ka kb s.heap t1 t2).get? (Nx ka kb s.heap t1 t2).objs.size=some _:=ba _ (bv _ rfl);have e3:(Ja ka kb s.heap t1 t2).get? ((s.heap.push (zQ ka t1)).push (zQ kb t2)).objs.size=some _:=ba _ (ba _ (bv _ rfl));have e2:(Ja ka kb s.heap t1 t2).get? (s.heap.push (zQ ka t1)).objs.size=some _:=ba _ (ba _ (ba _ (bv _ rfl)));have e1:(Ja ka kb s.heap t1 t2).get? s.heap.objs.size=some _:=ba _ (ba _ (ba _ (ba _ (bv _ rfl))));change _/\_;rw[n2,n3,n4] at e5;rw[n1,n2] at e3;rw[n3] at e4;rw[n1] at e2;rw[n4];exact⟨⟨_,e5,rfl⟩,q _ e5 e3 e4 ⟨_,e1,rfl,rfl⟩ ⟨_,e2,rfl,rfl⟩ fun c o y=>
  ba _ (ba _ (ba _ (ba _ (ba _ y))))⟩
end
def yE(ka kb:Bool)(K:PySem.W.Frag)(a b:Addr):It:=
 ⟨fun i H=>∃xs ys x y,oQ ka K H a xs/\oQ kb K H b ys/\xs[i]?=some x/\ys[i]?=some y,fun i H v H'=>∃p x y,v=.ref p/\H p=none/\H'=upd H p (.tup [x,y])/\(∀xs,oQ ka K H a xs->xs[i]?=some x)/\∀ys,oQ kb K H b ys->ys[i]?=some y,fun i H=>∃xs,oQ ka K H a xs/\xs.length<=i,fun _ _=>False⟩
theorem yF{P:Program}{w:World}{K:PySem.W.Frag}{es:List Expr}{x1:Nat}{pos:Pos}(a b z ti tq i1 i2:Addr)(dj:ZipApart z ti tq i1 i2 a b):
  qB P w K (.Tuple es x1 pos) (yE ka kb K a b) [z,ti,tq,i1,i2] z (fun i h=>IsZip h z ti tq .none/\IsPair h ti (.ref i1) (.ref i2)/\(∃u v,IsPair h tq u v)/\cB ka h i1 a i/\cB kb h i2 b i) where
 mem:=by simp
 obj:=fun i h st c hc=>by
  obtain⟨gz,gi,⟨u,v,gq⟩,⟨o1,q1,c1,d1⟩,⟨o2,q2,c2,d2⟩⟩:=st;simp only[aY,dL,dN] at hc;rcases hc with rfl|rfl|rfl|rfl|rfl
  .exact⟨_,gz,fun v z=>by have z':Data.fields _=Data.cell v:=z;cases z'⟩
  .exact⟨_,gi,fun v z=>by have z':Data.seq _ _=Data.cell v:=z;cases z'⟩
  .exact⟨_,gq,fun v z=>by have z':Data.seq _ _=Data.cell v:=z;cases z'⟩
  .exact⟨o1,q1,fun v z=>by rw[d1] at z;cases z⟩
  .exact⟨o2,q2,fun v z=>by rw[d2] at z;cases z⟩
 keep:=fun i h h' st k=>by
  obtain⟨gz,gi,⟨u,v,gq⟩,r1,r2⟩:=st;exact⟨k z (by simp) _ gz,k ti (by simp) _ gi,⟨u,v,k tq (by simp) _ gq⟩,r1.at fun o q=>k i1 (by simp) o q,r2.at fun o q=>k i2 (by simp) o q⟩
 item:=by
  intro X hP hw hK i ae s σ H E rV I hf st hg;subst hP hw hK;have hc:X.calm=true:=rV.elim id fun z=>(show False from z).elim;obtain⟨xs,ys,x,y,hx,hy,ex,ey⟩:=hg;obtain⟨us,rx,px,_⟩:=I.q hx;obtain⟨vs,ry,py,_⟩:=I.q hy;obtain⟨u,hu,ru⟩:=rx.get ex;obtain⟨v,hv,rv⟩:=ry.get ey;obtain⟨gz,gi,⟨u0,v0,gq⟩,r1,r2⟩:=st;refine vQ dj gz gi gq r1 r2 px py (x:=u) (y:=v) (by simpa using hu) (by simpa using hv) fun h1 oR P6 P7 P8 K4 kp=>?_;refine⟨_,rfl,wpAny_letOwnedTupleGo_zip oR fun h2 GZ fX=>?_⟩;have zl:z<s.heap.objs.size:=aU gz;have nz:s.heap.objs.size≠z:=gJ zl;have Nz:∀c o,c∉[z,tq,i1,i2]->s.heap.get? c=some o->h2.get? c=some o:=fun c o hc e=>by
   simp only[aY,dL,dN,g_] at hc;exact aH fX hc.1 (kp c o hc.1 hc.2.1 hc.2.2.1 hc.2.2.2 e)
  have Ww:IsPair h2 ti (.ref i1) (.ref i2):=Nz _ _ (by simp only[aY,dL,dN,g_];exact⟨dj.TIz,dj.TITO,dj.TIi1,dj.TIi2⟩) gi;have fe:∀e∈[z,tq,i1,i2],fA X ae H e:=fun e he=>hf e (by simp only[aY,dL,dN] at he |-;rcases he with h|h|h|h <;> simp[h]);have I2:aD X ae σ (upd H s.heap.objs.size (.tup [x,y])) { s with heap:=h2,toks:=s.toks }:=
   I.qS (its:=[u,v]) fe Nz (aI _) (by show 2<=sizeLine;decide) (.cons ru (.cons rv .nil)) (aH fX nz K4)
  refine⟨.ref s.heap.objs.size,_,I2,rfl,⟨_,x,y,rfl,I.bD.fresh (aI _),rfl,fun zs hz=>by rw[I.xh hz hx];exact ex,fun zs hz=>by rw[I.xh hz hy];exact ey⟩,⟨GZ,Ww,⟨u,v,aH fX dj.TOz P6⟩,cE P7 fX dj.i1z,cE P8 fX dj.i2z⟩,fun c hc=>?_⟩;have f0:=(hf c hc).1;have cl:c<s.heap.objs.size:=by
   simp only[aY,dL,dN] at hc;rcases hc with rfl|rfl|rfl|rfl|rfl
   .exact zl
   .exact aU gi
   .exact aU gq
   .obtain⟨o,q,_⟩:=r1;exact aU q
   .obtain⟨o,q,_⟩:=r2;exact aU q
  rw[ao (aL cl)];exact f0
 done:=by
  intro X hP hw hK i ae s σ H E rV I hf st hg;subst hP hw hK;have hc:X.calm=true:=rV.elim id fun z=>(show False from z).elim;obtain⟨xs,hx,hi⟩:=hg;obtain⟨us,rx,px,_⟩:=I.q hx;obtain⟨gz,gi,⟨u0,v0,gq⟩,r1,r2⟩:=st;have hl:=rx.length;refine vR (I.ok.hd hc) dj gz gi r1 px (by simp;lia) fun h' kp=>⟨rfl,?_⟩
  have fe:∀e∈[z,i1],fA X ae H e:=fun e he=>hf e (by simp only[aY,dL,dN] at he |-;rcases he with h|h <;> simp[h]);refine I.wT (t':=s.toks) fe fun c o hc e=>?_;simp only[aY,dL,dN,g_] at hc;exact kp c o hc.1 hc.2 e
 self:=fun _ _ _ _ _ st h=>qm st.1 h
section
variable {X:Cx}
def K5(ka kb:Bool)(K:PySem.W.Frag)(ta:TA):TI:=fun σ H R=>ta σ H fun vs H1=>∃a b xs ys,vs=[.ref a,.ref b]/\oQ ka K H1 a xs/\oQ kb K H1 b ys/\xs.length=ys.length/\R (yE ka kb K a b) H1
theorem xi{es:List Expr}{x1:Nat}{zK:Pos}{a b:Expr}{ta:TA}{p pos:Pos}(hg:Gl X "zip")(hm:X.mg "zip"=none)(ha:PA X [a,b] ta)(hs:starEach [a,b] X.env=[(false,eval a X.env),(false,eval b X.env)]:=by rfl)(pb:starEach [b] X.env=[(false,eval b X.env)]:=by rfl):
  PI X (.Tuple es x1 zK) (.Call (.Name "zip" p) [a,b] [] pos) (K5 ka kb X.K ta):=by
 intro ae s σ H R I h;refine Call_ (ge I hg hm PyProof.Rows.boot_zip (oW (cC (ha pos ae s σ H _ I h) fun us s1 ⟨vs,H1,I1,r1,q1⟩=>?_) (by rw[hs,pb]) (by rw[pb];rfl)));obtain⟨l,m,xs,ys,rfl,hl,P9,E2,q⟩:=q1;obtain⟨u1,u2,rfl,P_,Qa⟩:=r1.two;obtain rfl:u1=Value.ref l:=P_;obtain rfl:u2=Value.ref m:=Qa;obtain⟨its,rv,pt,_⟩:=I1.q hl;obtain⟨CD,Wx,Cm,_⟩:=I1.q P9;have dv:l<s1.heap.objs.size:=by obtain⟨o,e,_⟩:=pt;exact aU e
 have rm:m<s1.heap.objs.size:=by obtain⟨o,e,_⟩:=Cm;exact aU e
 refine pQ pt Cm fun h' gz gi gq r1 r2 k=>?_;refine qm gz ?_;have I2:aD X ae σ H1 { s1 with heap:=h' }:=I1.kept (t':=s1.toks) k;refine⟨s1.heap.objs.size+4,[s1.heap.objs.size+4,s1.heap.objs.size+2,s1.heap.objs.size+3,s1.heap.objs.size,s1.heap.objs.size+1],_,_,H1,rfl,I2,yF l m _ _ _ _ _ (zipApart_new dv rm),⟨gz,gi,⟨_,_,gq⟩,r1,r2⟩,fun b hb=>?_,q⟩;have r6:s1.heap.objs.size<=b:=by
  simp only[aY,dL,dN] at hb;rcases hb with rfl|rfl|rfl|rfl|rfl
  .exact qe _ _
  .exact qe _ _
  .exact qe _ _
  .exact aI _
  .exact qe _ _
 exact I1.uY r6 (I1.bD.fresh r6)
theorem yG{K:PySem.W.Frag}{a b D:Addr}{xs ys:List V}{g:TG}{tt:TT}{te:TE}{dz:Hp->Prop}{σB:St}{H0:Hp}(E2:xs.length=ys.length)(Pv:Nat->List V->St->Hp->Prop)(h0:Pv 0 [] σB H0)(hl:∀i zs σ H,i<=xs.length->Pv i zs σ H->oQ ka K H a xs/\oQ kb K H b ys)(hs:∀i x y p zs σ H (Kt:V->St->Hp->Prop) (Kf:St->Hp->Prop),xs[i]?=some x->ys[i]?=some y->Pv i zs σ H->H p=none->
   (∀v σ2 H4,H4 D=some (.lst zs)->zs.length<sizeLine->Pv (i+1) (zs++[v]) σ2 (upd H4 D (.lst (zs++[v])))->Kt v σ2 H4)->(∀σ2 H3,Pv (i+1) zs σ2 H3->Kf σ2 H3)->
   g (.ref p) σ (upd H p (.tup [x,y])) fun σ2 H2=>tt σ2 H2 fun b H3=>if b=true then te σ2 H3 fun v H4=>Kt v σ2 H4 else Kf σ2 H3)(hd:∀zs σ H,Pv xs.length zs σ H->dz H):iZ (yE ka kb K a b) g tt te D dz σB H0:=by
 refine⟨fun i m σ H=>m=xs.length-i/\i<=xs.length/\∃zs,Pv i zs σ H,⟨xs.length,by simp,cK _,[],h0⟩,?_⟩;rintro i m σ H ⟨rfl,hi,zs,p⟩;obtain⟨q1,q2⟩:=hl i zs σ H hi p;by_cases dv:i<xs.length
 .have rm:i<ys.length:=by lia
  refine .inr ⟨⟨xs,ys,xs[i],ys[i],q1,q2,by simp[dv],by simp[rm]⟩,?_⟩;rintro v H' ⟨pp,x,y,rfl,hn,rfl,CW,K6⟩;exact hs i x y pp zs σ _ (fun v σ2 H4=>∃zs,H4 D=some (.lst zs)/\zs.length<sizeLine/\∃m',m'<xs.length-i/\m'=xs.length-(i+1)/\i+1<=xs.length/\∃y3,Pv (i+1) y3 σ2 (upd H4 D (.lst (zs++[v]))))
   (fun σ2 H3=>∃m',m'<xs.length-i/\m'=xs.length-(i+1)/\i+1<=xs.length/\∃y3,Pv (i+1) y3 σ2 H3) (CW xs q1) (K6 ys q2) p hn
   (fun v σ2 H4 z1 z2 z3=>⟨zs,z1,z2,_,by lia,rfl,dv,_,z3⟩) (fun σ2 H3 z=>⟨_,by lia,rfl,dv,_,z⟩)
 .have e:i=xs.length:=by lia
  subst e;exact .inl ⟨⟨xs,q1,aI _⟩,hd zs σ H p⟩
end
abbrev iz(h:Heap)(z TI TO:Addr)(f0 f1:Value):Prop:=
 h.get? z=some { cls:=.type "zip",dict:=none,data:=.fields #[f0,f1,.bool false,.ref TI,.ref TO],slots:=#[] }
def tf(f0:Value):Prop:=f0=.none\/∃p:Addr,f0=rawInt (p:Int)
variable {ka kb:Bool}
section
variable {prog:Program} {w:World} {A:Around} {E:Value->Shared->Prop} {s:Shared}
theorem tu{z ti tq:Addr}{f0 f1:Value}{Q:Bool->Shared->Prop}(gz:iz s.heap z ti tq f0 f1)(o0:tf f0)(qt:Q true s)(qf:∀h' y6,iz h' z ti tq f0 y6->Heap.SameBut z s.heap h'->Q false { s with heap:=h' }):
  wpAny (model prog w) A (Builtin.SmallTypes.ownedTupleIsFree (.ref z)) Q E s:=by
 unfold Builtin.SmallTypes.ownedTupleIsFree;rcases o0 with rfl|⟨p,rfl⟩
 .exact ai (br gz rfl (x:=.none) rfl (wpAny_pure qt))
 .refine ai (br gz rfl (x:=rawInt (p:Int)) rfl ?_);show wpAny _ _ (loadIfAlive ((p:Int).toNat) >>= _) _ _ _;rw[qc];refine ai ?_;have al:∀ {Q':Option Obj->Shared->Prop},Q' (s.heap.get? p) s->wpAny (model prog w) A (loadIfAlive p) Q' E s:=fun h=>fun _ _ _=>h;refine al ?_;cases e:s.heap.get? p with
  |none=>exact wpAny_pure qt
  |some o=>
   show wpAny _ _ (field (.ref z) 1 >>= _) _ _ _;refine ai (br gz rfl (x:=f1) rfl ?_);by_cases c:(f1 != Value.bool true)=true
   .rw[ap c];refine ai (eC gz (by simp) fun m1 oR iF=>?_);exact wpAny_pure (qf m1 (.bool true) oR iF)
   .rw[am c];refine ai (wpAny_pure (wpAny_pure ?_));exact qf s.heap f1 gz ⟨rfl,fun _ _=>rfl⟩
theorem yH{z ti tq i1 i2 t1 t2:Addr}{k:Nat}{xs ys:Array Value}{x y a b f0 f1:Value}{Q:Value->Shared->Prop}(dj:ZipApart z ti tq i1 i2 t1 t2)(gz:iz s.heap z ti tq f0 f1)(o0:tf f0)(gi:IsPair s.heap ti (.ref i1) (.ref i2))(gq:IsPair s.heap tq a b)(r1:cB ka s.heap i1 t1 k)(r2:cB kb s.heap i2 t2 k)(g1:lm ka s.heap t1 xs)(g2:lm kb s.heap t2 ys)(ex:xs[k]?=some x)(ey:ys[k]?=some y)(q:∀h' Fb y6 u v,iz h' z ti tq Fb y6->tf Fb->IsPair h' tq u v->cB ka h' i1 t1 (k+1)->cB kb h' i2 t2 (k+1)->IsPair h' s.heap.objs.size x y->h'.objs.size=s.heap.objs.size+1->(∀c o,c≠z->c≠tq->c≠i1->c≠i2->s.heap.get? c=some o->h'.get? c=some o)->Q (.ref s.heap.objs.size) { s with heap:=h' }):
  wpAny (model prog w) A (Builtin.«zip.__next__» ⟨[.ref z],[]⟩) (fun dz s'=>∃v,dz=.done (.ret v)/\Q v s') E s:=by
 change wpAny _ _ (field (.ref z) 2 >>= _) _ _ _;refine ai (br gz rfl (x:=.bool false) rfl ?_);change wpAny _ _ (field (.ref z) 3 >>= _) _ _ _;refine ai (br gz rfl (x:=.ref ti) rfl (ai (fT gi rfl ?_)));change wpAny _ _ (Builtin.SmallTypes.ownedTupleIsFree (.ref z) >>= _) _ _ _;refine ai (tu gz o0 ?_ fun n1 y6 T4 vL=>?_)
 .simp only[jh];refine ai (fg (ai (br gz rfl (x:=.ref tq) rfl ?_)));refine ai (eC gz (by simp) fun m1 oR iF=>?_);replace oR:iz m1 z ti tq .ellipsis f1:=oR;refine ai ?_;simp only[mr,qj,gZ,g7];refine ai (ai (kh ?_));change wpAny _ _ (Builtin.SmallTypes.nextOf (.ref i1) >>= _) _ _ _;refine ai (dR (cE r1 iF dj.i1z) (jY g1 iF dj.l1z) ex fun m2 KY fX=>wpAny_pure ?_);have KZ:IsPair m2 tq a b:=aH fX dj.TOi1 (aH iF dj.TOz gq);refine ai (fT KZ rfl (ai (p7 KZ fun m3 GU rl=>?_)));replace GU:IsPair m3 tq x b:=GU;refine ai (mR (wpAny_pure ?_));refine ai (ai (kh ?_));change wpAny _ _ (Builtin.SmallTypes.nextOf (.ref i2) >>= _) _ _ _;refine ai (dR (cE (cE (cE r2 iF dj.i2z) fX dj.i12.symm) rl dj.TOi2.symm) (jY (jY (jY g2 iF dj.l2z) fX dj.l2i1) rl dj.l2TO) ey fun m4 K0 s_=>wpAny_pure ?_);have GV:IsPair m4 tq x b:=aH s_ dj.TOi2 GU;refine ai (fT GV rfl (ai (p7 GV fun m5 DL A2=>?_)));replace DL:IsPair m5 tq x y:=DL;refine ai (mR (wpAny_pure (wpAny_pure ?_)));refine ai (fT DL rfl (ai (mG ?_)));have sz:m5.objs.size=s.heap.objs.size:=by rw[A2.1,s_.1,rl.1,fX.1,iF.1]
  have K1:iz m5 z ti tq .ellipsis f1:=aH A2 dj.TOz.symm (aH s_ dj.i2z.symm (aH rl dj.TOz.symm (aH fX dj.i1z.symm oR)));have PY:∀c o,c≠z->c≠tq->c≠i1->c≠i2->s.heap.get? c=some o->m5.get? c=some o:=fun c o c1 c2 c3 c4 e=>
   aH A2 c2 (aH s_ c4 (aH rl c2 (aH fX c3 (aH iF c1 e))))
  have PZ:cB ka m5 i1 t1 (k+1):=cE (cE (cE KY rl dj.TOi1.symm) s_ dj.i12) A2 dj.TOi1.symm;have P0:cB kb m5 i2 t2 (k+1):=cE K0 A2 dj.TOi2.symm;have zl:z<m5.objs.size:=aU K1;change wpAny _ _ (Builtin.SmallTypes.ownedTupleHandOut (.ref z) (.ref m5.objs.size) >>= _) _ _ _;refine ai ?_;unfold Builtin.SmallTypes.ownedTupleHandOut;have P1:iz (m5.push { cls:=.type "tuple",data:=.seq #[x,y] }) z ti tq .ellipsis f1:=ba _ K1;refine ai (eC P1 (by simp) fun m7 GW I0=>?_);replace GW:iz m7 z ti tq (rawInt m5.objs.size) f1:=GW;refine eC GW (by simp) fun m8 DM I_=>?_;replace DM:iz m8 z ti tq (rawInt m5.objs.size) (.bool false):=DM;have up:∀c o,c≠z->m5.get? c=some o->m8.get? c=some o:=fun c o c1 e=>aH I_ c1 (aH I0 c1 (ba _ e));have K2:IsPair m8 m5.objs.size x y:=aH I_ (gJ zl) (aH I0 (gJ zl) (bv _ rfl));have Wz:m8.objs.size=s.heap.objs.size+1:=by rw[I_.1,I0.1,fU,sz]
  rw[sz] at DM K2;refine wpAny_pure ⟨_,rfl,?_⟩;change Q (.ref m5.objs.size) _;rw[sz];exact q m8 _ _ _ _ DM (.inr ⟨_,rfl⟩) (up _ _ dj.TOz DL) (PZ.at fun o e=>up _ o dj.i1z e) (P0.at fun o e=>up _ o dj.i2z e) K2 Wz fun c o c1 c2 c3 c4 e=>up c o c1 (PY c o c1 c2 c3 c4 e)
 .simp only[kZ,ei];refine ai ?_;simp only[List.forIn_toArray,gZ,g7];refine ai (ai (gI ?_));change wpAny _ _ (Builtin.SmallTypes.nextOf (.ref i1) >>= _) _ _ _;refine ai (dR (cE r1 vL dj.i1z) (jY g1 vL dj.l1z) ex fun m2 KY fX=>wpAny_pure ?_);refine wpAny_pure (ai (ai (gI ?_)));change wpAny _ _ (Builtin.SmallTypes.nextOf (.ref i2) >>= _) _ _ _;refine ai (dR (cE (cE r2 vL dj.i2z) fX dj.i12.symm) (jY (jY g2 vL dj.l2z) fX dj.l2i1) ey fun m4 K0 s_=>wpAny_pure ?_);refine wpAny_pure (wpAny_pure ?_);have sz:m4.objs.size=s.heap.objs.size:=by rw[s_.1,fX.1,vL.1]
  change wpAny _ _ (newTuple [x,y] >>= fun r=>ret r) _ _ { s with heap:=m4 };refine ai (mG ?_);have IZ:iz m4 z ti tq f0 y6:=aH s_ dj.i2z.symm (aH fX dj.i1z.symm T4);have GV:IsPair m4 tq a b:=aH s_ dj.TOi2 (aH fX dj.TOi1 (aH vL dj.TOz gq));have WA:cB ka m4 i1 t1 (k+1):=cE KY s_ dj.i12;refine wpAny_pure ⟨_,rfl,?_⟩;change Q (.ref m4.objs.size) { s with heap:=m4.push { cls:=.type "tuple",data:=.seq #[x,y] } };rw[sz];have gp:IsPair (m4.push { cls:=.type "tuple",data:=.seq #[x,y] }) s.heap.objs.size x y:=by rw[<-sz];exact bv _ rfl
  exact q _ f0 y6 a b (ba _ IZ) o0 (ba _ GV) (WA.at fun o e=>ba _ e) (K0.at fun o e=>ba _ e) gp (by rw[fU,sz]) fun c o c1 c2 c3 c4 e=>ba _ (aH s_ c4 (aH fX c3 (aH vL c1 e)))
theorem A5{z ti tq i1 i2 t1 t2:Addr}{k:Nat}{xs:Array Value}{f0 f1:Value}{Q:PySem.Fin->Shared->Prop}(hh:A.handled=none)(dj:ZipApart z ti tq i1 i2 t1 t2)(gz:iz s.heap z ti tq f0 f1)(o0:tf f0)(gi:IsPair s.heap ti (.ref i1) (.ref i2))(r1:cB ka s.heap i1 t1 k)(g1:lm ka s.heap t1 xs)(ex:xs[k]?=none)(q:∀h' e,(∀c o,c≠z->c≠i1->s.heap.get? c=some o->h'.get? c=some o)->(∃o,h'.get? e=some o/\o.cls=.type "StopIteration")->E (.ref e) { s with heap:=h' }):
  wpAny (model prog w) A (Builtin.«zip.__next__» ⟨[.ref z],[]⟩) Q E s:=by
 change wpAny _ _ (field (.ref z) 2 >>= _) _ _ _;refine ai (br gz rfl (x:=.bool false) rfl ?_);change wpAny _ _ (field (.ref z) 3 >>= _) _ _ _;refine ai (br gz rfl (x:=.ref ti) rfl (ai (fT gi rfl ?_)));change wpAny _ _ (Builtin.SmallTypes.ownedTupleIsFree (.ref z) >>= _) _ _ _;refine ai (tu gz o0 ?_ fun n1 y6 T4 vL=>?_)
 .simp only[jh];refine ai (fg (ai (br gz rfl (x:=.ref tq) rfl ?_)));refine ai (eC gz (by simp) fun m1 oR iF=>?_);replace oR:iz m1 z ti tq .ellipsis f1:=oR;refine ai ?_;simp only[mr,qj,gZ,g7];refine ai (ai (kh ?_));change wpAny _ _ (Builtin.SmallTypes.nextOf (.ref i1) >>= _) _ _ _;refine ai (kP hh (cE r1 iF dj.i1z) (jY g1 iF dj.l1z) ex fun m2 e fX he=>?_);obtain⟨oe,GX,K3⟩:=he;have GZ:iz m2 z ti tq .ellipsis f1:=fX _ _ dj.i1z.symm oR;have P3:e≠z:=fun y=>by subst y;rw[GZ] at GX;cases GX;simp at K3
  exact eC GZ (by simp) fun m3 _ rl=>q m3 e (fun c o c1 c3 y=>aH rl c1 (fX _ _ c3 (aH iF c1 y))) ⟨oe,aH rl P3 GX,K3⟩
 .simp only[kZ,ei];refine ai ?_;simp only[List.forIn_toArray,gZ,g7];refine ai (ai (gI ?_));change wpAny _ _ (Builtin.SmallTypes.nextOf (.ref i1) >>= _) _ _ _;exact ai (kP hh (cE r1 vL dj.i1z) (jY g1 vL dj.l1z) ex fun m2 e fX he=>q m2 e (fun c o c1 c3 y=>fX _ _ c3 (aH vL c1 y)) he)
theorem tw {z ti tq i1 i2 t1 t2 : Addr} {k : Nat} {xs ys : Array Value} {x y a b f0 f1 : Value} {Q : Value->Shared->Prop} (dj : ZipApart z ti tq i1 i2 t1 t2)
  (gz : iz s.heap z ti tq f0 f1) (o0 : tf f0) (gi : IsPair s.heap ti (.ref i1) (.ref i2)) (gq : IsPair s.heap tq a b) (r1 : cB ka s.heap i1 t1 k) (r2 : cB kb s.heap i2 t2 k) (g1 : lm ka s.heap t1 xs) (g2 : lm kb s.heap t2 ys) (ex : xs[k]? = some x) (ey : ys[k]? = some y)
  (q : ∀ h' Fb y6 u v,iz h' z ti tq Fb y6->tf Fb->IsPair h' tq u v->cB ka h' i1 t1 (k + 1)->cB kb h' i2 t2 (k + 1)->IsPair h' s.heap.objs.size x y->h'.objs.size = s.heap.objs.size + 1->(∀ c o,c ≠ z->c ≠ tq->c ≠ i1->c ≠ i2->s.heap.get? c = some o->h'.get? c = some o)->Q (.ref s.heap.objs.size) { s with heap:=h' }) :
  wpAny (model prog w) A (Builtin.SmallTypes.nextOf (.ref z)) Q E s:=by
 have ty : s.TypeIs (.ref z) "zip" := ⟨_,gz,rfl⟩
 unfold Builtin.SmallTypes.nextOf;refine ai (jD (name:=Str.ofString "__next__") ty F.slot_zip_next (iS F.slot_zip_next ty F.entry_zip_next ?_ (F.args_zip_next_1 _)));exact yH dj gz o0 gi gq r1 r2 g1 g2 ex ey fun h' Fb y6 u v a1 a2 a3 a4 a5 a6 a7 a8=>wpAny_pure (q h' Fb y6 u v a1 a2 a3 a4 a5 a6 a7 a8)
theorem rn{z ti tq i1 i2 t1 t2:Addr}{k:Nat}{xs:Array Value}{f0 f1:Value}{Q:Value->Shared->Prop}(hh:A.handled=none)(dj:ZipApart z ti tq i1 i2 t1 t2)(gz:iz s.heap z ti tq f0 f1)(o0:tf f0)(gi:IsPair s.heap ti (.ref i1) (.ref i2))(r1:cB ka s.heap i1 t1 k)(g1:lm ka s.heap t1 xs)(ex:xs[k]?=none)(q:∀h' e,(∀c o,c≠z->c≠i1->s.heap.get? c=some o->h'.get? c=some o)->(∃o,h'.get? e=some o/\o.cls=.type "StopIteration")->E (.ref e) { s with heap:=h' }):
  wpAny (model prog w) A (Builtin.SmallTypes.nextOf (.ref z)) Q E s:=by
 have ty:s.TypeIs (.ref z) "zip":=⟨_,gz,rfl⟩
 unfold Builtin.SmallTypes.nextOf;exact ai (jD (name:=Str.ofString "__next__") ty F.slot_zip_next (iS F.slot_zip_next ty F.entry_zip_next (A5 hh dj gz o0 gi r1 g1 ex q) (F.args_zip_next_1 _)))
structure Fc(ka kb:Bool)(z ti tq i1 i2 t1 t2:Addr)(k:Nat)(h:Heap):Prop where
 gz:∃f0 f1,iz h z ti tq f0 f1/\tf f0
 gi:IsPair h ti (.ref i1) (.ref i2)
 gq:∃u v,IsPair h tq u v
 r1:cB ka h i1 t1 k
 r2:cB kb h i2 t2 k
theorem vS{e z ti tq i1 i2 t1 t2:Addr}{i:Nat}{xs ys:Array Value}{x y gR:Value}{Q:Value->Shared->Prop}(dj:ZipApart z ti tq i1 i2 t1 t2)(he:IsEnum s.heap e z i gR)(qI:e∉[z,ti,tq,i1,i2])(st:Fc ka kb z ti tq i1 i2 t1 t2 i s.heap)(g1:lm ka s.heap t1 xs)(g2:lm kb s.heap t2 ys)(ex:xs[i]?=some x)(ey:ys[i]?=some y)(hQ:∀h1 h2,Fc ka kb z ti tq i1 i2 t1 t2 (i+1) h1->IsPair h1 s.heap.objs.size x y->h1.objs.size=s.heap.objs.size+1->(∀c o,c∉[z,tq,i1,i2]->s.heap.get? c=some o->h1.get? c=some o)->
   IsEnumOut h2 e z ((i:Int)+1) (.ref s.heap.objs.size) (s.heap.objs.size+1)->h2.get? (s.heap.objs.size+1)=some { cls:=.type "tuple",data:=.seq #[.int i s.toks,.ref s.heap.objs.size] }->(∀c o,c≠e->h1.get? c=some o->h2.get? c=some o)->
   Q (.ref (s.heap.objs.size+1)) { s with heap:=h2,toks:=s.toks+1 }):
  wpAny (model prog w) A (Builtin.«enumerate.__next__» ⟨[.ref e],[]⟩) (fun dz s'=>∃v,dz=.done (.ret v)/\Q v s') E s:=by
 obtain⟨hp,g,d,tk,os⟩:=s;obtain⟨⟨f0,f1,gz,o0⟩,gi,⟨u0,v0,gq⟩,r1,r2⟩:=st;simp only[aY,dL,dN,g_] at qI;obtain⟨n1,n2,n3,n4,n5⟩:=qI;show wpAny _ _ (field (.ref e) 2 >>= _) _ _ _;refine ai (br he rfl (x:=.ref z) rfl ?_);refine ai (tw dj gz o0 gi gq r1 r2 g1 g2 ex ey fun h₁ Fb y6 u v oR o1 P6 P7 P8 K4 y0 G0=>?_);have xz:Fc ka kb z ti tq i1 i2 t1 t2 (i+1) h₁:=⟨⟨_,_,oR,o1⟩,G0 _ _ dj.TIz dj.TITO dj.TIi1 dj.TIi2 gi,⟨_,_,P6⟩,P7,P8⟩
 replace G0:∀c o,c∉[z,tq,i1,i2]->hp.get? c=some o->h₁.get? c=some o:=fun c o hc e=>by
  simp only[aY,dL,dN,g_] at hc;exact G0 c o hc.1 hc.2.1 hc.2.2.1 hc.2.2.2 e
 have Qb:IsEnum h₁ e z i gR:=G0 e _ (by simp only[aY,dL,dN,g_];exact⟨n1,n3,n4,n5⟩) he;generalize hn:hp.objs.size=n at *;show wpAny _ _ (field (.ref e) 3 >>= _) _ _ ⟨h₁,g,d,tk,os⟩;refine ai (br Qb rfl (x:=rawInt i) rfl ?_);show wpAny _ _ (field (.ref e) 4 >>= _) _ _ ⟨h₁,g,d,tk,os⟩;refine ai (br Qb rfl (x:=.none) rfl ?_);show wpAny _ _ (mkInt i >>= _) _ _ ⟨h₁,g,d,tk,os⟩;refine ai (wpAny_mkInt ?_);show wpAny _ _ (setField (.ref e) 3 (rawInt ((i:Int)+1)) >>= _) _ _ ⟨h₁,g,d,tk+1,os⟩;refine ai (eC Qb (by simp) fun h₂ Qc NA=>?_);replace NA:Heap.SameBut e h₁ h₂:=NA;replace Qc:IsEnum h₂ e z ((i:Int)+1) gR:=Qc;show wpAny _ _ (setField (.ref e) 4 .none >>= _) _ _ ⟨h₂,g,d,tk+1,os⟩;refine ai (eC Qc (by simp) fun h₃ Qd NC=>?_);replace NC:Heap.SameBut e h₂ h₃:=NC;replace Qd:IsEnum h₃ e z ((i:Int)+1) gR:=Qd;show wpAny _ _ (newTuple [.int i tk,.ref _] >>= _) _ _ ⟨h₃,g,d,tk+1,os⟩;refine ai (mG ?_);have iW:h₃.objs.size=n+1:=by rw[NC.1,NA.1,y0]
 have WB:∀b o,b≠e->h₁.get? b=some o->h₃.get? b=some o:=fun b o hb q=>NC.extBut b o hb (NA.extBut b o hb q);have ND:IsEnum (h₃.push { cls:=.type "tuple",data:=.seq #[.int i tk,.ref n] }) e z ((i:Int)+1) gR:=ba _ Qd;have T5:(h₃.push { cls:=.type "tuple",data:=.seq #[.int i tk,.ref n] }).get? (n+1)=some { cls:=.type "tuple",data:=.seq #[.int i tk,.ref n] }:=by rw[<-iW];exact bv _ rfl
 have T6:∀b o,b≠e->h₁.get? b=some o->(h₃.push { cls:=.type "tuple",data:=.seq #[.int i tk,.ref n] }).get? b=some o:=fun b o hb q=>ba _ (WB b o hb q);show wpAny _ _ (Builtin.SmallTypes.ownedTupleIsFree (.ref e) >>= _) _ _ ⟨h₃.push { cls:=.type "tuple",data:=.seq #[.int i tk,.ref n] },g,d,tk+1,os⟩;generalize h₃.push { cls:=.type "tuple",data:=.seq #[.int i tk,.ref n] }=h₄ at ND T5 T6 |-;show wpAny _ _ (do
   let __do_lift <- Builtin.SmallTypes.ownedTupleIsFree (Value.ref e)
   _) _ _ _
 have WC:e≠n+1:=by
  have:=aU he;have:e<n:=by rw[<-hn];exact this
  lia
 rw[iW];refine ai ?_;unfold Builtin.SmallTypes.ownedTupleIsFree;refine ai (br ND rfl (x:=.none) rfl (wpAny_pure ?_));simp only[jh];refine ai (fg ?_);refine ai (br ND rfl (x:=gR) rfl ?_);refine ai (eC ND (by simp) fun h₅ Qe Qf=>?_);replace Qf:Heap.SameBut e h₄ h₅:=Qf;replace Qe:IsEnum h₅ e z ((i:Int)+1) (.ref n):=Qe;show wpAny _ _ (Builtin.SmallTypes.ownedTupleHandOut (.ref e) (.ref (n+1)) >>= _) _ _ ⟨h₅,g,d,tk+1,os⟩;refine ai ?_;unfold Builtin.SmallTypes.ownedTupleHandOut;refine ai (eC Qe (by simp) fun h₆ Qg Qh=>?_);replace Qh:Heap.SameBut e h₅ h₆:=Qh;replace Qg:IsEnumOut h₆ e z ((i:Int)+1) (.ref n) (n+1):=Qg;refine eC Qg (by simp) fun h₇ WD Qi=>?_;replace Qi:Heap.SameBut e h₆ h₇:=Qi;have kk:∀b o,b≠e->h₄.get? b=some o->h₇.get? b=some o:=fun b o hb q=>Qi.extBut b o hb (Qh.extBut b o hb (Qf.extBut b o hb q));exact ai (mR (wpAny_pure ⟨_,rfl,hQ h₁ h₇ xz K4 y0 G0 WD (kk _ _ WC.symm T5) fun c o hc q=>kk c o hc (T6 c o hc q)⟩))
theorem Fc.at{z ti tq i1 i2 t1 t2:Addr}{k:Nat}{h h':Heap}(st:Fc ka kb z ti tq i1 i2 t1 t2 k h)(kp:∀c∈[z,ti,tq,i1,i2],∀o,h.get? c=some o->h'.get? c=some o):Fc ka kb z ti tq i1 i2 t1 t2 k h':=by
 obtain⟨⟨f0,f1,gz,o0⟩,gi,⟨u,v,gq⟩,r1,r2⟩:=st;exact⟨⟨f0,f1,kp z (by simp) _ gz,o0⟩,kp ti (by simp) _ gi,⟨u,v,kp tq (by simp) _ gq⟩,r1.at fun o q=>kp i1 (by simp) o q,r2.at fun o q=>kp i2 (by simp) o q⟩
theorem yI(z ti tq:Addr):
  Meets (Builtin.«enumerate.__new__» ⟨[.type "enumerate",.ref z],[]⟩) (fun _ R s=>IsZip s.heap z ti tq .none/\
   R (.ok (.ret (.ref s.heap.objs.size))) { s with heap:=s.heap.push { cls:=.type "enumerate",data:=.fields #[.none,.bool false,.ref z,rawInt 0,.none,.none] } }):=
 .of_wp fun prog w A R s h=>by
  obtain⟨hp,g,d,tk,os⟩:=s;obtain⟨hT,h⟩:=h;have hs:=sub_enumerate;have gz:IsZip (Shared.heap ⟨hp,g,d,tk,os⟩) z ti tq .none:=hT
  wp_walk
  refine wpAny_stack_any fun st=>wpAny_pure ?_;split
  .rename_i c _ _ _ _ _;cases (c==Value.type "enumerate") <;> (wp_walk using qm gz;exact⟨_,rfl,h⟩)
  .wp_walk using qm gz
   exact⟨_,rfl,h⟩
theorem vT{z ti tq:Addr}{Q:Value->Shared->Prop}(gz:IsZip s.heap z ti tq .none)(h:∀h',IsEnum h' s.heap.objs.size z 0 .none->(∀b o,s.heap.get? b=some o->h'.get? b=some o)->Q (.ref s.heap.objs.size) { s with heap:=h' }):
  wpAny (model prog w) A (call (.type "enumerate") [.ref z]) Q E s:=by
 refine callType_new F.called_enumerate (by decide) (F.typeCall_enumerate_1 _) (F.newCall_enumerate_1 _) (fun obj=>F.args_object_init_2 obj _) F.entry_enumerate_new (yI z ti tq) ⟨gz,?_⟩;have he:IsEnum (s.heap.push { cls:=.type "enumerate",data:=.fields #[.none,.bool false,.ref z,rawInt 0,.none,.none] }) s.heap.objs.size z 0 .none:=bv _ rfl;show _/\_;exact⟨⟨_,he,rfl⟩,h _ he fun b o x=>ba _ x⟩
end
def A6(ka kb:Bool)(K:PySem.W.Frag)(a b:Addr):It:=
 ⟨fun i H=>∃xs ys x y,oQ ka K H a xs/\oQ kb K H b ys/\xs[i]?=some x/\ys[i]?=some y,fun i H v H'=>∃p q x y,v=.ref p/\H q=none/\H p=none/\p≠q/\H'=upd (upd H q (.tup [x,y])) p (.tup [.int i,.ref q])/\(∀xs,oQ ka K H a xs->xs[i]?=some x)/\∀ys,oQ kb K H b ys->ys[i]?=some y,fun i H=>∃xs,oQ ka K H a xs/\xs.length<=i,fun _ _=>False⟩
theorem vU{P:Program}{w:World}{K:PySem.W.Frag}{es:List Expr}{x1:Nat}{pos:Pos}(a b e z ti tq i1 i2:Addr)(dj:ZipApart z ti tq i1 i2 a b)(qI:e∉[z,ti,tq,i1,i2]):
  qB P w K (.Tuple es x1 pos) (A6 ka kb K a b) [e,z,ti,tq,i1,i2] e (fun i h=>(∃gR,IsEnum h e z (i:Int) gR)/\Fc ka kb z ti tq i1 i2 a b i h) where
 mem:=by simp
 obj:=fun i h st c hc=>by
  obtain⟨⟨gR,he⟩,⟨f0,f1,gz,_⟩,gi,⟨u,v,gq⟩,⟨o1,q1,c1,d1⟩,⟨o2,q2,c2,d2⟩⟩:=st;simp only[aY,dL,dN] at hc;rcases hc with rfl|rfl|rfl|rfl|rfl|rfl
  .exact⟨_,he,fun v z=>by have z':Data.fields _=Data.cell v:=z;cases z'⟩
  .exact⟨_,gz,fun v z=>by have z':Data.fields _=Data.cell v:=z;cases z'⟩
  .exact⟨_,gi,fun v z=>by have z':Data.seq _ _=Data.cell v:=z;cases z'⟩
  .exact⟨_,gq,fun v z=>by have z':Data.seq _ _=Data.cell v:=z;cases z'⟩
  .exact⟨o1,q1,fun v z=>by rw[d1] at z;cases z⟩
  .exact⟨o2,q2,fun v z=>by rw[d2] at z;cases z⟩
 keep:=fun i h h' st k=>by
  obtain⟨⟨gR,he⟩,zs⟩:=st;exact⟨⟨gR,k e (by simp) _ he⟩,zs.at fun c hc=>k c (bA _ hc)⟩
 item:=by
  intro X hP hw hK i ae s σ H E rV I hf st hg;subst hP hw hK;have hc:X.calm=true:=rV.elim id fun z=>(show False from z).elim;obtain⟨xs,ys,x,y,hx,hy,ex,ey⟩:=hg;obtain⟨us,rx,px,_⟩:=I.q hx;obtain⟨vs,ry,py,_⟩:=I.q hy;obtain⟨u,hu,ru⟩:=rx.get ex;obtain⟨v,hv,rv⟩:=ry.get ey;obtain⟨⟨gR,he⟩,zs⟩:=st;have hT:s.TypeIs (.ref e) "enumerate":=⟨_,he,rfl⟩
  unfold pyNext;refine ai (ki (jD (name:=Str.ofString "__next__") hT F.slot_enumerate_next (iS F.slot_enumerate_next hT F.entry_enumerate_next
   (vS dj he qI zs px py (x:=u) (y:=v) (by simpa using hu) (by simpa using hv) fun h1 h2 xz K4 y0 G0 ho ht Nz=>wpAny_pure ?_) (F.args_enumerate_next_1 _))))
  refine⟨_,rfl,wpAny_letOwnedTupleGo_enum ho fun h3 WE Nc=>?_⟩;have el:e<s.heap.objs.size:=aU he;have zl:∀c∈[e,z,ti,tq,i1,i2],c<s.heap.objs.size:=fun c hc=>by
   obtain⟨⟨f0,f1,gz,_⟩,gi,⟨u,v,gq⟩,⟨o1,q1,_⟩,⟨o2,q2,_⟩⟩:=zs;simp only[aY,dL,dN] at hc;rcases hc with rfl|rfl|rfl|rfl|rfl|rfl
   .exact el
   .exact aU gz
   .exact aU gi
   .exact aU gq
   .exact aU q1
   .exact aU q2
  have n0:=I.bD.fresh (aI s.heap.objs.size);have n1:=I.bD.fresh (Nat.le_succ s.heap.objs.size);have T7:∀c o,c≠e->h1.get? c=some o->h3.get? c=some o:=fun c o hc q=>(Nc.2 c hc).trans (Nz c o hc q);have fe:∀c∈[z,tq,i1,i2],fA X ae H c:=fun c hc=>hf c (by simp only[aY,dL,dN] at hc |-;rcases hc with h|h|h|h <;> simp[h]);have I1:aD X ae σ (upd H s.heap.objs.size (.tup [x,y])) { s with heap:=h1,toks:=s.toks }:=I.qS (its:=[u,v]) fe G0 (aI _) (by show 2<=sizeLine;decide) (.cons ru (.cons rv .nil)) K4;have WF:∀c∈[e],fA X ae (upd H s.heap.objs.size (.tup [x,y])) c:=fun c hc=>by
   rw[dH.mp hc];obtain⟨e0,er⟩:=hf e (by simp);exact⟨by rw[ao (aL el)];exact e0,er⟩
  have WG:h3.get? (s.heap.objs.size+1)=some { cls:=.type "tuple",data:=.seq #[.int i s.toks,.ref s.heap.objs.size] }:=(Nc.2 _ (gJ (bQ el))).trans ht;have I2:aD X ae σ (upd (upd H s.heap.objs.size (.tup [x,y])) (s.heap.objs.size+1) (.tup [.int i,.ref s.heap.objs.size])) { s with heap:=h3,toks:=s.toks+1 }:=
   aD.qS (s:={ s with heap:=h1,toks:=s.toks }) (h':=h3) (t':=s.toks+1) (its:=[.int i s.toks,.ref s.heap.objs.size]) I1 WF (fun c o hc q=>T7 c o (fun z=>hc (dH.mpr z)) q) (mJ y0) (by show 2<=sizeLine;decide) (.cons ⟨_,rfl⟩ (.cons rfl .nil)) WG
  refine⟨.ref (s.heap.objs.size+1),_,I2,rfl,⟨_,_,x,y,rfl,n0,n1,Nat.succ_ne_self _,rfl,fun zs hz=>by rw[I.xh hz hx];exact ex,fun zs hz=>by rw[I.xh hz hy];exact ey⟩,⟨⟨_,WE⟩,xz.at fun c hc o q=>T7 c o (fun z=>qI (z ▸ hc)) q⟩,fun c hc=>?_⟩;have cl:=zl c hc;rw[ao (aL (bQ cl)),ao (aL cl)];exact(hf c hc).1
 done:=by
  intro X hP hw hK i ae s σ H E rV I hf st hg;subst hP hw hK;have hc:X.calm=true:=rV.elim id fun z=>(show False from z).elim;obtain⟨xs,hx,hi⟩:=hg;obtain⟨us,rx,px,_⟩:=I.q hx;obtain⟨⟨gR,he⟩,⟨f0,f1,gz,o0⟩,gi,_,r1,r2⟩:=st;have hl:=rx.length;have hT:s.TypeIs (.ref e) "enumerate":=⟨_,he,rfl⟩
  unfold pyNext;refine ai (ki (jD (name:=Str.ofString "__next__") hT F.slot_enumerate_next (iS F.slot_enumerate_next hT F.entry_enumerate_next ?_ (F.args_enumerate_next_1 _))));change wpAny _ _ (field (.ref e) 2 >>= _) _ _ _;refine ai (br he rfl (x:=.ref z) rfl (ai (rn (I.ok.hd hc) dj gz o0 gi r1 px (by simp;lia) fun h' x kp oG=>?_)));obtain⟨o,ho,EL⟩:=oG;have fe:∀c∈[z,i1],fA X ae H c:=fun c hc=>hf c (by simp only[aY,dL,dN] at hc |-;rcases hc with h|h <;> simp[h]);exact ai (uS (T:="StopIteration") (b:=true) ⟨o,ho,EL⟩ isSubtype_stop (wpAny_pure ⟨rfl,I.wT (t':=s.toks) fe fun c o hc q=>by
   simp only[aY,dL,dN,g_] at hc;exact kp c o hc.1 hc.2 q⟩))
 self:=fun _ _ _ _ _ st h=>by
  obtain⟨⟨gR,he⟩,_⟩:=st;exact wpAny_pyIter_enum he h
section
variable {X:Cx}
def G4(ka kb:Bool)(K:PySem.W.Frag)(ta:TA):TI:=fun σ H R=>ta σ H fun vs H1=>∃a b xs ys,vs=[.ref a,.ref b]/\oQ ka K H1 a xs/\oQ kb K H1 b ys/\R (A6 ka kb K a b) H1
theorem A7{es:List Expr}{x1:Nat}{zK:Pos}{a b:Expr}{ta:TA}{p p2 pos DN:Pos}(hg:Gl X "enumerate")(hm:X.mg "enumerate"=none)(WH:Gl X "zip")(WI:X.mg "zip"=none)(ha:PA X [a,b] ta)(h1:starEach [.Call (.Name "zip" p2) [a,b] [] DN] X.env=[(false,eval (.Call (.Name "zip" p2) [a,b] [] DN) X.env)]:=by rfl)(hs:starEach [a,b] X.env=[(false,eval a X.env),(false,eval b X.env)]:=by rfl)(pb:starEach [b] X.env=[(false,eval b X.env)]:=by rfl):
  PI X (.Tuple es x1 zK) (.Call (.Name "enumerate" p) [.Call (.Name "zip" p2) [a,b] [] DN] [] pos) (G4 ka kb X.K ta):=by
 intro ae s σ H R I h;refine Call_ (ge I hg hm (by decide +kernel:bootBuiltins "enumerate"=some (.type "enumerate")) (oW ?_ h1 rfl));rw[h1];refine Calls.spliced_cons (Call_ (ge I WH WI PyProof.Rows.boot_zip (oW (cC (ha DN ae s σ H _ I h) fun us s1 ⟨vs,H1,I1,r1,q1⟩=>?_) (by rw[hs,pb]) (by rw[pb];rfl))));obtain⟨l,m,xs,ys,rfl,hl,P9,q⟩:=q1;obtain⟨u1,u2,rfl,P_,Qa⟩:=r1.two;obtain rfl:u1=Value.ref l:=P_;obtain rfl:u2=Value.ref m:=Qa;obtain⟨its,rv,pt,_⟩:=I1.q hl;obtain⟨CD,Wx,Cm,_⟩:=I1.q P9;have dv:l<s1.heap.objs.size:=by obtain⟨o,e,_⟩:=pt;exact aU e
 have rm:m<s1.heap.objs.size:=by obtain⟨o,e,_⟩:=Cm;exact aU e
 refine pQ pt Cm fun h' gz gi gq r1 r2 k=>?_;refine Calls.spliced_nil (vT gz fun h2 he k2=>?_);refine wpAny_pyIter_enum he ?_;have I2:aD X ae σ H1 { s1 with heap:=h2 }:=I1.kept (t':=s1.toks) fun b o q=>k2 b o (k b o q);have hz:s1.heap.objs.size+4<h'.objs.size:=aU gz;have zs:Fc ka kb (s1.heap.objs.size+4) (s1.heap.objs.size+2) (s1.heap.objs.size+3) s1.heap.objs.size (s1.heap.objs.size+1) l m 0 h':=⟨⟨_,_,gz,.inl rfl⟩,gi,⟨_,_,gq⟩,r1,r2⟩
 refine⟨h'.objs.size,[h'.objs.size,s1.heap.objs.size+4,s1.heap.objs.size+2,s1.heap.objs.size+3,s1.heap.objs.size,s1.heap.objs.size+1],_,_,H1,rfl,I2,vU l m _ _ _ _ _ _ (zipApart_new dv rm) ?_,⟨⟨_,he⟩,zs.at fun c _ o q=>k2 c o q⟩,fun b hb=>?_,q⟩
 .simp only[aY,dL,dN,g_];exact⟨by lia,by lia,by lia,by lia,by lia⟩
 .have r6:s1.heap.objs.size<=b:=by
   simp only[aY,dL,dN] at hb;rcases hb with rfl|rfl|rfl|rfl|rfl|rfl <;> lia
  exact I1.uY r6 (I1.bD.fresh r6)
theorem yJ{K:PySem.W.Frag}{a b:Addr}{xs ys:List V}{g:TG}{tb:TS}{D:oC}{σ:St}{H:Hp}(E2:xs.length=ys.length)(Pv:Nat->St->Hp->Prop)(h0:Pv 0 σ H)(hl:∀i σ H,i<=xs.length->Pv i σ H->oQ ka K H a xs/\oQ kb K H b ys)(hs:∀i x y p q σ H,xs[i]?=some x->ys[i]?=some y->Pv i σ H->H q=none->H p=none->p≠q->g (.ref p) σ (upd (upd H q (.tup [x,y])) p (.tup [.int i,.ref q])) fun σ2 H2=>tb { D with nx:=Pv (i+1),ct:=Pv (i+1),bk:=D.nx } σ2 H2)(hd:∀σ H,Pv xs.length σ H->D.nx σ H):
  ∃W:Nat->Nat->St->Hp->Prop,(∃m,W 0 m σ H)/\∀i m σ H,W i m σ H->
   ((A6 ka kb K a b).stop i H/\D.nx σ H)\/((A6 ka kb K a b).go i H/\∃N:St->Hp->Prop,(∀σ' H',N σ' H'->∃m',m'<m/\W (i+1) m' σ' H')/\∀x H',(A6 ka kb K a b).Ca i H x H'->g x σ H' fun σ2 H2=>tb { D with nx:=N,ct:=N,bk:=D.nx } σ2 H2):=by
 refine⟨fun i m σ H=>m=xs.length-i/\i<=xs.length/\Pv i σ H,⟨xs.length,by simp,cK _,h0⟩,?_⟩;rintro i m σ H ⟨rfl,hi,p⟩;obtain⟨q1,q2⟩:=hl i σ H hi p;by_cases dv:i<xs.length
 .have rm:i<ys.length:=by lia
  refine .inr ⟨⟨xs,ys,xs[i],ys[i],q1,q2,by simp[dv],by simp[rm]⟩,Pv (i+1),fun σ' H' p'=>⟨xs.length-(i+1),by lia,rfl,dv,p'⟩,?_⟩;rintro v H' ⟨pp,qq,x,y,rfl,hn,EI,nn,rfl,CW,K6⟩;exact hs i x y pp qq σ _ (CW xs q1) (K6 ys q2) p hn EI nn
 .have e:i=xs.length:=by lia
  subst e;exact .inl ⟨⟨xs,q1,aI _⟩,hd σ H p⟩
end
end L2
namespace PySem
section
variable {prog:Program} {w:World} {A:Around} {E:Value->Shared->Prop} {s:Shared}
end
end PySem
namespace L2
open PySem PySem.Spec PyProof.Rows
def K7(hi:Int)(n:Nat):It:=⟨fun i _=>i<n,fun i H x H'=>H'=H/\x=.int (hi-i),fun i _=>n<=i,fun _ _=>False⟩
theorem yK{P:Program}{w:World}{K:PySem.W.Frag}{tg:Expr}(it:Addr)(hi:Int)(n:Nat):qB P w K tg (K7 hi n) [it] it (fun i h=>IsRangeIter h it (hi+(i:Nat)*-1) ((n:Int)-(i:Nat)) (-1)) where
 mem:=by simp
 obj:=fun i h st b hb=>by
  have e:b=it:=by simpa using hb
  subst e;exact⟨_,st,fun v z=>by
   have z':Data.fields _=Data.cell v:=z;cases z'⟩
 keep:=fun i h h' st k=>k it (by simp) _ st
 item:=by
  intro X hP hw hK i ae s σ H E hc I hf st hg;subst hP hw hK;obtain⟨f0,f1,f2,f3,f4,f5⟩:=hf it (by simp);refine wpAny_pyNext_range_item st (by have:i<n:=hg;lia) fun h' aQ sb=>?_;have I1:aD X ae σ H { s with heap:=h',toks:=s.toks+1 }:=I.turned (fun b o hb e=>(sb.2 b hb).trans e) f0 f1 f3 f4 f5;have oH:IsRangeIter h' it (hi+((i+1:Nat):Int)*-1) ((n:Int)-((i+1:Nat):Int)) (-1):=by
   rw[show hi+((i+1:Nat):Int)*-1=hi+(i:Int)*-1+-1 by lia,show (n:Int)-((i+1:Nat):Int)=(n:Int)-(i:Int)-1 by lia];exact aQ
  exact⟨_,rfl,wb (s:={ s with heap:=h',toks:=s.toks+1 }) (n:="range_iterator") oH rfl rfl (by decide) ⟨.int (hi-i),H,I1,⟨s.toks,by rw[show hi+(i:Int)*-1=hi-(i:Int) by lia]⟩,⟨rfl,rfl⟩,oH,fun b hb=>(hf b hb).1⟩⟩
 done:=by
  intro X hP hw hK i ae s σ H E rV I hf st hg;subst hP hw hK;have hc:X.calm=true:=rV.elim id fun z=>(show False from z).elim;obtain⟨f0,f1,f2,f3,f4,f5⟩:=hf it (by simp);exact wpAny_pyNext_range_end (I.ok.hd hc) st (by have:n<=i:=hg;lia) fun h' eb=>⟨rfl,I.turned (t':=s.toks) (fun b o hb e=>eb b o hb e) f0 f1 f3 f4 f5⟩
 self:=fun _ _ _ _ _ st h=>wpAny_pyIter_rangeiter st h
section
variable {X:Cx} {tg:Expr}
def K8(ta:TA):TI:=fun σ H R=>ta σ H fun vs H1=>∃n:Nat,vs=[.int ((n:Int)-1),.int (-1),.int (-1)]/\n<=1000/\R (K7 ((n:Int)-1) n) H1
theorem xj{n:Nat}:Builtin.Range.rangeSize ((n:Int)-1) (-1) (-1)=n:=by
 unfold Builtin.Range.rangeSize;simp only[show ¬ ((-1:Int) > 0) by decide,ei];split
 .rw[show -(-1:Int)=1 by decide,Int.ediv_one];lia
 .lia
theorem yL{n:Nat}(h:n<=1000):Builtin.Range.small ((n:Int)-1) (-1) (-1)=true:=by
 unfold Builtin.Range.small;rw[xj];simp only[Builtin.Range.rangeFitsLong,gY,Bool.or_eq_true,j9,eG,show ¬ ((-1:Int) > 0) by decide,ei];refine⟨⟨⟨⟨?_,?_⟩,?_⟩,?_⟩,?_⟩ <;> lia
theorem yM{a b c:Expr}{ta:TA}{p pos:Pos}(hg:Gl X "range")(hm:X.mg "range"=none)(ha:PA X [a,b,c] ta)(hs:starEach [a,b,c] X.env=(false,eval a X.env)::starEach [b,c] X.env:=by rfl)(pb:(backTo pos (starEach [b,c] X.env)).any (·.1)=false:=by rfl):
  PI X tg (.Call (.Name "range" p) [a,b,c] [] pos) (K8 ta):=by
 intro ae s σ H R I h;refine Call_ (ge I hg hm boot_range (oW (cC (ha pos ae s σ H _ I h) fun us s1 ⟨vs,H1,I1,r1,q1⟩=>?_) hs pb));obtain⟨n,rfl,hn,q⟩:=q1;cases r1 with
 |cons ra r1=>
 cases r1 with
 |cons rb r1=>
 cases r1 with
 |cons rc r1=>
 cases r1;obtain⟨t,rfl⟩:=ra;obtain⟨u,rfl⟩:=rb;obtain⟨v,rfl⟩:=rc;refine call_range_3 (by decide) ?_ (.inl (uc (by lia)));refine wpAny_pyIter_range (IsRange.new ..) (yL hn) ?_;rw[xj];have I2:aD X ae σ H1 { s1 with heap:=s1.heap.push { cls:=.type "range",data:=.fields #[.int ((n:Int)-1) t,.int (-1) u,.int (-1) v] } }:=I1.kept (t':=s1.toks) fun b o e=>ba _ e;generalize ({ s1 with heap:=s1.heap.push { cls:=.type "range",data:=.fields #[.int ((n:Int)-1) t,.int (-1) u,.int (-1) v] } }:Shared)=s2 at I2 |-;have st:IsRangeIter (s2.heap.push { cls:=.type "range_iterator",data:=.fields #[rawInt ((n:Int)-1),rawInt (n:Int),rawInt (-1)] }) s2.heap.objs.size ((n:Int)-1+((0:Nat):Int)*-1) ((n:Int)-((0:Nat):Int)) (-1):=by
  show _=some _;rw[bv s2.heap rfl];simp
 refine⟨s2.heap.objs.size,[s2.heap.objs.size],_,_,H1,rfl,I2.kept (t':=s2.toks) fun b o e=>ba _ e,yK _ ((n:Int)-1) n,st,fun b hb=>?_,q⟩;have e:b=s2.heap.objs.size:=by simpa using hb
 subst e;exact I2.uY (aI _) (I2.bD.fresh (aI _))
end
theorem A8{hi:Int}{n:Nat}{g:TG}{tb:TS}{D:oC}{σ:St}{H:Hp}(Pv:Nat->St->Hp->Prop)(h0:Pv 0 σ H)(hs:∀i σ H,i<n->Pv i σ H->g (.int (hi-i)) σ H fun σ2 H2=>tb { D with nx:=Pv (i+1),ct:=Pv (i+1),bk:=D.nx } σ2 H2)(hd:∀σ H,Pv n σ H->D.nx σ H):
  ∃W:Nat->Nat->St->Hp->Prop,(∃m,W 0 m σ H)/\∀i m σ H,W i m σ H->
   ((K7 hi n).stop i H/\D.nx σ H)\/((K7 hi n).go i H/\∃N:St->Hp->Prop,(∀σ' H',N σ' H'->∃m',m'<m/\W (i+1) m' σ' H')/\∀x H',(K7 hi n).Ca i H x H'->g x σ H' fun σ2 H2=>tb { D with nx:=N,ct:=N,bk:=D.nx } σ2 H2):=by
 refine⟨fun i m σ H=>m=n-i/\i<=n/\Pv i σ H,⟨n,by simp,cK _,h0⟩,?_⟩;rintro i m σ H ⟨rfl,hi,p⟩;by_cases dv:i<n
 .refine .inr ⟨dv,Pv (i+1),fun σ' H' p'=>⟨n-(i+1),by lia,rfl,dv,p'⟩,fun x H' y=>?_⟩;obtain⟨e,y⟩:=y;subst e y;exact hs i σ _ dv p
 .have e:i=n:=by lia
  subst e;exact .inl ⟨aI _,hd σ H p⟩
theorem DO{X:Cx}:M8 X .FloorDiv (fun x y H Q=>∃i j,x=.int i/\y=.int j/\FR i j/\Q (.int (i / j)) H):=by
 intro ae s σ H x y v u Q I r1 r2 h;exact zA ae s σ H x y v u Q I r1 r2 h
end L2
namespace nM
open PySem L2 im
abbrev DP:Stmt:=dh (e8 38) 0
abbrev G5:Stmt:=dh (e8 38) 3
abbrev G6:Stmt:=dh (e8 38) 4
abbrev G7:Stmt:=dh (e8 38) 6
abbrev G8:Stmt:=dh (e8 38) 7
abbrev Qj:Stmt:=e8 33
structure Bx(ns:List Nat):Prop where
 l1:1<=ns.length
 l5:ns.length<=5
 sd:∀x∈ns,2<=x/\x<=8
 y7:pr ns<=32
theorem Bx.pos{ns:List Nat}(B:Bx ns):∀x∈ns,0<x:=fun x hx=>by have:=B.sd x hx;lia
theorem Bx.gd{ns:List Nat}(B:Bx ns){i:Nat}(h:i<ns.length):2<=ns.getD i 0/\ns.getD i 0<=8:=by
 rw[ce,cu h];exact B.sd _ (jG _)
abbrev iA(ns:List Nat):Ts:=jB ((gy ns).map lT)
structure A9(K:PySem.W.Frag)(mg:Str->Option Value)(CB:Addr):Prop where
 cl:yW K CB
 nN:et K CB "tied_net"
 nS:et K CB "side_row"
 Pg:mg "Box"=some (.ref CB)
def yN(pn sr:Addr):List (Str×V):=b8 "side_row" (.ref sr) (b8 "tied_net" (.ref pn) [])
theorem WJ:¬ (("tied_net":Str)="side_row"):=by decide +kernel
theorem Fd{pn sr:Addr}:(yN pn sr).lookup ("tied_net":Str)=some (.ref pn):=by unfold yN;rw[aK,am WJ,aK,ap rfl]
theorem tD{pn sr:Addr}:(yN pn sr).lookup ("side_row":Str)=some (.ref sr):=by unfold yN;rw[aK,ap rfl]
theorem iB{pn sr:Addr}{m:Str}(h1:¬ m="tied_net")(h2:¬ m="side_row"):(yN pn sr).lookup m=none:=by unfold yN;rw[aK,am h2,aK,am h1];rfl
structure dE(C CB:Addr)(H:Hp)(L:Addr->Prop)(b:Addr)(ns:List Nat):Prop where
 bx:Bx ns
 ob:∃dx pn sr,H b=some (.ins CB dx (yN pn sr))/\d_ C H L pn (pr ns) (iA ns)/\H sr=some (.tup (NV ns))
theorem dE.same{C CB b:Addr}{H H':Hp}{L:Addr->Prop}{ns:List Nat}(h:dE C CB H L b ns)(s:aM H H'):dE C CB H' L b ns:=
 let ⟨dx,pn,sr,a,c,d⟩:=h.ob
 ⟨h.bx,dx,pn,sr,s _ _ a,c.same s,s _ _ d⟩
abbrev G9(K:PySem.W.Frag)(H:Hp)(x:V)(o:Option Int):Prop:=∀H',aM H H'->Wh K H' x o
theorem xk{ns:List Nat}{h i:Nat}(hi:i<ns.length):(NV (cP ns h))[i]?=some (.int (((cP ns h).getD i 0:Nat):Int)):=by
 have:i<(cP ns h).length:=by rw[bi];exact hi
 rw[bJ,cu this,ce,cu this];rfl
section
variable {P:Program} {w:World} {K:PySem.W.Frag} {mg:Str->Option Value} {base:Heap}
theorem K9:az ["self","sides"] ["self","sides"] (ak DP):=⟨rfl,rfl,rfl,by decide +kernel,rfl,by decide +kernel,by decide +kernel⟩
def A_(C CB Pt:Addr):Sp:=fun vs H Q _=>∃ (b dx sr:Addr) (ns:List Nat),vs=[.ref b,.ref sr]/\H b=some (.ins CB dx [])/\H sr=some (.tup (NV ns))/\Bx ns/\gC Pt H/\
 ∀H',dE C CB H' (fun a=>H a=none) b ns->gC Pt H'->i4 b Pt H H'->Q .bV H'
theorem rp{ns:List Nat}(B:Bx ns):box (some (ns.map fun (n:Nat)=>some (n:Int)))=some ns:=by
 have e:gQ (ns.map fun (n:Nat)=>some (n:Int))=ns:=by
  unfold gQ;rw[dY];conv=>rhs;rw[<-gb ns]
  exact jE fun n _=>rfl
 unfold box;dsimp only;rw[e,ap];rw[a_,cf B.l1,cf B.l5,cf B.y7,Bool.and_true,Bool.true_and,Bool.true_and,jH];intro o ho;obtain⟨n,hn,rfl⟩:=bg.mp ho;have:=B.sd n hn;unfold aO;simp;lia
theorem Fe{H:Hp}{a:Addr}{ns:List Nat}(h:H a=some (.tup (NV ns))):Sd K H (.ref a) (some (ns.map fun (n:Nat)=>some (n:Int))):=by
 refine .tup h (by rw[a_,a_]) fun i x o hx ho=>?_;obtain⟨n,hn,rfl⟩:=i6 hx;rw[bJ,hn] at ho;cases ho;exact .int _
theorem G_{f C CB CS Pt:Addr}{fd:FuncData}(F:dU K "__init__" "Box.__init__" DP f fd)(B:Bl mg)(TB:A9 K mg CB)(BN:cg P w K mg base (eZ P w) 10 "box_net" ["sides"] (rk K C Pt CS)):a9 P w K mg base aX 11 f fd ["self","sides"] (A_ C CB Pt):=by
 refine F.ok K9 (fun vs H Q E h=>?_) (fun cI A outer s H vs Q E hr h=>?_)
 .obtain⟨b,dx,sr,ns,rfl,_⟩:=h;rfl
 .obtain⟨b,dx,sr,ns,rfl,hb,n6,BX,tb,q⟩:=h;refine⟨_,ag (kC (pv 0) (aw BN hr fW (aa (pv 1) af)) rfl)
   (aj (kC (pv 0) (cF bK (by rfl) B.tup gT (aa (pv 1) af)) rfl)),?_⟩
  refine⟨_,rfl,_,_,rfl,Fe n6,tb,(fun z=>by rw[rp BX] at z;cases z),fun Ff e pn H1 T8 N1 t1 s1=>?_⟩;rw[rp BX] at e;cases e;have nb:b≠Pt:=tb.not hb (by intro ps z;cases z);have T9:sr≠b:=by rintro rfl;rw[hb] at n6;cases n6
  have Nq:=s1 _ _ hb nb;refine⟨_,rfl,b,CB,dx,_,rfl,Nq,TB.cl,TB.nN,by show 0<1000;decide,?_⟩;have K_:=s1 _ _ n6 (tb.not n6 (by intro ps z;cases z));refine⟨_,rfl,sr,_,rfl,.inr ⟨bL.of (by rw[ao T9];exact K_),?_⟩⟩;refine⟨_,rfl,b,CB,dx,_,rfl,ah,TB.cl,TB.nS,by show 1<1000;decide,?_⟩;have kp:∀c o,c≠b->H1 c=some o->(upd (upd H1 b (.ins CB dx (b8 "tied_net" (.ref pn) []))) b (.ins CB dx (b8 "side_row" (.ref sr) (b8 "tied_net" (.ref pn) [])))) c=some o:=fun c o n e=>by rw[ao n,ao n];exact e
  refine q _ ⟨BX,dx,pn,sr,ah,N1.keep (fun c o l e=>kp c o (by rintro rfl;rw[hb] at l;cases l) e) (fun o e=>kp pn o (by rintro rfl;rw[hb] at T8;cases T8) e),kp _ _ T9 K_⟩ ?_ (fun c o e n1 n2=>kp c o n1 (s1 _ _ e n2));rcases t1 with z|⟨c,z,y⟩
  .exact .inl (kp _ _ nb.symm z)
  .exact .inr ⟨c,kp _ _ nb.symm z,kp _ _ (by rintro rfl;rw[Nq] at y;cases y) y⟩
end
theorem n9{pn sr:Addr}:(yN pn sr).lookup ("place":Str)=none:=iB (by decide +kernel) (by decide +kernel)
theorem Ba{pn sr:Addr}:(yN pn sr).lookup ("house":Str)=none:=iB (by decide +kernel) (by decide +kernel)
theorem Bb{pn sr:Addr}:(yN pn sr).lookup ("phase":Str)=none:=iB (by decide +kernel) (by decide +kernel)
theorem Bc{ns:List Nat}(h:∀x∈ns,0<x):0<pr ns:=by
 induction ns with
 |nil=>exact Nat.one_pos
 |cons n ns ih=>exact kj (h n bX) (ih fun x hx=>h x (bA _ hx))
theorem DQ{K:PySem.W.Frag}{a b:Addr}{xs ys:List V}{g:TG}{tb:TS}{D:oC}{σ:St}{H:Hp}(E2:xs.length=ys.length)(Pv:Nat->St->Hp->Prop)(h0:Pv 0 σ H)(hl:∀i σ H,i<=xs.length->Pv i σ H->bL K H a xs/\bL K H b ys)(hs:∀i x y p σ H,xs[i]?=some x->ys[i]?=some y->Pv i σ H->H p=none->g (.ref p) σ (upd H p (.tup [x,y])) fun σ2 H2=>tb { D with nx:=Pv (i+1),ct:=Pv (i+1),bk:=D.nx } σ2 H2)(hd:∀σ H,Pv xs.length σ H->D.nx σ H):
  ∃W:Nat->Nat->St->Hp->Prop,(∃m,W 0 m σ H)/\∀i m σ H,W i m σ H->
   ((yE false false K a b).stop i H/\D.nx σ H)\/((yE false false K a b).go i H/\∃N:St->Hp->Prop,(∀σ' H',N σ' H'->∃m',m'<m/\W (i+1) m' σ' H')/\∀x H',(yE false false K a b).Ca i H x H'->g x σ H' fun σ2 H2=>tb { D with nx:=N,ct:=N,bk:=D.nx } σ2 H2):=by
 refine⟨fun i m σ H=>m=xs.length-i/\i<=xs.length/\Pv i σ H,⟨xs.length,by simp,cK _,h0⟩,?_⟩;rintro i m σ H ⟨rfl,hi,p⟩;obtain⟨q1,q2⟩:=hl i σ H hi p;by_cases dv:i<xs.length
 .have rm:i<ys.length:=by lia
  refine .inr ⟨⟨xs,ys,xs[i],ys[i],q1,q2,by simp[dv],by simp[rm]⟩,Pv (i+1),fun σ' H' p'=>⟨xs.length-(i+1),by lia,rfl,dv,p'⟩,?_⟩;rintro v H' ⟨pp,x,y,rfl,hn,rfl,CW,K6⟩;exact hs i x y pp σ _ (CW xs q1) (K6 ys q2) p hn
 .have e:i=xs.length:=by lia
  subst e;exact .inl ⟨⟨xs,q1,aI _⟩,hd σ H p⟩
section
variable {P:Program} {w:World} {K:PySem.W.Frag} {mg:Str->Option Value} {base:Heap}
theorem xl:az ["self","house","numbers","side"] ["self","house"] (ak G5):=⟨rfl,rfl,rfl,by decide +kernel,rfl,by decide +kernel,by decide +kernel⟩
def tG(K:PySem.W.Frag)(C CB CE:Addr):Sp:=fun vs H Q E=>∃ (L:Addr->Prop) (b:Addr) (ns:List Nat) (x:V) (o:Option Int),vs=[.ref b,x]/\dE C CB H L b ns/\Wh K H x o/\(aO o 0 ((pr ns:Int)-1)=false->E (.ref CE) none H)/\∀h:Nat,h<pr ns->o=some (h:Int)->∀ (t:Addr) (H':Hp),aM H H'->H' t=some (.tup (NV (cP ns h)))->Q (.ref t) H'
theorem Ha{f C CB CE:Addr}{fd:FuncData}(F:dU K "place" "Box.place" G5 f fd)(B:Bl mg)(T:NT K mg C)(TB:A9 K mg CB)(M:dG P w K mg base (eZ P w) 4 C "check_house" ["self","thing"] (jW K C CE)):a9 P w K mg base (eZ P w) 5 f fd ["self","house"] (tG K C CB CE):=by
 obtain⟨fM,KE,mM,bM,GM⟩:=M.ex;refine F.EN xl (fun vs H Q E h=>?_) (fun cI A outer s H vs Q E hr h=>?_)
 .obtain⟨L,b,ns,x,o,rfl,_⟩:=h;rfl
 .obtain⟨L,b,ns,x,o,rfl,⟨BX,dx,pn,sr,hb,N,n6⟩,wh,k1,k2⟩:=h;obtain⟨La,tl,ol,ds,h1,_⟩:=N.ob;have l5:=BX.l5;refine⟨_,ag (cx (bU (dO (pv 0) rfl) T.cl mM GM hr bM .nil (nu (E':=E) fun _ _ _ z=>z) (aa (pv 1) af)))
   (ag (aP (i:=2) xl.nd rfl (Or.inl rfl) (hZ af))
   (ag (cy F3 rfl (gg (dO (pv 0) rfl)) (aA (i:=3) xl.nd rfl (Or.inl rfl))
    (ag (cx (nj l0 lZ lY dw (pv 2) (aa (bb gl (pv 1) (pv 3)) af)))
    (aj (kA (i:=1) xl.nd rfl (Or.inl rfl) (pv 3) DO))))
   (aj (aJ (cF bK (by rfl) B.tup gT (aa (pv 2) af)))))),?_⟩
  refine⟨_,rfl,b,CB,dx,_,_,rfl,hb,TB.cl,TB.nN,Fd,pn,La,_,rfl,h1,Dn _ _ _ _,_,rfl,L,pn,pr ns,_,x,o,rfl,N,wh,k1,fun hw=>?_⟩;obtain⟨h,hh,rfl⟩:=cV hw;obtain rfl:=jv wh;refine⟨by show 0<=sizeLine;decide,fun D hD=>?_⟩;have s0:=au (o:=.lst []) hD;refine⟨_,rfl,b,CB,dx,_,_,rfl,s0 _ _ hb,TB.cl,TB.nS,tD,sr,rfl,⟨_,bL.of (s0 _ _ n6)⟩,gj (K:=K) (xs:=NV ns) (fun i σ H2=>(∃x,σ=[some (.ref b),some (.int ((h / pr (ns.take i):Nat):Int)),some (.ref D),x])/\aM H H2/\H2 D=some (.lst (NV (cP (ns.take i) h)))) ⟨⟨_,by rw[uR];show _=[_,some (V.int ((h / 1:Nat):Int)),_,_];rw[mQ];rfl⟩,s0,ah⟩ (fun i σ H2 _ z=>bL.of (z.2.1 _ _ n6)) ?_ ?_⟩
  .rintro i x σ H2 hx ⟨⟨x',rfl⟩,sm,fK⟩;obtain⟨n,hv,rfl⟩:=i6 hx;have hi:i<ns.length:=(cj.mp hv).1;have TX:=BX.sd n (cQ hv);have tk:ns.take (i+1)=ns.take i++[n]:=by rw[dI,hv];rfl
   rw[tk,nY,fq];have dl:(cP (ns.take i) h).length<=5:=by rw[bi,gX];lia
   refine⟨_,rfl,.inl ⟨rfl,_,bo.of fK⟩,_,rfl,_,rfl,_,_,rfl,rfl,(by show (0:Int)<(n:Int);lia),D,_,_,rfl,rfl,fK,by rw[aR];exact fL dl (by decide),?_⟩;refine⟨_,rfl,_,rfl,_,_,rfl,rfl,⟨by lia,by lia⟩,⟨some (.int n),?_⟩,bT sm hD,?_⟩
   .rw[<-oY];rfl
   .rw[ah,<-iJ];rfl
  .rintro σ H2 ⟨⟨x',rfl⟩,sm,fK⟩;rw[aR,e_] at fK;exact⟨_,rfl,D,_,rfl,.inl ⟨bo.of fK,fun t ht=>k2 h hh rfl t _ (sm.trans (au ht)) ah⟩⟩
theorem n_:az ["self","place","total","step","number","side"] ["self","place"] (ak G6):=⟨rfl,rfl,rfl,by decide +kernel,rfl,by decide +kernel,by decide +kernel⟩
def Bd(C CB:Addr):Sp:=fun vs H Q _=>∃ (L:Addr->Prop) (b a:Addr) (ns es:List Nat),vs=[.ref b,.ref a]/\dE C CB H L b ns/\H a=some (.tup (NV es))/\es.length=ns.length/\(∀i,i<ns.length->es.getD i 0<ns.getD i 0)/\∀H',aM H H'->Q (.int (rO ns es:Nat)) H'
theorem Hb{f C CB:Addr}{fd:FuncData}(F:dU K "house" "Box.house" G6 f fd)(B:Bl mg)(hz:mg "zip"=none)(TB:A9 K mg CB)(R:cg P w K mg base aX 1 "is_row" ["thing","length"] (sS K))(HO:cg P w K mg base aX 3 "is_house" ["many","thing"] (iG K)):a9 P w K mg base aX 4 f fd ["self","place"] (Bd C CB):=by
 refine F.ok n_ (fun vs H Q E h=>?_) (fun cI A outer s H vs Q E hr h=>?_)
 .obtain⟨L,b,a,ns,es,rfl,_⟩:=h;rfl
 .obtain⟨L,b,a,ns,es,rfl,⟨BX,dx,pn,sr,hb,N,n6⟩,ha,el,lt,q⟩:=h;have h1:bt 1 _:=hr.mono (by decide);have l5:=BX.l5;refine⟨_,ag (bw (cH (cw (aw R h1 aG (aa (pv 1) (aa (aF aW (by rfl) B.len fc (aa (dO (pv 0) rfl) af)) af))))) cm aN)
   (ag (aP (i:=2) n_.nd rfl (Or.inl rfl) av)
   (ag (aP (i:=3) n_.nd rfl (Or.inl rfl) av)
   (ag (cy dX rfl (xi (ka:=false) (kb:=false) rfl hz (aa (pv 1) (aa (dO (pv 0) rfl) af))) (eS (n:=2) rfl (aZ (aA (i:=4) n_.nd rfl (Or.inl rfl)) (aZ (aA (i:=5) n_.nd rfl (Or.inl rfl)) dA)))
    (ag (bw (cH (cw (aw HO hr aG (aa (pv 5) (aa (pv 4) af))))) cm aN)
    (ag (kA (i:=2) n_.nd rfl (Or.inl rfl) (bb hX (pv 3) (pv 4)) zo)
    (aj (kA (i:=3) n_.nd rfl (Or.inl rfl) (pv 5) vN)))))
   (aj (aJ (pv 2)))))),?_⟩
  refine⟨_,rfl,_,rfl,b,CB,dx,_,_,rfl,hb,TB.cl,TB.nS,tD,sr,_,rfl,.inr (bL.of n6),_,_,_,rfl,.tup ha,_,rfl,ee (by show (!decide (((NV es).length:Int)=((NV ns).length:Int)))=false;rw[aR,aR,el,cf rfl];rfl) ?_⟩;refine⟨_,rfl,_,rfl,b,CB,dx,_,_,rfl,hb,TB.cl,TB.nS,tD,a,sr,_,_,rfl,bL.of ha,bL.of n6,by rw[aR,aR];lia,?_⟩;refine DQ (K:=K) (xs:=NV es) (ys:=NV ns) (by rw[aR,aR];exact el) (fun i σ H2=>(∃x4 x5,σ=[some (.ref b),some (.ref a),some (.int ((rO (ns.take i) (es.take i):Nat):Int)),some (.int ((pr (ns.take i):Nat):Int)),x4,x5])/\aM H H2) ⟨⟨_,_,rfl⟩,aM.refl _⟩ (fun i σ H2 _ z=>⟨bL.of (z.2 _ _ ha),bL.of (z.2 _ _ n6)⟩) ?_ ?_
  .rintro i x y pp σ H2 hx hy ⟨⟨x4,x5,rfl⟩,sm⟩ WK;obtain⟨e,he,rfl⟩:=i6 hx;obtain⟨n,hn,rfl⟩:=i6 hy;have hi:i<ns.length:=(cj.mp hn).1;have l:=lt i hi;rw[ce,he,ce,hn] at l;have l:e<n:=l;have n8:=BX.sd n (cQ hn);have tk:ns.take (i+1)=ns.take i++[n]:=by rw[dI,hn];rfl
   have WL:es.take (i+1)=es.take i++[e]:=by rw[dI,he];rfl
   rw[tk,WL,sZ (by rw[gX,gX,el]),fq];refine⟨pp,_,rfl,bL.of ah,rfl,_,_,rfl,_,_,rfl,rfl,?_⟩;refine⟨_,rfl,_,rfl,_,_,_,rfl,.int _,_,rfl,ee (by rw[bW l];rfl) ?_⟩;refine⟨_,rfl,_,rfl,_,rfl,_,_,rfl,rfl,.inr ⟨by lia,by lia⟩,_,_,rfl,rfl,?_⟩;refine⟨_,rfl,_,rfl,_,_,rfl,rfl,.inr ⟨by lia,by lia⟩,⟨_,_,rfl⟩,sm.trans (au WK)⟩
  .rintro σ H2 ⟨⟨x4,x5,rfl⟩,sm⟩;rw[aR,el,e_,<-el,e_];exact⟨_,rfl,q H2 sm⟩
end
def oV:Option Nat->V
 |none=>.bV
 |some y=>.int (y:Int)
theorem DR(n:Int)(tl ol ds:Addr):(kN n tl ol ds).lookup ("out":Str)=none:=lU n tl ol ds (by decide +kernel) (by decide +kernel) (by decide +kernel) (by decide +kernel)
theorem Fg(n:Int)(tl ol ds:Addr):(kN n tl ol ds).lookup ("many":Str)=none:=lU n tl ol ds (by decide +kernel) (by decide +kernel) (by decide +kernel) (by decide +kernel)
def Be(ns:List Nat)(o o':Option Int):Bool:=aO o 0 ((pr ns:Int)-1)&&(aO o' 0 ((pr ns:Int)-1)&&decide ((o.getD 0,o'.getD 0)∈iA ns))
theorem Bg{n a b:Nat}{ts:Ts}(F:iN n ts)(ha:a<n):yY (.int (b:Int)) (NV (ci n ts a))=decide (((a:Int),(b:Int))∈ts):=by
 rw[je,ut];refine Iff.trans ?_ (de F ha);unfold yY;rw[uL];constructor
 .rintro⟨v,hv,e⟩;obtain⟨y,hy,rfl⟩:=bg.mp hv;have:(((y:Nat):Int)==(b:Int))=true\/((b:Int)==((y:Nat):Int))=true:=by first|exact .inl e|exact .inr e
  have:y=b:=by rcases this with t|t <;> simp at t <;> lia
  rw[<-this];exact hy
 .intro hy;exact⟨.int (b:Int),bg.mpr ⟨b,hy,rfl⟩,by show ((b:Int)==(b:Int))=true;simp⟩
theorem rq{xs:List Nat}:(NV xs).all iY=true:=jH.mpr fun x hx=>by obtain⟨y,_,rfl⟩:=bg.mp hx;rfl
theorem He{ns:List Nat}{a b:Int}:(a,b)∈iA ns↔(b,a)∈iA ns:=⟨fun h=>by
 rcases eK.mp h with z|z
 .exact eK.mpr (.inr z)
 .exact eK.mpr (.inl z),fun h=>by
 rcases eK.mp h with z|z
 .exact eK.mpr (.inr z)
 .exact eK.mpr (.inl z)⟩
theorem Lb{ns:List Nat}{a b k:Nat}(hk:k<ns.length)(hj:∀j,j<k->(cP ns a).getD j 0=(cP ns b).getD j 0)(ne:(cP ns a).getD k 0≠(cP ns b).getD k 0):rP ns a b=some k:=
 List.find?_range_eq_some.mpr ⟨cf ne,eE.mpr hk,fun j h=>by rw[eN (fun z=>z (hj j h))];rfl⟩
theorem Lc{ns:List Nat}{a b:Nat}(hj:∀j,j<ns.length->(cP ns a).getD j 0=(cP ns b).getD j 0):rP ns a b=none:=
 List.find?_eq_none.mpr fun j h=>by simpa using hj j (eE.mp h)
section
variable {P:Program} {w:World} {K:PySem.W.Frag} {mg:Str->Option Value} {base:Heap}
theorem Qk:az ["net","one","other"] ["net","one","other"] (ak Qj):=⟨rfl,rfl,rfl,by decide +kernel,rfl,by decide +kernel,by decide +kernel⟩
def Hf(K:PySem.W.Frag)(C:Addr):Sp:=fun vs H Q _=>∃ (L:Addr->Prop) (p:Addr) (ns:List Nat) (x y:V) (o o':Option Int),vs=[.ref p,x,y]/\d_ C H L p (pr ns) (iA ns)/\G9 K H x o/\G9 K H y o'/\∀H',aM H H'->Q (.bl (Be ns o o')) H'
theorem Ld{f C CE:Addr}{fd:FuncData}(F:dU K "are_tied" "are_tied" Qj f fd)(T:NT K mg C)(HO:cg P w K mg base aX 3 "is_house" ["many","thing"] (iG K))(MM:dG P w K mg base aX 1 C "many" ["self"] (vM C))(MO:dG P w K mg base (eZ P w) 5 C "out" ["self","house"] (w6 K C CE Do)):a9 P w K mg base aX 6 f fd ["net","one","other"] (Hf K C):=by
 obtain⟨fM,KE,mM,bM,GM⟩:=MM.ex;obtain⟨fO,WM,mO,bO,GO⟩:=MO.ex;refine F.ok Qk (fun vs H Q E h=>?_) (fun cI A outer s H vs Q E hr h=>?_)
 .obtain⟨L,p,ns,x,y,o,o',rfl,_⟩:=h;rfl
 .obtain⟨L,p,ns,x,y,o,o',rfl,N,wx,wy,q⟩:=h;have h1:bt 1 _:=hr.mono (by decide);have h3:bt 3 _:=hr.mono (by decide);refine⟨_,(ag (bw (PW.pt (mX (cH (cw (aw HO h3 aG (aa (d6 (pv 0) T.cl mM GM h1 bM .nil aG) (aa (pv 1) af))))) (jl (cH (cw (aw HO h3 aG (aa (d6 (pv 0) T.cl mM GM h1 bM .nil aG) (aa (pv 2) af)))))))) (aj (aJ iV)) aN)
   (aj (aJ (jm (gm iD (pv 2) (bU (pv 0) T.cl mO GO hr bO .nil fW (aa (pv 1) af)) rfl) (ky (gm iD (pv 1) (bU (pv 0) T.cl mO GO hr bO .nil fW (aa (pv 2) af)) rfl)))))),?_⟩
  obtain⟨dx,tl,ol,ds,hN,_⟩:=N.ob;have Fi:=N.nP;refine⟨_,rfl,p,dx,_,rfl,hN,Fg _ _ _ _,L,p,pr ns,_,rfl,N,_,rfl,x,o,_,rfl,wx _ (aM.refl _),_,rfl,?_⟩;cases hw:aO o 0 ((pr ns:Int)-1) with
  |false=>exact kG (kG (by have:=q H (aM.refl _);unfold Be at this;rw[hw] at this;exact this))
  |true=>
  refine eU ⟨_,rfl,p,dx,_,rfl,hN,Fg _ _ _ _,L,p,pr ns,_,rfl,N,_,rfl,y,o',_,rfl,wy _ (aM.refl _),_,rfl,?_⟩;cases vC:aO o' 0 ((pr ns:Int)-1) with
  |false=>exact kG (by have:=q H (aM.refl _);unfold Be at this;rw[hw,vC] at this;exact this)
  |true=>
  refine eU ?_;obtain⟨a,ha,rfl⟩:=cV hw;obtain⟨b,hb,rfl⟩:=cV vC;obtain rfl:=jv (wx _ (aM.refl _));obtain rfl:=jv (wy _ (aM.refl _));refine⟨_,rfl,_,rfl,p,dx,_,rfl,hN,DR _ _ _ _,_,rfl,L,p,pr ns,_,_,_,rfl,N,.int _,(fun z=>by rw[hw] at z;cases z),fun i hi e r H1 s1 xb Ql=>?_⟩;cases e;refine⟨r,_,rfl,.inl (bo.of Ql),rfl,rq,_,rfl,?_⟩;have e1:(if false=true then !yY (V.int (b:Int)) (NV (ci (pr ns) (iA ns) a)) else yY (V.int (b:Int)) (NV (ci (pr ns) (iA ns) a)))=decide (((a:Int),(b:Int))∈iA ns):=Bg Fi ha;rw[e1];have q':∀H',aM H H'->Q (.bl (decide (((a:Int),(b:Int))∈iA ns))) H':=fun H' s'=>by have:=q H' s';unfold Be at this;rw[hw,vC] at this;exact this
  cases ht:decide (((a:Int),(b:Int))∈iA ns) with
  |false=>
   rw[ht] at q';exact eU (q' H1 s1)
  |true=>
   rw[ht] at q';refine kG ⟨_,rfl,_,rfl,p,dx,_,rfl,s1 _ _ hN,DR _ _ _ _,_,rfl,L,p,pr ns,_,_,_,rfl,N.same s1,.int _,(fun z=>by rw[vC] at z;cases z),fun i hi e r2 H2 s2 y4 GT=>?_⟩;cases e;refine⟨r2,_,rfl,.inl (bo.of GT),rfl,rq,?_⟩;have e2:(if false=true then !yY (V.int (a:Int)) (NV (ci (pr ns) (iA ns) b)) else yY (V.int (a:Int)) (NV (ci (pr ns) (iA ns) b)))=true:=(Bg Fi hb).trans (cf (He.mp (i_ ht)));rw[e2];exact q' H2 (s1.trans s2)
theorem xm:az ["self","house","home","here","there","k"] ["self","house","home"] (ak G8):=⟨rfl,rfl,rfl,by decide +kernel,rfl,by decide +kernel,by decide +kernel⟩
def Bh(K:PySem.W.Frag)(C CB CE:Addr):Sp:=fun vs H Q E=>∃ (L:Addr->Prop) (b:Addr) (ns:List Nat) (x y:V) (o o':Option Int),vs=[.ref b,x,y]/\dE C CB H L b ns/\G9 K H x o/\G9 K H y o'/\(aO o 0 ((pr ns:Int)-1)=false\/aO o' 0 ((pr ns:Int)-1)=false->∀H',aM H H'->E (.ref CE) none H')/\∀h g:Nat,h<pr ns->g<pr ns->o=some (h:Int)->o'=some (g:Int)->∀H',aM H H'->Q (oV (rP ns h g)) H'
theorem Hg{f C CB CE:Addr}{fd:FuncData}(F:dU K "phase" "Box.phase" G8 f fd)(B:Bl mg)(TB:A9 K mg CB)(M:dG P w K mg base (eZ P w) 5 CB "place" ["self","house"] (tG K C CB CE)):a9 P w K mg base (eZ P w) 6 f fd ["self","house","home"] (Bh K C CB CE):=by
 obtain⟨fM,KE,mM,bM,GM⟩:=M.ex;refine F.EN xm (fun vs H Q E h=>?_) (fun cI A outer s H vs Q E hr h=>?_)
 .obtain⟨L,b,ns,x,y,o,o',rfl,_⟩:=h;rfl
 .obtain⟨L,b,ns,x,y,o,o',rfl,BA,wx,wy,k1,k2⟩:=h;obtain⟨dx,pn,sr,hb,N,n6⟩:=BA.ob;have l5:=BA.bx.l5;refine⟨_,ag (aP (i:=3) xm.nd rfl (Or.inl rfl) (bU (pv 0) TB.cl mM GM hr bM .nil (nu (E':=E) fun _ _ _ z=>z) (aa (pv 1) af)))
   (ag (aP (i:=4) xm.nd rfl (Or.inl rfl) (bU (pv 0) TB.cl mM GM hr bM .nil (nu (E':=E) fun _ _ _ z=>z) (aa (pv 2) af)))
   (ag (cy F3 rfl (cn rfl B.range (aa (aF aW (by rfl) B.len fc (aa (pv 3) af)) af)) (aA (i:=5) xm.nd rfl (Or.inl rfl))
    (aj (bw (aT k7 (cZ jo (pv 3) (pv 5) (fun _ _=>rfl)) (cZ jo (pv 4) (pv 5) (fun _ _=>rfl)) (be _)) (aj (aJ (pv 5))) aN)))
   (aj (aJ gc)))),?_⟩
  refine⟨_,rfl,b,dx,_,rfl,hb,n9,_,rfl,L,b,ns,x,o,rfl,BA,wx _ (aM.refl _),(fun z=>k1 (.inl z) _ (aM.refl _)),fun h hh e t1 H1 s1 NE=>?_⟩;subst e;refine⟨_,rfl,b,dx,_,rfl,s1 _ _ hb,n9,_,rfl,L,b,ns,y,o',rfl,BA.same s1,wy _ s1,(fun z=>k1 (.inr z) _ s1),fun g hg e t2 H2 s2 GK=>?_⟩;subst e;have Le:=s2 _ _ NE;have sW:=s1.trans s2;have dl:(NV (cP ns h)).length=ns.length:=by rw[aR,bi]
  refine⟨_,rfl,t1,_,rfl,.inr (bL.of Le),_,rfl,by lia,by rw[dl];lia,?_⟩;rw[dl];refine eL (n:=ns.length) (lo:=0) (fun k σ H3=>H3=H2/\(∃z,σ=[some (.ref b),some x,some y,some (.ref t1),some (.ref t2),z])/\∀j,j<k->(cP ns h).getD j 0=(cP ns g).getD j 0) ⟨rfl,⟨_,rfl⟩,fun j hj=>absurd hj (mx _)⟩ ?_ ?_
  .rintro k σ _ hk ⟨rfl,⟨z,rfl⟩,hj⟩;rw[fz];refine⟨_,rfl,_,rfl,t1,_,_,_,rfl,rfl,bL.of Le,bz (xk hk),_,rfl,_,rfl,t2,_,_,_,rfl,rfl,bL.of GK,bz (xk hk),rfl,_,rfl,?_⟩;by_cases c:(cP ns h).getD k 0=(cP ns g).getD k 0
   .rw[c,cf rfl];exact eU ⟨rfl,⟨_,rfl⟩,fun j WN=>by
     rcases Nat.lt_succ_iff_lt_or_eq.mp WN with z|z
     .exact hj j z
     .rw[z];exact c⟩
   .rw[eN (fun z=>c (by injection z with z;exact ff z))];refine kG ⟨_,rfl,?_⟩;have:=k2 h g hh hg rfl rfl _ sW;rw[Lb hk hj c] at this;exact this
  .rintro σ _ ⟨rfl,⟨z,rfl⟩,hj⟩;have:=k2 h g hh hg rfl rfl _ sW;rw[Lc hj] at this;exact this
end
end nM
namespace L2
open PySem PySem.Spec PyProof.Rows
end L2
namespace nM
open PySem L2 im
theorem DS{ns:List Nat}{o o':Option Int}(h:Be ns o o'=true):∃a b:Nat,a<pr ns/\b<pr ns/\o=some (a:Int)/\o'=some (b:Int)/\((a:Int),(b:Int))∈iA ns:=by
 unfold Be at h;obtain⟨h1,h2⟩:=Bool.and_eq_true_iff.mp h;obtain⟨h4,h3⟩:=Bool.and_eq_true_iff.mp h2;obtain⟨a,ha,rfl⟩:=cV h1;obtain⟨b,hb,rfl⟩:=cV h4;exact⟨a,b,ha,hb,rfl,rfl,i_ h3⟩
section
variable {P:Program} {w:World} {K:PySem.W.Frag} {mg:Str->Option Value} {base:Heap}
theorem Lf:az ["self","one","other"] ["self","one","other"] (ak G7):=⟨rfl,rfl,rfl,by decide +kernel,rfl,by decide +kernel,by decide +kernel⟩
def tI(K:PySem.W.Frag)(C CB CT:Addr):Sp:=fun vs H Q E=>∃ (L:Addr->Prop) (b:Addr) (ns:List Nat) (x y:V) (o o':Option Int),vs=[.ref b,x,y]/\dE C CB H L b ns/\G9 K H x o/\G9 K H y o'/\(Be ns o o'=false->∀H',aM H H'->E (.ref CT) none H')/\∀h g:Nat,h<pr ns->g<pr ns->o=some (h:Int)->o'=some (g:Int)->Be ns o o'=true->∀H',aM H H'->Q (oV (rP ns h g)) H'
theorem Hh{f C CB CE CT:Addr}{fd:FuncData}(F:dU K "way" "Box.way" G7 f fd)(TB:A9 K mg CB)(e:Er K mg "NoTie" CT)(AT:cg P w K mg base aX 6 "are_tied" ["net","one","other"] (Hf K C))(M:dG P w K mg base (eZ P w) 6 CB "phase" ["self","house","home"] (Bh K C CB CE)):a9 P w K mg base (eZ P w) 7 f fd ["self","one","other"] (tI K C CB CT):=by
 obtain⟨fM,KE,mM,bM,GM⟩:=M.ex;refine F.EN Lf (fun vs H Q E h=>?_) (fun cI A outer s H vs Q E hr h=>?_)
 .obtain⟨L,b,ns,x,y,o,o',rfl,_⟩:=h;rfl
 .obtain⟨L,b,ns,x,y,o,o',rfl,BA,wx,wy,k1,k2⟩:=h;obtain⟨dx,pn,sr,hb,N,n6⟩:=BA.ob;refine⟨_,ag (bw (cH (cw (aw AT hr aG (aa (dO (pv 0) rfl) (aa (pv 1) (aa (pv 2) af)))))) (aj (ic (q:=fun H1=>E (.ref CT) none H1) rfl e.ok rfl e.at_ (aa mW af) (fun _ _ _ _ _ _ _ I m q=>h_ I m q))) aN)
   (aj (aJ (bU (pv 0) TB.cl mM GM hr bM .nil fW (aa (pv 1) (aa (pv 2) af))))),?_⟩
  refine⟨_,rfl,b,CB,dx,_,_,rfl,hb,TB.cl,TB.nN,Fd,_,rfl,_,rfl,L,pn,ns,x,y,o,o',rfl,N,wx,wy,fun H1 s1=>⟨_,rfl,?_⟩⟩;cases ha:Be ns o o' with
  |false=>exact kG ⟨by show 1<=sizeLine;decide,k1 ha H1 s1⟩
  |true=>
   refine eU ?_;obtain⟨h,g,hh,hg,rfl,rfl,_⟩:=DS ha;exact⟨_,rfl,b,dx,_,rfl,s1 _ _ hb,Bb,_,rfl,_,rfl,L,b,ns,x,y,_,_,rfl,BA.same s1,fun H' s'=>wx H' (s1.trans s'),fun H' s'=>wy H' (s1.trans s'),(fun z=>by rcases z with z|z <;> (rw[bW (by assumption)] at z;cases z)),fun h' g' WO WP e1 e2 H' s'=>k2 h' g' WO WP e1 e2 ha H' (s1.trans s')⟩
end
def mi:List Nat->(Nat->Bool)->Nat->Nat
 |[],_,_=>0
 |n::ns,w,h=>(if w 0=true then n-1-h % n else h % n)+n*mi ns (fun i=>w (i+1)) (h / n)
def md:List Nat->(Nat->Bool)->List Nat->List Nat
 |n::ns,w,d::ds=>(if w 0=true then n-1-d else d)::md ns (fun i=>w (i+1)) ds
 |_,_,_=>[]
theorem oa:∀ {ns:List Nat} {w:Nat->Bool} {h:Nat},(md ns w (cP ns h)).length=ns.length
 |[],_,_=>rfl
 |n::ns,w,h=>by show (md ns _ (cP ns (h / n))).length+1=ns.length+1;rw[oa]
theorem kQ:∀ {ns ds:List Nat} {w:Nat->Bool} {i:Nat},i<ns.length->i<ds.length->(md ns w ds).getD i 0=if w i=true then ns.getD i 0-1-ds.getD i 0 else ds.getD i 0
 |[],_,_,_,h,_=>absurd h (mx _)
 |n::ns,[],_,_,_,h=>absurd h (mx _)
 |n::ns,d::ds,w,0,_,_=>rfl
 |n::ns,d::ds,w,i+1,h1,h2=>kQ (ns:=ns) (ds:=ds) (w:=fun i=>w (i+1)) (i:=i) (uf h1) (uf h2)
theorem vV:∀ {ns:List Nat} {w:Nat->Bool} {h:Nat},rO ns (md ns w (cP ns h))=mi ns w h
 |[],_,_=>rfl
 |n::ns,w,h=>by
  show _+n*rO ns (md ns _ (cP ns (h / n)))=_;rw[vV];rfl
def y8(c:Bool)(n d:Nat):Nat:=if c=true then n-1-d else d
theorem Bi{c:Bool}{n d:Nat}(h:d<n):y8 c n d<n:=by unfold y8;split <;> lia
theorem Lg{c:Bool}{n d:Nat}(h:d<n):y8 c n (y8 c n d)=d:=by unfold y8;split <;> lia
theorem ft{n:Nat}{ns:List Nat}{w:Nat->Bool}{h:Nat}:mi (n::ns) w h=y8 (w 0) n (h % n)+n*mi ns (fun i=>w (i+1)) (h / n):=rfl
theorem Bj{n d r:Nat}(h:d<n):(d+n*r) % n=d:=by rw[zg,jc h]
theorem Bk{n d r:Nat}(h:d<n):(d+n*r) / n=r:=by rw[Nat.add_mul_div_left _ _ (Nat.zero_lt_of_lt h),uG h,Nat.zero_add]
theorem jy{n:Nat}{ns:List Nat}{w:Nat->Bool}{h:Nat}(hn:0<n):mi (n::ns) w h % n=y8 (w 0) n (h % n):=by rw[ft,Bj (Bi (eH h hn))]
theorem jz{n:Nat}{ns:List Nat}{w:Nat->Bool}{h:Nat}(hn:0<n):mi (n::ns) w h / n=mi ns (fun i=>w (i+1)) (h / n):=by rw[ft,Bk (Bi (eH h hn))]
theorem jZ:∀ {ns:List Nat} {w:Nat->Bool} {h:Nat},(∀x∈ns,0<x)->mi ns w h<pr ns
 |[],_,_,_=>Nat.zero_lt_one
 |n::ns,w,h,hn=>by
  have ih:=jZ (ns:=ns) (w:=fun i=>w (i+1)) (h:=h / n) fun x hx=>hn x (bA _ hx);have d:=Bi (c:=w 0) (eH h (hn n bX));rw[ft];have:=gW n (qa ih);rw[qw] at this;show _<n*pr ns;lia
theorem og:∀ {ns:List Nat} {w:Nat->Bool} {h:Nat},(∀x∈ns,0<x)->h<pr ns->mi ns w (mi ns w h)=h
 |[],_,h,_,hh=>by have hh:h<1:=hh;show 0=h;lia
 |n::ns,w,h,hn,hh=>by
  have n0:=hn n bX;rw[ft (h:=mi (n::ns) w h),jy n0,jz n0,Lg (eH h n0),og (fun x hx=>hn x (bA _ hx)) (kT hh),qi]
theorem Fh:∀ {ns:List Nat} {w:Nat->Bool} {k a b:Nat},(∀x∈ns,0<x)->DI ns k a b->if w k=true then DI ns k (mi ns w b) (mi ns w a) else DI ns k (mi ns w a) (mi ns w b)
 |[],_,_,_,_,_,h=>h.elim
 |n::ns,w,0,a,b,hn,⟨h,e⟩=>by
  subst e;have n0:=hn n bX;obtain⟨s1,s2⟩:=dq h;by_cases c:w 0=true
  .rw[ap c];refine⟨?_,?_⟩
   .rw[jy n0,s2,c];unfold y8;rw[ap rfl];lia
   .rw[ft,ft,s1,s2,c];unfold y8;rw[ap rfl,ap rfl];lia
  .rw[am c];have c:w 0=false:=qd.mpr c;refine⟨?_,?_⟩
   .rw[jy n0,c];unfold y8;rw[am bq];exact h
   .rw[ft,ft,s1,s2,c];unfold y8;rw[am bq,am bq];lia
 |n::ns,w,k+1,a,b,hn,⟨e,h⟩=>by
  have n0:=hn n bX;have ih:=Fh (w:=fun i=>w (i+1)) (fun x hx=>hn x (bA _ hx)) h;have e2:mi (n::ns) w a % n=mi (n::ns) w b % n:=by rw[jy n0,jy n0,e]
  by_cases c:w (k+1)=true
  .rw[ap c] at ih |-;exact⟨e2.symm,by rw[jz n0,jz n0];exact ih⟩
  .rw[am c] at ih |-;exact⟨e2,by rw[jz n0,jz n0];exact ih⟩
theorem xn{ns:List Nat}{w:Nat->Bool}{k a b:Nat}(hn:∀x∈ns,0<x)(h:DK ns a b k):DK ns (mi ns w a) (mi ns w b) k:=by
 rcases h with h|h <;> have u:=Fh (w:=w) hn h <;> by_cases c:w k=true
 .rw[ap c] at u;exact .inr u
 .rw[am c] at u;exact .inl u
 .rw[ap c] at u;exact .inl u
 .rw[am c] at u;exact .inr u
def l1:List Nat->Nat->Nat->Nat
 |[],_,_=>0
 |n::ns,a,b=>j3 (a % n) (b % n)+l1 ns (a / n) (b / n)
theorem Fj:∀ {ns:List Nat} {w:Nat->Bool} {a b:Nat},(∀x∈ns,0<x)->l1 ns (mi ns w a) (mi ns w b)=l1 ns a b
 |[],_,_,_,_=>rfl
 |n::ns,w,a,b,hn=>by
  have n0:=hn n bX;have ha:=eH a n0;have hb:=eH b n0;show j3 (mi (n::ns) w a % n) (mi (n::ns) w b % n)+l1 ns (mi (n::ns) w a / n) (mi (n::ns) w b / n)=j3 (a % n) (b % n)+l1 ns (a / n) (b / n);rw[jy n0,jy n0,jz n0,jz n0,Fj fun x hx=>hn x (bA _ hx)];congr 1;unfold y8 j3;split <;> lia
theorem xo:∀ {ns:List Nat} {a:Nat},l1 ns a a=0
 |[],_=>rfl
 |n::ns,a=>by
  show j3 (a % n) (a % n)+l1 ns (a / n) (a / n)=0;rw[xo];unfold j3;lia
theorem xp:∀ {ns:List Nat} {a b:Nat},a<pr ns->b<pr ns->l1 ns a b=0->a=b
 |[],a,b,ha,hb,_=>by have ha:a<1:=ha;have hb:b<1:=hb;lia
 |n::ns,a,b,ha,hb,h=>by
  have h:j3 (a % n) (b % n)+l1 ns (a / n) (b / n)=0:=h;have e:=xp (kT ha) (kT hb) (by lia:l1 ns (a / n) (b / n)=0);have m:a % n=b % n:=by unfold j3 at h;lia
  rw[<-qi a n,<-qi b n,m,e]
theorem Bm:∀ {ns:List Nat} {k a b c:Nat},DI ns k a b->l1 ns a c<=l1 ns b c+1/\l1 ns b c<=l1 ns a c+1
 |[],_,_,_,_,h=>h.elim
 |n::ns,0,a,b,c,⟨h,e⟩=>by
  subst e;obtain⟨s1,s2⟩:=dq h;show j3 (a % n) (c % n)+l1 ns (a / n) (c / n)<=j3 ((a+1) % n) (c % n)+l1 ns ((a+1) / n) (c / n)+1/\j3 ((a+1) % n) (c % n)+l1 ns ((a+1) / n) (c / n)<=j3 (a % n) (c % n)+l1 ns (a / n) (c / n)+1;rw[s1,s2];unfold j3;lia
 |n::ns,k+1,a,b,c,⟨e,h⟩=>by
  have ih:=Bm (c:=c / n) h;show j3 (a % n) (c % n)+l1 ns (a / n) (c / n)<=j3 (b % n) (c % n)+l1 ns (b / n) (c / n)+1/\j3 (b % n) (c % n)+l1 ns (b / n) (c / n)<=j3 (a % n) (c % n)+l1 ns (a / n) (c / n)+1;rw[e];lia
theorem Lh{ns:List Nat}{k a b c:Nat}(h:DK ns a b k):l1 ns a c<=l1 ns b c+1:=by
 rcases h with h|h
 .exact(Bm h).1
 .exact(Bm h).2
theorem xq:∀ {ns:List Nat} {a b d:Nat},(∀x∈ns,0<x)->a<pr ns->b<pr ns->l1 ns a b=d+1->∃c,c<pr ns/\(∃k,DK ns a c k)/\l1 ns c b=d
 |[],_,_,_,_,_,_,h=>by cases h
 |n::ns,a,b,d,hn,ha,hb,h=>by
  have n0:=hn n bX;have h:j3 (a % n) (b % n)+l1 ns (a / n) (b / n)=d+1:=h;have la:=eH a n0;have lb:=eH b n0;rcases Nat.lt_trichotomy (a % n) (b % n) with c|c|c
  .have hs:a % n+1<n:=by lia
   obtain⟨s1,s2⟩:=dq hs;refine⟨a+1,?_,⟨0,.inl ⟨hs,rfl⟩⟩,?_⟩
   .rw[<-qi (a+1) n,s1,s2];have q:=gW n (qa (kT ha));rw[qw] at q;show _<n*pr ns;lia
   .show j3 ((a+1) % n) (b % n)+l1 ns ((a+1) / n) (b / n)=d;rw[s1,s2];unfold j3 at h |-;lia
  .have e:l1 ns (a / n) (b / n)=d+1:=by rw[c] at h;unfold j3 at h;lia
   obtain⟨c',hc,⟨k,t⟩,hl⟩:=xq (fun x hx=>hn x (bA _ hx)) (kT ha) (kT hb) e;have m1:(a % n+n*c') % n=a % n:=Bj la;have m2:(a % n+n*c') / n=c':=Bk la;refine⟨a % n+n*c',?_,⟨k+1,?_⟩,?_⟩
   .have q:=gW n (qa hc);rw[qw] at q;show _<n*pr ns;lia
   .rcases t with t|t
    .exact .inl ⟨m1.symm,by rw[m2];exact t⟩
    .exact .inr ⟨m1,by rw[m2];exact t⟩
   .show j3 ((a % n+n*c') % n) (b % n)+l1 ns ((a % n+n*c') / n) (b / n)=d;rw[m1,m2,hl,c];unfold j3;lia
  .obtain⟨a',rfl⟩:∃a',a=a'+1:=⟨a-1,by
    rcases ux a with z|z
    .rw[z,Nat.zero_mod] at c;lia
    .lia⟩
   have hs:a' % n+1<n:=(vP n0).mpr (by lia);obtain⟨s1,s2⟩:=dq hs;refine⟨a',by lia,⟨0,.inr ⟨hs,rfl⟩⟩,?_⟩;show j3 (a' % n) (b % n)+l1 ns (a' / n) (b / n)=d;rw[s1,s2] at h;rw[s2] at c;unfold j3 at h |-;lia
theorem xr{ns:List Nat}{a b:Nat}(BX:Bx ns)(FI:iN (pr ns) (iA ns))(ha:a<pr ns)(hb:b<pr ns):far (iA ns) a b=l1 ns a b:=by
 have low:∀k a,a<pr ns->d9 (iA ns) k a b->l1 ns a b<=k:=by
  intro k;induction k with
  |zero=>intro a _ w;have w:a=b:=w;rw[w,xo];exact aI _
  |succ k ih=>
   intro a ha w;obtain⟨c,t,w⟩:=w.As;have hc:c<pr ns:=Int.ofNat_lt.mp (FI.rg _ t).2.2;obtain⟨j,tj⟩:=(gD BX.pos ha hc).mp t;have:=Lh (c:=b) tj;have:=ih c hc w;lia
 have up:∀d a,a<pr ns->l1 ns a b=d->d9 (iA ns) d a b:=by
  intro d;induction d with
  |zero=>intro a ha e;exact xp ha hb e
  |succ d ih=>
   intro a ha e;obtain⟨c,hc,⟨k,t⟩,e2⟩:=xq BX.pos ha hb e;exact d9.cons ((gD BX.pos ha hc).mpr ⟨k,t⟩) (ih c hc e2)
 exact At ⟨up _ a ha rfl,fun k w=>low k a ha w⟩
end nM
namespace L2
open PySem PySem.Spec PyProof.Rows
theorem aD.Li{X:Cx}{ae:List (Addr×Obj)}{σ:St}{H:Hp}{s:Shared}{h':Heap}{m:Str->Option Value}{t':Nat}(I:aD X ae σ H s)(F:Fr X.base X.env.locals s.heap m)(F':Fr X.base X.env.locals h' m)(N':News X.base X.env.locals h' (fh X.base s.heap X.env.locals)):aD X ae σ H { s with heap:=h',toks:=t' }:=by
 have keep:∀b u,b≠X.env.locals->s.heap.get? b=some u->h'.get? b=some u:=fun b u hb e=>by
  cases q:X.base.get? b with
  |some v=>
   have:=I.bk b v q;rw[e] at this;cases this;exact F'.keep b _ q
  |none=>exact(N' (b,u) (fj hb q e)).1
 refine I.step (g':=s.gens) (d':=s.drawn) (ch:=[]) (fun _ z=>absurd z (by simp)) (fun b u hb _ _ e _=>keep b u hb e) (fun b u hb _ _ e _=>⟨u.slots,keep b u hb e⟩) (fun b u _ e n=>n) (fun b u _ e=>?_)
  (fun b xs e=>e) (fun b u v e=>e) (fun b ps e=>⟨#[],by rw[e];simp⟩) (fun m1 hm=>by rw[wz hm F.ns];exact F'.ns) (fun b u e=>?_) I.bare
 .by_cases hb:b=X.env.locals
  .obtain⟨o',_,_,q,_⟩:=F'.ns;exact⟨o',by rw[hb];exact q⟩
  .exact⟨u,keep b u hb e⟩
 .refine(I.bD b u e).lr (fun c v hc q=>keep c v ?_ q) (fun c q=>q) fun c xs q=>q;rintro rfl;rcases hc with z|hc
  .have f:=I.free;rw[z,e] at f;cases f
  .rw[I.free] at hc;cases hc
def Qm(K:PySem.W.Frag):List V->Hp->VK->Prop:=fun xs H Q=>∃ (l:Addr) (ns:List Int),xs=[.ref l]/\bo K H l (ns.map V.int)/\Q (.int ns.sum) H
theorem Bn{X:Cx}(hc:X.calm=true):dZ X (.builtin "sum") (Qm X.K):=by
 intro ae s σ H xs us Q I r h;obtain⟨l,ns,rfl,hl,q⟩:=h;obtain⟨u1,rfl,r1⟩:=r.one;obtain rfl:u1=Value.ref l:=r1;obtain⟨its,rv,pl,_⟩:=I.list hl;obtain⟨m,F⟩:=I.fr;refine LSm.sum_ints F rQ (I.ok.hd hc) pl.isList (nh rv) fun h' tk t' F' N'=>?_;exact⟨.int _,H,I.Li (t':=tk) F F' N',⟨_,rfl⟩,q⟩
end L2
namespace nM
open PySem L2 im
abbrev Hi:Stmt:=e8 40
abbrev Qn:Stmt:=e8 41
structure Qo(mg:Str->Option Value):Prop where
 abs:mg "abs"=none
 divmod:mg "divmod"=none
 dict:mg "dict"=none
 zip:mg "zip"=none
 repr:mg "repr"=none
def b_(H:Hp)(p:Addr):Prop:=∃a b:Int,H p=some (.lst [.int a,.int b])/\0<=a/\0<=b/\b<4294967296
theorem b_.same{H H':Hp}{p:Addr}(h:b_ H p)(s:aM H H'):b_ H' p:=let ⟨a,b,e,r⟩:=h;⟨a,b,s _ _ e,r⟩
theorem b_.full{H:Hp}{p:Addr}(h:b_ H p):H p≠none:=by obtain⟨a,b,e,_⟩:=h;rw[e];intro z;cases z
theorem b_.ne{H:Hp}{p q:Addr}(h:b_ H p)(e:H q=none):q≠p:=by rintro rfl;exact h.full e
theorem b_.put{H:Hp}{p q:Addr}{o:HO}(h:b_ H p)(n:p≠q):b_ (upd H q o) p:=let ⟨a,b,e,r⟩:=h;⟨a,b,by rw[ao n];exact e,r⟩
theorem b_.neT{H:Hp}{p q:Addr}{xs:List V}(h:b_ H p)(e:H q=some (.tup xs)):q≠p:=by rintro rfl;obtain⟨a,b,z,_⟩:=h;rw[e] at z;cases z
theorem _root_.L2.bo.same{K:PySem.W.Frag}{H H':Hp}{a:Addr}{xs:List V}(h:bo K H a xs)(s:aM H H'):bo K H' a xs:=by
 rcases h with (h|⟨o,h⟩)|h
 .exact .inl (.inl (s _ _ h))
 .exact .inl (.inr ⟨o,s _ _ h⟩)
 .exact .inr h
theorem Qp{j:Int}(h1:0<j)(h2:j<2 ^ 200):Nat.log2 j.natAbs<200:=(Nat.log2_lt (by lia)).mpr (by lia)
theorem rA{X:Cx}:dZ X (.builtin "divmod") (fun xs H Q=>∃i j,xs=[.int i,.int j]/\(0<j/\j<2 ^ 200)/\∀p,H p=none->Q (.ref p) (upd H p (.tup [.int (i / j),.int (i % j)]))):=by
 intro ae s σ H xs us Q I r h;obtain⟨i,j,rfl,⟨h1,h2⟩,q⟩:=h;obtain⟨u,w',rfl,⟨t,rfl⟩,⟨t',rfl⟩⟩:=zG r;refine PyProof.Rows.divmod_int (by lia) ?_ (.inl (PyProof.noPylong_of_log2 (Nat.lt_trans (Qp h1 h2) (by decide))));rw[tZ i (by lia),tY i (by lia)];have hn:H s.heap.objs.size=none:=I.bD.fresh (aI _);refine⟨.ref s.heap.objs.size,_,?_,rfl,q _ hn⟩;refine I.laid (fun b o e=>ba _ e) (aI _) ⟨by simp only[cR,List.length_nil];rw[g9];decide,[.int (i / j) s.toks,.int (i % j) (s.toks+1)],.cons ⟨_,rfl⟩ (.cons ⟨_,rfl⟩ .nil),?_⟩;exact⟨_,bv s.heap rfl,rfl,0,rfl,rfl⟩
theorem yO{e:V->V->Bool}:∀ {xs:List V},jS e xs []=decide (xs=[])
 |[]=>rfl
 |x::xs=>by simp[jS]
section
variable {P:Program} {w:World} {K:PySem.W.Frag} {mg:Str->Option Value} {base:Heap}
theorem tJ:az ["_law_script","_law_k","_law_cell","_law_rest"] ["_law_script","_law_k"] (ak Hi):=⟨rfl,rfl,rfl,by decide +kernel,rfl,by decide +kernel,by decide +kernel⟩
def Bo(K:PySem.W.Frag):Sp:=fun vs H Q _=>∃ (a:Addr) (ns:List Int) (k:Nat),vs=[.ref a,.int k]/\bo K H a (ns.map V.int)/\k<64/\∀ (r:Addr) (H':Hp),aM H H'->H r=none->b_ H' r->Q (.ref r) H'
theorem Hj{f:Addr}{fd:FuncData}(F:dU K "_law_pot" "_law_pot" Hi f fd)(B:Bl mg)(B2:Qo mg):a9 P w K mg base aX 1 f fd ["_law_script","_law_k"] (Bo K):=by
 refine F.ok tJ (fun vs H Q E h=>?_) (fun cI A outer s H vs Q E hr h=>?_)
 .obtain⟨a,ns,k,rfl,_⟩:=h;rfl
 .obtain⟨a,ns,k,rfl,hS,hk,q⟩:=h;refine⟨_,(ag (jn (gs (aa av (aa av af))) (eS (n:=2) rfl (aZ (aA (i:=2) tJ.nd rfl (Or.inl rfl)) (aZ (aA (i:=3) tJ.nd rfl (Or.inl rfl)) dA))))
   (ag (bw (aT (Ga (e:=wr) hr.u) (pv 0) (hZ af) (be _)) (aj (aP (i:=2) tJ.nd rfl (Or.inl rfl) (aF rW (by rfl) B2.abs PyProof.Rows.boot_abs (aa (cZ cz (pv 0) (bb gl (pv 1) (aF aW (by rfl) B.len fc (aa (pv 0) af))) (fun _ _=>rfl)) af)))) aN)
   (ag (bw (aT zD (pv 1) (aF aW (by rfl) B.len fc (aa (pv 0) af)) (be _)) (aj (aP (i:=3) tJ.nd rfl (Or.inl rfl) (aF (o9 rfl) (by rfl) B.max PyProof.Rows.boot_max (aa av (aa (bb gk (pv 2) (bb FS av av)) af))))) aN)
   (aj (aJ (hZ (aa (pv 3) (aa (bb eT (bb eT (bb gl (bb hX (bb eT (bb gl (pv 2) av) av) (bb eT (pv 1) av)) av) (bb hX av (pv 1))) av) af)))))))),?_⟩
  refine⟨by show 2<=sizeLine;decide,fun T0 Qq=>⟨T0,_,rfl,bL.of ah,rfl,_,_,rfl,_,_,rfl,rfl,?_⟩⟩;have sT:=au (o:=.tup [.int 0,.int 0]) Qq;dsimp only;refine wZ (fun σ Hc=>aM H Hc/\∃c:Int,0<=c/\σ=[some (.ref a),some (.int k),some (.int c),some (.int 0)]) ?_ ?_
  .rintro σ Hc ⟨sc,c,c0,rfl⟩;have m0:0<=c % 2147483579:=ke _ (by decide);have m1:c % 2147483579<2147483579:=j8 _ (by decide);refine wZ (fun σ Hd=>Hd=Hc/\∃d:Int,0<=d/\σ=[some (.ref a),some (.int k),some (.int c),some (.int d)]) ?_ ?_
   .rintro σ Hd ⟨rfl,d,d0,rfl⟩;refine⟨_,rfl,_,rfl,_,_,rfl,rfl,(by show (0:Int)<2147483579;decide),_,_,rfl,rfl,_,rfl,_,_,rfl,rfl,_,_,rfl,rfl,.inl ⟨by lia,by lia⟩,_,_,rfl,rfl,(by show (0:Int)<2147483579;decide),_,rfl,_,_,rfl,rfl,.inl ⟨by decide,by decide⟩,_,_,rfl,rfl,_,_,rfl,rfl,by show 2<=sizeLine;decide,fun r oM=>?_⟩;have v0:0<=(c % 2147483579+1)*((k:Int)+1) % 2147483579:=ke _ (by decide);have v1:(c % 2147483579+1)*((k:Int)+1) % 2147483579<2147483579:=j8 _ (by decide);refine q r _ (sc.trans (au oM)) (sc.free oM) ⟨_,_,ah,d0,?_,?_⟩
    .generalize (c % 2147483579+1)*((k:Int)+1) % 2147483579=z at *;lia
    .generalize (c % 2147483579+1)*((k:Int)+1) % 2147483579=z at *;lia
   .intro N hN;refine⟨_,rfl,_,rfl,a,_,rfl,.inl (hS.same sc),_,_,rfl,rfl,_,rfl,qF (fun e=>?_) (fun e=>hN _ _ ⟨rfl,0,by decide,rfl⟩)⟩;exact⟨_,rfl,_,_,rfl,rfl,⟨by decide,by decide,by decide⟩,_,_,rfl,rfl,0,_,rfl,hN _ _ ⟨rfl,_,by split <;> lia,rfl⟩⟩
  .intro N hN;refine⟨_,rfl,by show 0<=sizeLine;decide,fun E1 WQ=>?_⟩;have sE:=sT.trans (au (o:=.lst []) WQ);have S1:=hS.same sE;refine⟨a,E1,_,[],rfl,rfl,S1,bo.of ah,fun i h1 h2=>absurd h2 (by simp),_,rfl,?_⟩;rw[ap rfl,yO];by_cases e:ns.map V.int=[]
   .rw[cf e];exact eU (hN _ _ ⟨sE,0,by decide,rfl⟩)
   .rw[eN e];have hl:0<ns.length:=by
     rcases ns with _|⟨x,xs⟩
     .exact absurd rfl e
     .simp
    have hm:k % ns.length<ns.length:=eH _ hl;refine kG ⟨_,rfl,_,rfl,_,rfl,a,_,rfl,.inl S1,_,_,rfl,rfl,(by show (0:Int)<(((ns.map V.int).length:Nat):Int);rw[a_];lia),a,_,_,.int ns[k % ns.length],rfl,rfl,S1,?_,_,rfl,hN _ _ ⟨sE,_,?_,rfl⟩⟩
    .rw[a_];have:((k:Int) % ((ns.length:Nat):Int))=((k % ns.length:Nat):Int):=rfl;rw[this];exact bz (by rw[bJ,cu hm];rfl)
    .split <;> lia
theorem Lj:az ["_law_pot_here","_law_many_here","_law_digit"] ["_law_pot_here","_law_many_here"] (ak Qn):=⟨rfl,rfl,rfl,by decide +kernel,rfl,by decide +kernel,by decide +kernel⟩
def vW:Sp:=fun vs H Q _=>∃ (p:Addr) (m:Nat),vs=[.ref p,.int m]/\0<m/\m<2 ^ 200/\b_ H p/\∀ (d:Nat) (H':Hp),d<m->bC p H H'->b_ H' p->Q (.int d) H'
theorem Lk{f:Addr}{fd:FuncData}(F:dU K "_law_take" "_law_take" Qn f fd)(B2:Qo mg):a9 P w K mg base aX 1 f fd ["_law_pot_here","_law_many_here"] vW:=by
 refine F.ok Lj (fun vs H Q E h=>?_) (fun cI A outer s H vs Q E hr h=>?_)
 .obtain⟨p,m,rfl,_⟩:=h;rfl
 .obtain⟨p,m',rfl,Yc,Yd,⟨a,b,hp,a0,b0,b1⟩,q'⟩:=h;generalize hm:((m':Nat):Int)=m;have m0:0<m:=by lia
  have m1:m<2 ^ 200:=by lia
  have q:∀ (d a b:Int) (H':Hp),0<=d->d<m->0<=a->0<=b->b<4294967296->bC p H H'->H' p=some (.lst [.int a,.int b])->Q (.int d) H':=fun d a b H' h1 h2 h3 h4 h5 h6 h7=>by
   have:=q' d.toNat H' (by lia) h6 ⟨a,b,h7,h3,h4,h5⟩;rw[Int.toNat_of_nonneg h1] at this;exact this
  refine⟨_,(ag (bw (aT wf (cZ cz (pv 0) av (fun _ _=>rfl)) av (be _)) (ag (jn (aF rA (by rfl) B2.divmod PyProof.Rows.boot_divmod (aa (cZ cz (pv 0) av (fun _ _=>rfl)) (aa (pv 1) af))) (eS (n:=2) rfl (aZ (mZ (pv 0) av h9) (aZ (aA (i:=2) Lj.nd rfl (Or.inl rfl)) dA))))
    (aj (aJ (pv 2)))) aN)
   (ag (jn (bb gl (bb eT (bb hX (cZ cz (pv 0) av (fun _ _=>rfl)) av) av) av) (mZ (pv 0) av h9))
   (aj (aJ (bb gl (bb lL (bb gl (bb hX (cZ cz (pv 0) av (fun _ _=>rfl)) (cZ cz (pv 0) av (fun _ _=>rfl))) av) av) (pv 1)))))),?_⟩
  have g0:zR [V.int a,V.int b] 0=some (.int a):=bz (j:=0) rfl;have g1:zR [V.int a,V.int b] 1=some (.int b):=bz (j:=1) rfl;refine⟨_,rfl,p,_,_,_,rfl,rfl,bo.of hp,g0,_,_,rfl,rfl,_,rfl,?_⟩;refine qF (fun e=>?_) (fun e=>?_)
  .refine⟨_,rfl,p,_,_,_,rfl,rfl,bo.of hp,g0,_,rfl,_,_,rfl,⟨m0,by lia⟩,fun t ht=>?_⟩;have WR:p≠t:=aq hp ht;refine⟨t,_,rfl,bL.of ah,rfl,_,_,rfl,?_⟩;refine⟨_,rfl,p,_,0,0,rfl,rfl,by rw[ao WR];exact hp,jT (j:=0) (by show 0<2;decide),_,_,rfl,rfl,_,rfl,?_⟩;exact q _ _ _ _ (ke _ (by lia)) (j8 _ m0) (Int.ediv_nonneg a0 (by lia)) b0 b1 (fun c o e n=>by rw[ao n,ao (aq e ht)];exact e) ah
  .refine⟨_,rfl,p,_,_,_,rfl,rfl,bo.of hp,g1,_,_,rfl,rfl,.inl ⟨by lia,by lia⟩,_,_,rfl,rfl,_,_,rfl,rfl,(by show (0:Int)<2147483587;decide),?_⟩;refine⟨_,rfl,p,_,1,1,rfl,rfl,hp,jT (j:=1) (by show 1<2;decide),?_⟩;have c0:0<=(b*48283+10007) % 2147483587:=ke _ (by decide);have c1:(b*48283+10007) % 2147483587<2147483587:=j8 _ (by decide);refine⟨_,rfl,p,_,_,_,rfl,rfl,bo.of ah,bz (j:=1) rfl,_,rfl,p,_,_,_,rfl,rfl,bo.of ah,bz (j:=1) rfl,_,_,rfl,rfl,.inl ⟨by lia,by lia⟩,_,_,rfl,rfl,(by show (0:Int)<2147483549;decide),_,_,rfl,rfl,⟨by decide,by decide⟩,_,rfl,_,_,rfl,rfl,m0,?_⟩;exact q _ _ _ _ (ke _ (by lia)) (j8 _ m0) a0 c0 (by lia) bC.upd ah
end
abbrev Qr:Stmt:=e8 46
abbrev Qs:Stmt:=e8 44
abbrev Qt:Stmt:=e8 45
abbrev Qu:Stmt:=e8 47
theorem Bp{ns ds:List Nat}{k:Nat}(h1:k<ns.length)(h2:k<ds.length):rO (ns.drop k) (ds.drop k)=ds.getD k 0+ns.getD k 0*rO (ns.drop (k+1)) (ds.drop (k+1)):=by
 have e1:ns.getD k 0=ns[k]:=by rw[ce,cu h1];rfl
 have e2:ds.getD k 0=ds[k]:=by rw[ce,cu h2];rfl
 rw[l8 h1,l8 h2,e1,e2];rfl
theorem ln{ns:List Nat}{k:Nat}(hk:k<ns.length):(NV ns)[k]?=some (.int ((ns.getD k 0:Nat):Int)):=by
 rw[bJ,cu hk,ce,cu hk];rfl
def Bq(ns ds:List Nat)(w:Nat->Bool):List Nat:=(List.range ns.length).map fun i=>if w i=true then ns.getD i 0-1-ds.getD i 0 else ds.getD i 0
theorem fu{ns ds:List Nat}{w:Nat->Bool}:(Bq ns ds w).length=ns.length:=by unfold Bq;rw[a_,ja]
theorem rB{ns ds:List Nat}{w:Nat->Bool}{i:Nat}(h:i<ns.length):(Bq ns ds w).getD i 0=if w i=true then ns.getD i 0-1-ds.getD i 0 else ds.getD i 0:=by
 unfold Bq;rw[ce,bJ,uo h];rfl
theorem Br{a b:List Nat}(hl:a.length=b.length)(h:∀i,i<a.length->a.getD i 0=b.getD i 0):a=b:=by
 refine List.ext_getElem hl fun i h1 h2=>?_;have:=h i h1;rw[ce,cu h1,ce,cu h2] at this;exact this
theorem Bs{ns:List Nat}{w:Nat->Bool}{h:Nat}:Bq ns (cP ns h) w=md ns w (cP ns h):=by
 refine Br (by rw[fu,oa]) fun i hi=>?_;rw[fu] at hi;rw[rB hi,kQ hi (by rw[bi];exact hi)]
theorem Hk{a:List Nat}{k i v:Nat}(hk:k<a.length):(a.set k v).getD i 0=if i=k then v else a.getD i 0:=by
 rw[ce,List.getElem?_set];by_cases c:i=k
 .subst c;rw[ap rfl,ap hk,ap rfl];rfl
 .rw[am (cS c),am c,ce]
theorem DT{ns ds:List Nat}{ws:List Nat}{k:Nat}(hk:k<ns.length)(nk:k∉ws):(Bq ns ds fun i=>decide (i∈ws)).set k (ns.getD k 0-1-ds.getD k 0)=Bq ns ds fun i=>decide (i∈ws++[k]):=by
 refine Br (by rw[mz,fu,fu]) fun i hi=>?_;rw[mz,fu] at hi;rw[Hk (by rw[fu];exact hk),rB hi,rB hi];by_cases c:i=k
 .subst c;simp
 .rw[am c];have:decide (i∈ws)=decide (i∈ws++[k]):=decide_eq_decide.mpr ⟨fun z=>kU _ z,fun z=>(cY.mp z).elim id fun z=>absurd (dH.mp z) c⟩;rw[this]
section
variable {P:Program} {w:World} {K:PySem.W.Frag} {mg:Str->Option Value} {base:Heap}
theorem DU:az ["_law_sides_here","_law_many_here","_law_side"] ["_law_sides_here"] (ak Qr):=⟨rfl,rfl,rfl,by decide +kernel,rfl,by decide +kernel,by decide +kernel⟩
def Hl:Sp:=fun vs H Q _=>∃ (a:Addr) (ns:List Nat),vs=[.ref a]/\H a=some (.tup (NV ns))/\(∀x∈ns,x<=8)/\Q (.int (pr ns:Nat)) H
theorem Ll{f:Addr}{fd:FuncData}(F:dU K "_law_many" "_law_many" Qr f fd):a9 P w K mg base aX 1 f fd ["_law_sides_here"] Hl:=by
 refine F.ok DU (fun vs H Q E h=>?_) (fun cI A outer s H vs Q E hr h=>?_)
 .obtain⟨a,ns,rfl,_⟩:=h;rfl
 .obtain⟨a,ns,rfl,ha,hx,q⟩:=h;refine⟨_,(ag (aP (i:=1) DU.nd rfl (Or.inl rfl) av)
   (ag (cy dX rfl (gg (pv 0)) (aA (i:=2) DU.nd rfl (Or.inl rfl))
    (aj (aP (i:=1) DU.nd rfl (Or.inl rfl) (bb hX (pv 1) (pv 2)))))
   (aj (aJ (pv 1))))),?_⟩
  refine⟨_,rfl,a,rfl,⟨_,bL.of ha⟩,gj (K:=K) (xs:=NV ns) (fun i σ H2=>H=H2/\∃x,σ=[some (.ref a),some (.int ((pr (ns.take i):Nat):Int)),x]) ⟨rfl,_,rfl⟩ (fun i σ H2 _ z=>by rw[<-z.1];exact bL.of ha) ?_ ?_⟩
  .rintro i x σ _ oG ⟨rfl,y,rfl⟩;obtain⟨v,hv,rfl⟩:=i6 oG;have h1:=hx v (cQ hv);refine⟨_,rfl,_,rfl,_,_,rfl,rfl,.inr ⟨by lia,by lia⟩,rfl,some (.int v),?_⟩;rw[show ns.take (i+1)=ns.take i++[v] by rw[dI,hv];rfl,fq];rfl
  .rintro σ _ ⟨rfl,x,rfl⟩;rw[aR,e_];exact⟨_,rfl,q⟩
theorem DV:az ["_law_sides_here","_law_house_here","_law_found","_law_side"] ["_law_sides_here","_law_house_here"] (ak Qs):=⟨rfl,rfl,rfl,by decide +kernel,rfl,by decide +kernel,by decide +kernel⟩
def Bt:Sp:=fun vs H Q _=>∃ (a:Addr) (ns:List Nat) (h:Nat),vs=[.ref a,.int h]/\H a=some (.tup (NV ns))/\Bx ns/\∀ (r:Addr) (H':Hp),aM H H'->H r=none->H' r=some (.lst (NV (cP ns h)))->Q (.ref r) H'
theorem Lm{f:Addr}{fd:FuncData}(F:dU K "_law_place" "_law_place" Qs f fd):a9 P w K mg base aX 1 f fd ["_law_sides_here","_law_house_here"] Bt:=by
 refine F.ok DV (fun vs H Q E h=>?_) (fun cI A outer s H vs Q E hr h=>?_)
 .obtain⟨a,ns,h,rfl,_⟩:=h;rfl
 .obtain⟨a,ns,h,rfl,ha,BX,k⟩:=h;have hl:=BX.l5;have hn:=BX.sd;refine⟨_,(ag (aP (i:=2) DV.nd rfl (Or.inl rfl) (hZ af))
   (ag (cy dX rfl (gg (pv 0)) (aA (i:=3) DV.nd rfl (Or.inl rfl))
    (ag (cx (nj l0 lZ lY dw (pv 2) (aa (bb gl (pv 1) (pv 3)) af)))
    (aj (aP (i:=1) DV.nd rfl (Or.inl rfl) (bb lL (pv 1) (pv 3))))))
   (aj (aJ (pv 2))))),?_⟩
  refine⟨by show 0<=sizeLine;decide,fun D hD=>?_⟩;have s0:=au (o:=.lst []) hD;refine⟨_,rfl,a,rfl,⟨_,bL.of (s0 _ _ ha)⟩,gj (K:=K) (xs:=NV ns) (fun i σ H2=>(∃x,σ=[some (.ref a),some (.int ((h / pr (ns.take i):Nat):Int)),some (.ref D),x])/\aM H H2/\H2 D=some (.lst (NV (cP (ns.take i) h)))) ⟨⟨_,by rw[uR];show _=[_,some (V.int ((h / 1:Nat):Int)),_,_];rw[mQ];rfl⟩,s0,ah⟩ (fun i σ H2 _ z=>bL.of (z.2.1 _ _ ha)) ?_ ?_⟩
  .rintro i x σ H2 hx ⟨⟨x',rfl⟩,sm,fK⟩;obtain⟨n,hv,rfl⟩:=i6 hx;have hi:i<ns.length:=(cj.mp hv).1;have TX:=hn n (cQ hv);have tk:ns.take (i+1)=ns.take i++[n]:=by rw[dI,hv];rfl
   rw[tk,nY,fq];have dl:(cP (ns.take i) h).length<=5:=by rw[bi,gX];lia
   refine⟨_,rfl,.inl ⟨rfl,_,bo.of fK⟩,_,rfl,_,rfl,_,_,rfl,rfl,(by show (0:Int)<(n:Int);lia),D,_,_,rfl,rfl,fK,by rw[aR];exact fL dl (by decide),?_⟩;refine⟨_,rfl,_,rfl,_,_,rfl,rfl,⟨by lia,by lia⟩,⟨some (.int n),?_⟩,bT sm hD,?_⟩
   .rw[<-oY];rfl
   .rw[ah,<-iJ];rfl
  .rintro σ H2 ⟨⟨x',rfl⟩,sm,fK⟩;rw[aR,e_] at fK;exact⟨_,rfl,k D H2 sm hD fK⟩
theorem DW:az ["_law_sides_here","_law_place_here","_law_found","_law_k"] ["_law_sides_here","_law_place_here"] (ak Qt):=⟨rfl,rfl,rfl,by decide +kernel,rfl,by decide +kernel,by decide +kernel⟩
def Hm:Sp:=fun vs H Q _=>∃ (a b:Addr) (ns ds:List Nat),vs=[.ref a,.ref b]/\H a=some (.tup (NV ns))/\H b=some (.lst (NV ds))/\Bx ns/\ds.length=ns.length/\(∀i,i<ns.length->ds.getD i 0<ns.getD i 0)/\Q (.int (rO ns ds:Nat)) H
theorem Bu:∀ {ns ds:List Nat},(∀x∈ns,0<x)->ds.length=ns.length->(∀i,i<ns.length->ds.getD i 0<ns.getD i 0)->rO ns ds<pr ns
 |[],[],_,_,_=>Nat.zero_lt_one
 |n::ns,d::ds,hn,hl,h=>by
  have ih:=Bu (ns:=ns) (ds:=ds) (fun x hx=>hn x (bA _ hx)) (mI hl) fun i hi=>h (i+1) (Nat.succ_lt_succ hi);have h0:d<n:=h 0 (qv _);show d+n*rO ns ds<n*pr ns;have:=gW n (qa ih);rw[qw] at this;lia
 |n::ns,[],_,hl,_=>by cases hl
 |[],d::ds,_,hl,_=>by cases hl
theorem xu:∀ {ns:List Nat} {k:Nat},(∀x∈ns,0<x)->pr (ns.drop k)<=pr ns
 |ns,0,_=>aI _
 |[],k+1,_=>aI _
 |n::ns,k+1,hn=>by
  have ih:=xu (ns:=ns) (k:=k) fun x hx=>hn x (bA _ hx);exact bn ih (Nat.le_mul_of_pos_left _ (hn n bX))
theorem Ln{f:Addr}{fd:FuncData}(F:dU K "_law_house" "_law_house" Qt f fd)(B:Bl mg):a9 P w K mg base aX 1 f fd ["_law_sides_here","_law_place_here"] Hm:=by
 refine F.ok DW (fun vs H Q E h=>?_) (fun cI A outer s H vs Q E hr h=>?_)
 .obtain⟨a,b,ns,ds,rfl,_⟩:=h;rfl
 .obtain⟨a,b,ns,ds,rfl,ha,hb,BX,dl,WT,q⟩:=h;have l5:=BX.l5;have y7:=BX.y7;refine⟨_,(ag (aP (i:=2) DW.nd rfl (Or.inl rfl) av)
   (ag (cy dX rfl (yM rfl B.range (aa (bb gk (aF aW (by rfl) B.len fc (aa (pv 0) af)) av) (aa (zz u6 av) (aa (zz u6 av) af)))) (aA (i:=3) DW.nd rfl (Or.inl rfl))
    (aj (aP (i:=2) DW.nd rfl (Or.inl rfl) (bb eT (bb hX (pv 2) (cZ jo (pv 0) (pv 3) (fun _ _=>rfl))) (cZ cz (pv 1) (pv 3) (fun _ _=>rfl))))))
   (aj (aJ (pv 2))))),?_⟩
  refine⟨_,rfl,a,_,rfl,.inr (bL.of ha),_,_,rfl,rfl,_,rfl,_,rfl,ns.length,by rw[aR],by lia,?_⟩;refine A8 (hi:=(ns.length:Int)-1) (n:=ns.length) (fun i σ H2=>H=H2/\∃x,σ=[some (.ref a),some (.ref b),some (.int ((rO (ns.drop (ns.length-i)) (ds.drop (ns.length-i)):Nat):Int)),x]) ⟨rfl,_,by rw[Nat.sub_zero,List.drop_length];rfl⟩ ?_ ?_
  .rintro i σ _ hi ⟨rfl,x,rfl⟩;have hk:ns.length-1-i<ns.length:=by lia
   have e1:ns.length-i=ns.length-1-i+1:=by lia
   have e2:ns.length-(i+1)=ns.length-1-i:=by lia
   rw[show ((ns.length:Int)-1-(i:Int))=((ns.length-1-i:Nat):Int) by lia,e2,e1];generalize ns.length-1-i=k at hk |-;have ud:=Bp (ns:=ns) (ds:=ds) hk (by lia);have gn:=BX.gd hk;have ul:rO (ns.drop (k+1)) (ds.drop (k+1))<pr (ns.drop (k+1)):=Bu (fun x hx=>BX.pos x (mh hx)) (by rw[uJ,uJ,dl]) fun i hi=>by
    rw[uJ] at hi;rw[ce,List.getElem?_drop,<-ce,ce (l:=ns.drop _),List.getElem?_drop,<-ce];exact WT _ (by lia)
   have pd:=xu (ns:=ns) (k:=k+1) BX.pos;refine⟨_,rfl,_,rfl,_,rfl,a,_,_,_,rfl,rfl,bL.of ha,bz (ln hk),_,_,rfl,rfl,.inl ⟨by lia,by lia⟩,_,rfl,_,rfl,b,_,_,_,rfl,rfl,bo.of hb,bz (ln (by rw[dl];exact hk)),_,_,rfl,rfl,rfl,some (.int (k:Int)),?_⟩;rw[ud];have e:((rO (ns.drop (k+1)) (ds.drop (k+1)):Nat):Int)*((ns.getD k 0:Nat):Int)+((ds.getD k 0:Nat):Int)=((ds.getD k 0+ns.getD k 0*rO (ns.drop (k+1)) (ds.drop (k+1)):Nat):Int):=by
    rw[Int.natCast_add,Int.natCast_mul,Int.mul_comm,Int.add_comm]
   rw[<-e];rfl
  .rintro σ _ ⟨rfl,x,rfl⟩;rw[Nat.sub_self];exact⟨_,rfl,q⟩
theorem Hn:az ["_law_sides_here","_law_ways_here","_law_house_here","_law_place_here","_law_way"] ["_law_sides_here","_law_ways_here","_law_house_here"] (ak Qu):=⟨rfl,rfl,rfl,by decide +kernel,rfl,by decide +kernel,by decide +kernel⟩
abbrev wS(ws:List Nat):Nat->Bool:=fun i=>decide (i∈ws)
structure Wy(ns ws:List Nat):Prop where
 nd:ws.Nodup
 lt:∀k∈ws,k<ns.length
def mo(ns ws:List Nat)(o:Option Nat):Option Nat:=o.map fun h=>mi ns (wS ws) h
def Bv:Sp:=fun vs H Q _=>∃ (a b:Addr) (ns ws:List Nat) (o:Option Nat),vs=[.ref a,.ref b,oV o]/\H a=some (.tup (NV ns))/\H b=some (.tup (NV ws))/\Bx ns/\Wy ns ws/\∀H',aM H H'->Q (oV (mo ns ws o)) H'
theorem Lo{f:Addr}{fd:FuncData}(F:dU K "_law_mirrored" "_law_mirrored" Qu f fd)(PL:cg P w K mg base aX 1 "_law_place" ["_law_sides_here","_law_house_here"] Bt)(HO:cg P w K mg base aX 1 "_law_house" ["_law_sides_here","_law_place_here"] Hm):a9 P w K mg base aX 2 f fd ["_law_sides_here","_law_ways_here","_law_house_here"] Bv:=by
 refine F.ok Hn (fun vs H Q E h=>?_) (fun cI A outer s H vs Q E hr h=>?_)
 .obtain⟨a,b,ns,ws,o,rfl,_⟩:=h;rfl
 .obtain⟨a,b,ns,ws,o,rfl,ha,hb,BX,WY,q⟩:=h;have h1:bt 1 _:=hr.mono (by decide);refine⟨_,(ag (bw (aT u7 (pv 2) gc (be _)) (aj (aJ gc)) aN)
   (ag (aP (i:=3) Hn.nd rfl (Or.inl rfl) (aw PL h1 aG (aa (pv 0) (aa (pv 2) af))))
   (ag (cy dX rfl (gg (pv 1)) (aA (i:=4) Hn.nd rfl (Or.inl rfl))
    (aj (jn (bb gk (bb gk (cZ jo (pv 0) (pv 4) (fun _ _=>rfl)) av) (cZ cz (pv 3) (pv 4) (fun _ _=>rfl))) (mZ (pv 3) (pv 4) h9))))
   (aj (aJ (aw HO h1 aG (aa (pv 0) (aa (pv 3) af)))))))),?_⟩
  cases o with
  |none=>exact⟨_,rfl,rfl,_,rfl,xf rfl (q H (aM.refl _))⟩
  |some h=>
   refine⟨_,rfl,rfl,_,rfl,ee rfl ?_⟩;refine⟨_,rfl,_,rfl,a,ns,h,rfl,ha,BX,fun D H1 s1 nD hD=>?_⟩;have Qv:H1 D=some (.lst (NV (Bq ns (cP ns h) (wS (ws.take 0))))):=by
    rw[hD,Bs];congr 3;refine Br (by rw[oa,bi]) fun i hi=>?_;rw[bi] at hi;rw[kQ hi (by rw[bi];exact hi),uR];simp[wS]
   refine⟨_,rfl,b,rfl,⟨_,bL.of (s1 _ _ hb)⟩,gj (K:=K) (xs:=NV ws) (fun i σ H2=>(∃x,σ=[some (.ref a),some (.ref b),some (.int (h:Int)),some (.ref D),x])/\aM H H2/\H2 D=some (.lst (NV (Bq ns (cP ns h) (wS (ws.take i)))))) ⟨⟨_,rfl⟩,s1,Qv⟩ (fun i σ H2 _ z=>bL.of (z.2.1 _ _ hb)) ?_ ?_⟩
   .rintro i x σ H2 hx ⟨⟨x',rfl⟩,s2,fK⟩;obtain⟨k,hk,rfl⟩:=i6 hx;have Jb:=WY.lt k (cQ hk);have il:i<ws.length:=(cj.mp hk).1;have tk:ws.take (i+1)=ws.take i++[k]:=by rw[dI,hk];rfl
    have nk:k∉ws.take i:=fun z=>by
     obtain⟨j,hj,e⟩:=pX.mp z;rw[gX] at hj;rw[List.getElem_take] at e;have e2:ws[i]=k:=(cj.mp hk).2;have:=(List.getElem_inj WY.nd).mp (e.trans e2.symm);lia
    have dk:=nZ (ns:=ns) (h:=h) BX.pos Jb;have g:(Bq ns (cP ns h) (wS (ws.take i))).getD k 0=(cP ns h).getD k 0:=by
     rw[rB Jb,am (by simp[wS,nk])]
    refine⟨_,rfl,_,rfl,a,_,_,_,rfl,rfl,bL.of (s2 _ _ ha),bz (ln Jb),_,_,rfl,rfl,_,rfl,_,rfl,D,_,_,_,rfl,rfl,bo.of fK,bz (ln (by rw[fu];exact Jb)),_,_,rfl,rfl,?_⟩;rw[g];refine⟨_,rfl,_,rfl,D,_,k,k,rfl,rfl,fK,jT (j:=k) (by rw[aR,fu];exact Jb),⟨_,rfl⟩,bT s2 nD,?_⟩;rw[ah,tk,<-DT Jb nk];have ev:((ns.getD k 0:Nat):Int)-1-(((cP ns h).getD k 0:Nat):Int)=((ns.getD k 0-1-(cP ns h).getD k 0:Nat):Int):=by lia
    show some (L2.HO.lst ((NV (Bq ns (cP ns h) (wS (ws.take i)))).set k (.int (((ns.getD k 0:Nat):Int)-1-(((cP ns h).getD k 0:Nat):Int)))))=_;rw[ev];unfold NV;rw[List.map_set]
   .rintro σ H2 ⟨⟨x',rfl⟩,s2,fK⟩;rw[aR,e_,Bs] at fK;refine⟨_,rfl,_,rfl,a,D,ns,_,rfl,s2 _ _ ha,fK,BX,oa,fun i hi=>?_,?_⟩
    .rw[kQ hi (by rw[bi];exact hi)];have:=nZ (ns:=ns) (h:=h) BX.pos hi;split <;> lia
    .rw[vV];exact q H2 s2
end
end nM
namespace L2
open PySem PySem.Spec PyProof.Rows
def Ho(K:PySem.W.Frag):R2:=fun x y H Q=>∃a b xs ys,x=.ref a/\y=.ref b/\bL K H a xs/\bL K H b ys/\ys≠[]/\xs.length+ys.length<=sizeLine/\
 (xs=[]->Q (.ref b) H)/\(xs≠[]->∀p,H p=none->Q (.ref p) (upd H p (.tup (xs++ys))))
theorem Bw{X:Cx}:jO X (binaryOp .Add) (Ho X.K):=by
 intro ae s σ H x y v u Q I rx ry h;obtain⟨a,b,xs,ys,rfl,rfl,ha,hb,hy,hz,q1,q2⟩:=h;by_cases hx:xs=[]
 .cases rx;cases ry;obtain⟨its,r1,p1,_⟩:=I.tuple ha;obtain⟨CD,r2,p2,_⟩:=I.tuple hb;obtain⟨⟨cls,dd,data,sl⟩,ho,hc,n,hd⟩:=id p1;obtain⟨⟨Op,Na,data2,FW⟩,FX,JO,n2,zO⟩:=id p2;simp only at hc hd JO zO;subst hc hd JO zO;exact concat_meets ⟨_,ho,rfl⟩ ⟨_,FX,rfl⟩ uU seq_tuple_add ub ua (t4 _ _)
   (tuple_addW0 a b its.toArray CD.toArray n n2 dd Na sl FW (by simp[r1.lO.mpr hx])) ⟨ho,FX,⟨.ref b,H,I,rfl,q1 hx⟩⟩
 .exact CC ae s σ H _ _ v u Q I rx ry ⟨a,b,xs,ys,rfl,rfl,ha,hb,hx,hz,fun z=>absurd z hy,fun _=>q2 hx⟩
end L2
namespace nM
open PySem L2 im
abbrev Qw:Stmt:=e8 42
abbrev Qx:Stmt:=e8 43
abbrev Qy:Stmt:=e8 48
abbrev Qz:Stmt:=e8 49
abbrev QA:Stmt:=e8 51
theorem Hq:(["_law_house_here","_law_sides_here","_law_ways_here"]:List Str).Nodup:=by decide +kernel
theorem Fk:(["_law_x","_law_y"]:List Str).Nodup:=by decide +kernel
theorem Lp:(["_law_k","_law_pot_here"]:List Str).Nodup:=by decide +kernel
def Hr(x:Int):Int:=if x<0 then -x else x
def df(ns:List Nat)(a b k:Nat):Int:=Hr (((cP ns a).getD k 0:Nat)-((cP ns b).getD k 0:Nat))
theorem Fl:∀ {ns:List Nat} {a b:Nat},((List.range ns.length).map (df ns a b)).sum=((l1 ns a b:Nat):Int)
 |[],_,_=>rfl
 |n::ns,a,b=>by
  rw[cR,oZ,iT,List.sum_cons,dY];have ih:=Fl (ns:=ns) (a:=a / n) (b:=b / n);show df (n::ns) a b 0+((List.range ns.length).map (df ns (a / n) (b / n))).sum=((j3 (a % n) (b % n)+l1 ns (a / n) (b / n):Nat):Int);rw[ih,Int.natCast_add];congr 1;show Hr ((a % n:Nat)-(b % n:Nat))=((j3 (a % n) (b % n):Nat):Int);unfold Hr j3;split <;> lia
theorem pR{p D:Addr}{H H':Hp}{o:HO}(s:bC p H H')(n:H D=none):bC p H (upd H' D o):=fun b u e hb=>by
 by_cases z:b=D
 .rw[z,n] at e;cases e
 .rw[ao z];exact s b u e hb
theorem By{st:List (Option Nat)}{i:Nat}(h:i<st.length):(st.map oV)[i]?=some (oV (st.getD i none)):=by
 rw[bJ,ce,cu h];rfl
section
variable {P:Program} {w:World} {K:PySem.W.Frag} {mg:Str->Option Value} {base:Heap}
theorem Lq:az ["_law_sides_here","_law_one","_law_other","_law_here","_law_there"] ["_law_sides_here","_law_one","_law_other"] (ak Qz):=⟨rfl,rfl,rfl,by decide +kernel,rfl,by decide +kernel,by decide +kernel⟩
def Hs:Sp:=fun vs H Q _=>∃ (sr:Addr) (ns:List Nat) (a b:Nat),vs=[.ref sr,.int a,.int b]/\H sr=some (.tup (NV ns))/\Bx ns/\∀H',aM H H'->Q (.int (l1 ns a b:Nat)) H'
theorem Lr{f:Addr}{fd:FuncData}(F:dU K "_law_far" "_law_far" Qz f fd)(QB:mg "sum"=none)(QC:mg "zip"=none)(QD:mg "abs"=none)(PL:cg P w K mg base aX 1 "_law_place" ["_law_sides_here","_law_house_here"] Bt):a9 P w K mg base aX 2 f fd ["_law_sides_here","_law_one","_law_other"] Hs:=by
 refine F.ok Lq (fun vs H Q E h=>?_) (fun cI A outer s H vs Q E hr h=>?_)
 .obtain⟨sr,ns,a,b,rfl,_⟩:=h;rfl
 .obtain⟨sr,ns,a,b,rfl,n6,BX,q⟩:=h;have l5:=BX.l5;refine'⟨_,(ag (zn (i:=3) (j:=4) rfl Lq.nd rfl rfl (by decide) rfl rfl (aa (aw PL hr aG (aa (pv 0) (aa (pv 1) af))) (aa (aw PL hr aG (aa (pv 0) (aa (pv 2) af))) af)) (by rfl))
   (aj (aJ (aF (Bn rfl) (by rfl) QB PyProof.Rows.boot_sum (aa ?c1 af))))),?_⟩
  case c1=>
   refine' cL (g:=(xD K 2 (hW (cD 0) (hW (cD 1) xC)))) (te:=(Oo (fun xs H Q=>∃i,xs=[.int i]/\Q (.int (if i<0 then -i else i)) H) (bR (EF (EG fun i j=>.int (i-j)) (cN 0) (cN 1)) iM))) (NB:=["_law_x","_law_y"]) (src:=[none,none]) (cJ (by kernel_rfl)) rfl (xi (ka:=true) (kb:=true) rfl QC (aa (pv 3) (aa (pv 4) af))) ?g ?t ?e;case g=>exact fun cl C s₃ H₃ fp=>(eS (n:=2) rfl (aZ (aA (i:=0) Fk rfl (Or.inl rfl) (Or.inr rfl)) (aZ (aA (i:=1) Fk rfl (Or.inl rfl) (Or.inr rfl)) dA)))
   case t=>exact fun cl C s₃ H₃ fp=>cW
   case e=>exact fun cl C s₃ H₃ fp=>(aF rW (by rfl) QD PyProof.Rows.boot_abs (aa (bb gk (pv 0) (pv 1)) af))
  refine⟨_,rfl,_,rfl,sr,ns,a,rfl,n6,BX,fun r1 H1 s1 _ h1=>⟨_,rfl,_,rfl,sr,ns,b,rfl,s1 _ _ n6,BX,fun r2 H2 s2 _ h2=>⟨_,_,rfl,?_⟩⟩⟩;have T_:=s2 _ _ h1;refine⟨_,rfl,_,rfl,r1,r2,_,_,rfl,bo.of T_,bo.of h2,by rw[aR,aR,bi,bi],fun D hD=>?_⟩;refine yG (ka:=true) (kb:=true) (xs:=NV (cP ns a)) (ys:=NV (cP ns b)) (by rw[aR,aR,bi,bi]) (fun i ys σ H3=>(∃u v,σ=[u,v])/\aM H2 H3/\H3 D=some (.lst ys)/\ys=((List.range i).map (df ns a b)).map V.int) ⟨⟨_,_,rfl⟩,au hD,ah,rfl⟩ (fun i ys σ H3 _ z=>⟨bo.of (z.2.1 _ _ T_),bo.of (z.2.1 _ _ h2)⟩) ?_ ?_
  .rintro i x y p ys σ H3 Kt Kf hx hy ⟨⟨u,v,rfl⟩,s3,d3,rfl⟩ hp kt kf;have hi:i<ns.length:=by have:=(cj.mp hx).1;rwa [aR,bi] at this
   obtain rfl:=bG (hx.symm.trans (ln (by rw[bi];exact hi)));obtain rfl:=bG (hy.symm.trans (ln (by rw[bi];exact hi)));have sp:=au (o:=.tup [.int (((cP ns a).getD i 0:Nat):Int),.int (((cP ns b).getD i 0:Nat):Int)]) hp;refine⟨p,_,rfl,bL.of ah,rfl,_,_,rfl,_,_,rfl,rfl,?_⟩;refine⟨_,rfl,_,rfl,_,_,rfl,rfl,_,rfl,?_⟩;refine kt _ _ _ (sp _ _ d3) (by rw[a_,a_,ja];exact bj (show i<17 by lia) (by decide)) ⟨⟨_,_,rfl⟩,bT (s3.trans sp) hD,ah,?_⟩;rw[uM,c_,c_];rfl
  rintro ys σ H3 ⟨_,s3,d3,rfl⟩;rw[aR,bi] at d3;refine⟨D,_,rfl,bo.of d3,?_⟩;rw[Fl];exact q H3 ((s1.trans s2).trans s3)
theorem QE:az ["_law_sides_here","_law_ways_here","_law_row_here"] ["_law_sides_here","_law_ways_here","_law_row_here"] (ak Qy):=⟨rfl,rfl,rfl,by decide +kernel,rfl,by decide +kernel,by decide +kernel⟩
def Ht:Sp:=fun vs H Q _=>∃ (a b c:Addr) (ns ws:List Nat) (st:List (Option Nat)),vs=[.ref a,.ref b,.ref c]/\H a=some (.tup (NV ns))/\H b=some (.tup (NV ws))/\H c=some (.tup (st.map oV))/\Bx ns/\Wy ns ws/\st.length<=100/\∀ (r:Addr) (H':Hp),aM H H'->H' r=some (.tup ((st.map (mo ns ws)).map oV))->Q (.ref r) H'
theorem Ls{f:Addr}{fd:FuncData}(F:dU K "_law_row" "_law_row" Qy f fd)(B:Bl mg)(LM:cg P w K mg base aX 2 "_law_mirrored" ["_law_sides_here","_law_ways_here","_law_house_here"] Bv):a9 P w K mg base aX 3 f fd ["_law_sides_here","_law_ways_here","_law_row_here"] Ht:=by
 refine F.ok QE (fun vs H Q E h=>?_) (fun cI A outer s H vs Q E hr h=>?_)
 .obtain⟨a,b,c,ns,ws,st,rfl,_⟩:=h;rfl
 .obtain⟨a,b,c,ns,ws,st,rfl,ha,hb,hc,BX,WY,Bz,q⟩:=h;refine'⟨_,(aj (aJ (cF bK (by rfl) B.tup gT (aa ?c1 af)))),?_⟩;case c1=>
   refine' cL (g:=(cD 0)) (te:=(iX Bv [] E0 (bR (cN 1) (bR (cN 2) (bR (cN 0) iM))))) (NB:=["_law_house_here","_law_sides_here","_law_ways_here"]) (src:=[none,some 0,some 1]) (cJ (by kernel_rfl)) rfl (gg (pv 2)) ?g ?t ?e;case g=>exact fun cl C s₃ H₃ fp=>(aA (i:=0) Hq rfl (Or.inl rfl) (Or.inr rfl))
   case t=>exact fun cl C s₃ H₃ fp=>cW
   case e=>exact fun cl C s₃ H₃ fp=>(aw LM hr aG (aa (pv 1) (aa (pv 2) (aa (pv 0) af))))
  refine⟨_,rfl,c,rfl,⟨_,bL.of hc⟩,fun D hD=>?_⟩;refine sY (K:=K) (xs:=st.map oV) (fun i ys σ H3=>(∃u,σ=[u,some (.ref a),some (.ref b)])/\aM H H3/\H3 D=some (.lst ys)/\ys=((st.take i).map (mo ns ws)).map oV) ⟨⟨_,rfl⟩,au hD,ah,rfl⟩ (fun i ys σ H3 _ z=>bL.of (z.2.1 _ _ hc)) ?_ ?_
  .rintro i x ys σ H3 Kt Kf hx ⟨⟨u,rfl⟩,s3,d3,rfl⟩ kt kf;have hi:i<st.length:=by have:=(cj.mp hx).1;rwa [a_] at this
   obtain rfl:=bG (hx.symm.trans (By hi));refine⟨_,rfl,_,rfl,_,rfl,a,b,ns,ws,st.getD i none,rfl,s3 _ _ ha,s3 _ _ hb,BX,WY,fun H4 s4=>?_⟩;refine kt _ _ _ (s4 _ _ d3) (by rw[a_,a_,gX];exact bj (show min i st.length<101 by lia) (by decide)) ⟨⟨_,rfl⟩,bT (s3.trans s4) hD,ah,?_⟩;have e:st[i]?=some (st.getD i none):=by rw[ce,cu hi];rfl
   rw[dI,e,mm,c_,c_];rfl
  .rintro ys σ H3 ⟨_,s3,d3,rfl⟩;rw[a_,e_] at d3;exact⟨D,_,rfl,.inl ⟨bo.of d3,fun r oM=>q r _ (s3.trans (au oM)) ah⟩⟩
theorem QF:az ["_law_pot_here","_law_many_here"] ["_law_pot_here","_law_many_here"] (ak QA):=⟨rfl,rfl,rfl,by decide +kernel,rfl,by decide +kernel,by decide +kernel⟩
def DX:Sp:=fun vs H Q _=>∃ (p:Addr) (m:Nat),vs=[.ref p,.int m]/\0<m/\m<=32/\b_ H p/\∀ (o:Option Nat) (H':Hp),(∀h,o=some h->h<m)->bC p H H'->b_ H' p->Q (oV o) H'
theorem Lu{f:Addr}{fd:FuncData}(F:dU K "_law_perhaps" "_law_perhaps" QA f fd)(TK:cg P w K mg base aX 1 "_law_take" ["_law_pot_here","_law_many_here"] vW):a9 P w K mg base aX 2 f fd ["_law_pot_here","_law_many_here"] DX:=by
 refine F.ok QF (fun vs H Q E h=>?_) (fun cI A outer s H vs Q E hr h=>?_)
 .obtain⟨p,m,rfl,_⟩:=h;rfl
 .obtain⟨p,m,rfl,m0,WU,hp,q⟩:=h;refine⟨_,(ag (bw (aT o8 (aw TK hr aG (aa (pv 0) (aa av af))) av (be _)) (aj (aJ gc)) aN)
   (aj (aJ (aw TK hr aG (aa (pv 0) (aa (pv 1) af)))))),?_⟩
  refine⟨_,rfl,p,4,rfl,by decide,by decide +kernel,hp,fun d H1 hd s1 p1=>⟨rfl,_,rfl,qF (fun e=>q none H1 (fun h z=>nomatch z) s1 p1) (fun e=>?_)⟩⟩;exact⟨_,rfl,_,rfl,p,m,rfl,m0,fL WU (by decide),p1,fun d2 H2 zO s2 p2=>q (some d2) H2 (fun h z=>by rw[<-bG z];exact zO) (s1.trans s2) p2⟩
theorem QG:az ["_law_pot_here","_law_sides_here"] ["_law_pot_here","_law_sides_here"] (ak Qx):=⟨rfl,rfl,rfl,by decide +kernel,rfl,by decide +kernel,by decide +kernel⟩
def Hu:Sp:=fun vs H Q _=>∃ (p a:Addr) (ns:List Nat),vs=[.ref p,.ref a]/\b_ H p/\H a=some (.tup (NV ns))/\Bx ns/\∀ (r:Addr) (ws:List Nat) (H':Hp),bC p H H'->b_ H' p->Wy ns ws->H' r=some (.tup (NV ws))->Q (.ref r) H'
theorem Lv{f:Addr}{fd:FuncData}(F:dU K "_law_ways" "_law_ways" Qx f fd)(B:Bl mg)(TK:cg P w K mg base aX 1 "_law_take" ["_law_pot_here","_law_many_here"] vW):a9 P w K mg base aX 2 f fd ["_law_pot_here","_law_sides_here"] Hu:=by
 refine F.ok QG (fun vs H Q E h=>?_) (fun cI A outer s H vs Q E hr h=>?_)
 .obtain⟨p,a,ns,rfl,_⟩:=h;rfl
 .obtain⟨p,a,ns,rfl,hp,ha,BX,q⟩:=h;have l5:=BX.l5;refine'⟨_,(aj (aJ (cF bK (by rfl) B.tup gT (aa ?c1 af)))),?_⟩;case c1=>
   refine' cL (g:=(cD 0)) (tt:=(zE (EF (Sz) (iX vW [] E0 (bR (cN 1) (bR (tC (.int 2)) iM))) (tC (.int 1))))) (te:=(cN 0)) (NB:=["_law_k","_law_pot_here"]) (src:=[none,some 0]) (cJ (by kernel_rfl)) rfl (cn rfl B.range (aa (aF aW (by rfl) B.len fc (aa (pv 1) af)) af)) ?g ?t ?e;case g=>exact fun cl C s₃ H₃ fp=>(aA (i:=0) Lp rfl (Or.inl rfl) (Or.inr rfl))
   case t=>exact fun cl C s₃ H₃ fp=>lP (aT o8 (aw TK hr aG (aa (pv 1) (aa av af))) av (be _))
   case e=>exact fun cl C s₃ H₃ fp=>(pv 0)
  refine⟨_,rfl,a,_,rfl,.inr (bL.of ha),_,rfl,by rw[aR];lia,by rw[aR];lia,fun D hD=>?_⟩;rw[aR];have nD:=hp.ne hD;refine eW (lo:=0) (n:=ns.length) (fun i ys σ H5=>(∃u,σ=[u,some (.ref p)])/\bC p H H5/\b_ H5 p/\H5 D=some (.lst ys)/\∃ws:List Nat,ys=NV ws/\ws.length<=i/\ws.Nodup/\∀x∈ws,x<i) ⟨⟨_,rfl⟩,bC.of (au hD),hp.same (au hD),ah,[],rfl,aI _,mB,fun x z=>(nomatch z)⟩ ?_ ?_
  .rintro i ys σ H5 Kt Kf hi ⟨⟨u,rfl⟩,s5,p5,NF,ws,rfl,hl,nd,hx⟩ kt kf;rw[fz];refine⟨_,rfl,p,2,rfl,by decide,by decide +kernel,p5,fun d H6 hd s6 p6=>⟨rfl,_,rfl,qF (fun e=>?_) (fun e=>?_)⟩⟩
   .refine⟨_,rfl,kt _ _ _ (s6 _ _ NF nD) (by rw[aR];exact bj (show ws.length<7 by lia) (by decide)) ⟨⟨_,rfl⟩,pR (s5.trans s6) hD,p6.put nD.symm,ah,ws++[i],iJ,by rw[iQ];show _+1<=_;lia,?_,fun x oG=>?_⟩⟩
    .exact qb.mpr ⟨nd,fQ.mpr ⟨fun z=>(nomatch z),mB⟩,fun x OE y WV e=>by rw[e,dH.mp WV] at OE;exact absurd (hx _ OE) (eF _)⟩
    .rcases cY.mp oG with z|z
     .exact bQ (hx x z)
     .rw[dH.mp z];exact iR _
   .exact kf _ _ ⟨⟨_,rfl⟩,s5.trans s6,p6,s6 _ _ NF nD,ws,rfl,Nat.le_succ_of_le hl,nd,fun x oG=>bQ (hx x oG)⟩
  .rintro ys σ H5 ⟨_,s5,p5,NF,ws,rfl,hl,nd,hx⟩;exact⟨D,_,rfl,.inl ⟨bo.of NF,fun r oM=>q r ws _ (s5.trans (bC.of (au oM))) (p5.same (au oM)) ⟨nd,hx⟩ ah⟩⟩
end
abbrev QH:Stmt:=dh (e8 38) 2
abbrev Hv:Stmt:=dh (e8 38) 1
abbrev QI:Stmt:=e8 2
abbrev QJ:Stmt:=e8 3
theorem Hw:(["house","box","ways"]:List Str).Nodup:=by decide +kernel
theorem DY{x:Nat}{xs:List Nat}:yY (.int (x:Int)) (NV xs)=decide (x∈xs):=by
 rw[je,ut];unfold yY NV;rw[uL];constructor
 .rintro⟨v,hv,e⟩;obtain⟨y,hy,rfl⟩:=bg.mp hv;simp[wr] at e;rw[<-ff e];exact hy
 .intro h;exact⟨_,bg.mpr ⟨x,h,rfl⟩,by simp[wr]⟩
section
variable {P:Program} {w:World} {K:PySem.W.Frag} {mg:Str->Option Value} {base:Heap}
theorem QK:az ["self"] ["self"] (ak QH):=⟨rfl,rfl,rfl,by decide +kernel,rfl,by decide +kernel,by decide +kernel⟩
def DZ(C CB:Addr):Sp:=fun vs H Q _=>∃ (L:Addr->Prop) (b:Addr) (ns:List Nat),vs=[.ref b]/\dE C CB H L b ns/\∀sr:Addr,H sr=some (.tup (NV ns))->Q (.ref sr) H
theorem Lw{f C CB:Addr}{fd:FuncData}(F:dU K "sides" "Box.sides" QH f fd)(TB:A9 K mg CB):a9 P w K mg base aX 1 f fd ["self"] (DZ C CB):=by
 refine F.ok QK (fun vs H Q E h=>?_) (fun cI A outer s H vs Q E hr h=>?_)
 .obtain⟨L,b,ns,rfl,_⟩:=h;rfl
 .obtain⟨L,b,ns,rfl,⟨BX,dx,pn,sr,hb,N,n6⟩,q⟩:=h;refine⟨_,aj (aJ (dO (pv 0) rfl)),?_⟩;exact⟨_,rfl,b,CB,dx,_,_,rfl,hb,TB.cl,TB.nS,tD,q sr n6⟩
theorem Lx:az ["self"] ["self"] (ak Hv):=⟨rfl,rfl,rfl,by decide +kernel,rfl,by decide +kernel,by decide +kernel⟩
def xv(C CB Pt:Addr):Sp:=fun vs H Q _=>∃ (L:Addr->Prop) (b:Addr) (ns:List Nat),vs=[.ref b]/\dE C CB H L b ns/\gC Pt H/\yy C Pt H (pr ns) (iA ns) Q
theorem Hz{f C CB CS Pt:Addr}{fd:FuncData}(F:dU K "net" "Box.net" Hv f fd)(TB:A9 K mg CB)(BN:cg P w K mg base (eZ P w) 10 "box_net" ["sides"] (rk K C Pt CS)):a9 P w K mg base aX 11 f fd ["self"] (xv C CB Pt):=by
 refine F.ok Lx (fun vs H Q E h=>?_) (fun cI A outer s H vs Q E hr h=>?_)
 .obtain⟨L,b,ns,rfl,_⟩:=h;rfl
 .obtain⟨L,b,ns,rfl,⟨BX,dx,pn,sr,hb,N,n6⟩,tb,q⟩:=h;refine⟨_,aj (aJ (aw BN hr fW (aa (dO (pv 0) rfl) af))),?_⟩;refine⟨_,rfl,b,CB,dx,_,_,rfl,hb,TB.cl,TB.nS,tD,_,_,rfl,Fe n6,tb,(fun z=>by rw[rp BX] at z;cases z),fun Ff e=>?_⟩;rw[rp BX] at e;cases e;exact q
theorem BB:az ["box","ways","house","numbers","k","side","number"] ["box","ways","house"] (ak QI):=⟨rfl,rfl,rfl,by decide +kernel,rfl,by decide +kernel,by decide +kernel⟩
def vX(C CB:Addr):Sp:=fun vs H Q _=>∃ (L:Addr->Prop) (b wa:Addr) (ns ws:List Nat) (h:Nat),vs=[.ref b,.ref wa,.int h]/\dE C CB H L b ns/\H wa=some (.tup (NV ws))/\h<pr ns/\∀H',aM H H'->Q (.int (mi ns (wS ws) h:Nat)) H'
theorem Ly{f C CB CE:Addr}{fd:FuncData}(F:dU K "mirrored" "mirrored" QI f fd)(B:Bl mg)(he:mg "enumerate"=none)(hz:mg "zip"=none)(TB:A9 K mg CB)(MS:dG P w K mg base aX 1 CB "sides" ["self"] (DZ C CB))(MP:dG P w K mg base (eZ P w) 5 CB "place" ["self","house"] (tG K C CB CE))(MH:dG P w K mg base aX 4 CB "house" ["self","place"] (Bd C CB)):a9 P w K mg base aX 6 f fd ["box","ways","house"] (vX C CB):=by
 obtain⟨fS,WW,mS,bS,GS⟩:=MS.ex;obtain⟨fP,WX,mP,bP,GP⟩:=MP.ex;obtain⟨fH,Ye,mH,bH,GH⟩:=MH.ex;refine F.ok BB (fun vs H Q E h=>?_) (fun cI A outer s H vs Q E hr h=>?_)
 .obtain⟨L,b,wa,ns,ws,h,rfl,_⟩:=h;rfl
 .obtain⟨L,b,wa,ns,ws,h,rfl,BA,tK,hh,q⟩:=h;have h1:bt 1 _:=hr.mono (by decide);have h4:bt 4 _:=hr.mono (by decide);have BX:=BA.bx;have l5:=BX.l5;obtain⟨dx,pn,sr,hb,N,n6⟩:=id BA.ob;refine⟨_,(ag (aP (i:=3) BB.nd rfl (Or.inl rfl) (hZ af))
   (ag (cy dX rfl (A7 (ka:=false) (kb:=false) rfl he rfl hz (aa (d6 (pv 0) TB.cl mS GS h1 bS .nil aG) (aa (bU (pv 0) TB.cl mP GP hr bP .nil fW (aa (pv 2) af)) af))) (eS (n:=2) rfl (aZ (aA (i:=4) BB.nd rfl (Or.inl rfl)) (aZ (eS (n:=2) rfl (aZ (aA (i:=5) BB.nd rfl (Or.inl rfl)) (aZ (aA (i:=6) BB.nd rfl (Or.inl rfl)) dA))) dA)))
    (aj (cx (nj l0 lZ lY dw (pv 3) (aa (rS (aT iD (pv 4) (pv 1) rfl) (bb gk (bb gk (pv 5) av) (pv 6)) (pv 6)) af)))))
   (aj (aJ (bU (pv 0) TB.cl mH GH h4 bH .nil aG (aa (cF bK (by rfl) B.tup gT (aa (pv 3) af)) af)))))),?_⟩
  refine⟨by show 0<=sizeLine;decide,fun D hD=>?_⟩;have s0:=au (o:=.lst []) hD;have g0:(upd H D (.lst [])) D=some (.lst []):=ah;generalize upd H D (.lst [])=H0 at *;have Ua:=BA.same s0;have OZ:=s0 _ _ hb;refine⟨_,rfl,b,dx,_,rfl,OZ,by first|exact iB (by decide +kernel) (by decide +kernel)|rfl,L,b,ns,rfl,Ua,fun Lz D5=>?_⟩;refine⟨_,rfl,b,dx,_,rfl,OZ,by first|exact iB (by decide +kernel) (by decide +kernel)|rfl,_,rfl,L,b,ns,_,some (h:Int),rfl,Ua,.int _,(fun z=>by rw[bW hh] at z;cases z),fun h' _ e pl H1 s1 o4=>?_⟩;obtain rfl:h=h':=ff (bG e);have Ub:=s0.trans s1;have Yf:=Ub _ _ tK;have ml:=oa (ns:=ns) (w:=wS ws) (h:=h);refine⟨Lz,pl,NV ns,NV (cP ns h),rfl,bL.of (s1 _ _ D5),bL.of o4,yJ (K:=K) (ka:=false) (kb:=false) (xs:=NV ns) (ys:=NV (cP ns h)) (by rw[aR,aR,bi]) (fun i σ H2=>(∃z4 z5 z6,σ=[some (.ref b),some (.ref wa),some (.int (h:Int)),some (.ref D),z4,z5,z6])/\aM H H2/\(H2 Lz=some (.tup (NV ns))/\H2 pl=some (.tup (NV (cP ns h))))/\H2 D=some (.lst (NV ((md ns (wS ws) (cP ns h)).take i)))) ⟨⟨_,_,_,rfl⟩,Ub,⟨s1 _ _ D5,o4⟩,s1 _ _ g0⟩ (fun i σ H2 _ z=>⟨bL.of z.2.2.1.1,bL.of z.2.2.1.2⟩) ?_ ?_⟩
  .rintro i x y pp qq σ H2 hx hy ⟨⟨z4,z5,z6,rfl⟩,s2,⟨e1,e2⟩,fK⟩ WZ W0 W1;have hi:i<ns.length:=by have:=(cj.mp hx).1;rwa [aR] at this
   obtain rfl:=bG (hx.symm.trans (ln hi));obtain rfl:=bG (hy.symm.trans (ln (by rw[bi];exact hi)));have sq:=au (o:=.tup [.int ((ns.getD i 0:Nat):Int),.int (((cP ns h).getD i 0:Nat):Int)]) WZ;have sp:=au (D:=pp) (o:=.tup [.int (i:Int),.ref qq]) (H:=upd H2 qq (.tup [.int ((ns.getD i 0:Nat):Int),.int (((cP ns h).getD i 0:Nat):Int)])) (by rw[ao W1];exact W0);have s3:=sq.trans sp;have gp:(upd (upd H2 qq (.tup [.int ((ns.getD i 0:Nat):Int),.int (((cP ns h).getD i 0:Nat):Int)])) pp (.tup [.int (i:Int),.ref qq])) pp=some (.tup [.int (i:Int),.ref qq]):=ah;have gq:=sp _ _ (show (upd H2 qq (.tup [.int ((ns.getD i 0:Nat):Int),.int (((cP ns h).getD i 0:Nat):Int)])) qq=some (.tup [.int ((ns.getD i 0:Nat):Int),.int (((cP ns h).getD i 0:Nat):Int)]) from ah);generalize upd (upd H2 qq (.tup [.int ((ns.getD i 0:Nat):Int),.int (((cP ns h).getD i 0:Nat):Int)])) pp (.tup [.int (i:Int),.ref qq])=H3 at *;refine⟨pp,_,rfl,bL.of gp,rfl,_,_,rfl,_,_,rfl,⟨qq,_,rfl,bL.of gq,rfl,_,_,rfl,_,_,rfl,rfl,rfl,?_⟩⟩;have xa:=s3 _ _ fK;have Fm:=s2.trans s3;have gi:=kQ (ns:=ns) (ds:=cP ns h) (w:=wS ws) hi (by rw[bi];exact hi);have tk:(md ns (wS ws) (cP ns h)).take (i+1)=(md ns (wS ws) (cP ns h)).take i++[(md ns (wS ws) (cP ns h)).getD i 0]:=by
    rw[dI,ce,cu (by rw[ml];exact hi)];rfl
   have dl:=nZ (ns:=ns) (h:=h) BX.pos hi;have lz:(NV ((md ns (wS ws) (cP ns h)).take i)).length<sizeLine:=by
    rw[aR,gX,ml];exact bj (show min i ns.length<6 by lia) (by decide)
   have dz:∀v:V,v=.int (((md ns (wS ws) (cP ns h)).getD i 0:Nat):Int)->(upd H3 D (.lst (NV ((md ns (wS ws) (cP ns h)).take i)++[v]))) D=some (.lst (NV ((md ns (wS ws) (cP ns h)).take (i+1)))):=fun v e=>by
    rw[ah,tk,e,iJ]
   have Uc:Lz≠D:=du e1 fK (fun z=>nomatch z);have Ud:pl≠D:=du e2 fK (fun z=>nomatch z);refine⟨_,rfl,.inl ⟨rfl,_,bo.of xa⟩,_,rfl,_,rfl,wa,_,rfl,.inr (bL.of (Fm _ _ tK)),rfl,rq,_,rfl,?_⟩;rw[am bq,DY];by_cases c:i∈ws
   .rw[cf c];have ew:wS ws i=true:=cf c;rw[ew,ap rfl] at gi;refine xf rfl ⟨_,rfl,_,_,rfl,rfl,_,rfl,_,_,rfl,rfl,D,_,_,rfl,rfl,xa,lz,⟨_,_,_,rfl⟩,bT Fm hD,⟨by rw[ao Uc];exact s3 _ _ e1,by rw[ao Ud];exact s3 _ _ e2⟩,dz _ ?_⟩;rw[gi];show V.int (((ns.getD i 0:Nat):Int)-1-(((cP ns h).getD i 0:Nat):Int))=_;congr 1;lia
   .rw[eN c];have ew:wS ws i=false:=eN c;rw[ew,am bq] at gi;refine ee rfl ⟨_,rfl,D,_,_,rfl,rfl,xa,lz,⟨_,_,_,rfl⟩,bT Fm hD,⟨by rw[ao Uc];exact s3 _ _ e1,by rw[ao Ud];exact s3 _ _ e2⟩,dz _ ?_⟩;rw[gi]
  .rintro σ H2 ⟨⟨z4,z5,z6,rfl⟩,s2,_,fK⟩;rw[aR,ug (by rw[ml];exact aI _)] at fK;refine⟨_,rfl,b,dx,_,rfl,s2 _ _ hb,Ba,_,rfl,D,_,rfl,.inl ⟨bo.of fK,fun t ht=>?_⟩⟩;have st:=au (o:=.tup (NV (md ns (wS ws) (cP ns h)))) ht;refine⟨L,b,t,ns,_,rfl,BA.same (s2.trans st),ah,ml,fun i hi=>?_,fun H3 s3=>?_⟩
   .rw[kQ hi (by rw[bi];exact hi)];have:=nZ (ns:=ns) (h:=h) BX.pos hi;split <;> lia
   .rw[vV];exact q H3 ((s2.trans st).trans s3)
theorem QL:az ["box","ways","row"] ["box","ways","row"] (ak QJ):=⟨rfl,rfl,rfl,by decide +kernel,rfl,by decide +kernel,by decide +kernel⟩
def D6(C CB:Addr):Sp:=fun vs H Q _=>∃ (L:Addr->Prop) (b wa ra:Addr) (ns ws:List Nat) (st:List (Option Nat)),vs=[.ref b,.ref wa,.ref ra]/\dE C CB H L b ns/\H wa=some (.tup (NV ws))/\H ra=some (.tup (st.map oV))/\st.length<=100/\(∀h,some h∈st->h<pr ns)/\∀ (r:Addr) (H':Hp),aM H H'->H' r=some (.tup ((st.map (mo ns ws)).map oV))->Q (.ref r) H'
theorem LA{f C CB:Addr}{fd:FuncData}(F:dU K "mirrored_row" "mirrored_row" QJ f fd)(B:Bl mg)(MI:cg P w K mg base aX 6 "mirrored" ["box","ways","house"] (vX C CB)):a9 P w K mg base aX 7 f fd ["box","ways","row"] (D6 C CB):=by
 refine F.ok QL (fun vs H Q E h=>?_) (fun cI A outer s H vs Q E hr h=>?_)
 .obtain⟨L,b,wa,ra,ns,ws,st,rfl,_⟩:=h;rfl
 .obtain⟨L,b,wa,ra,ns,ws,st,rfl,BA,tK,Fn,Bz,gO,q⟩:=h;refine'⟨_,(aj (aJ (cF bK (by rfl) B.tup gT (aa ?c1 af)))),?_⟩;case c1=>
   refine' cL (g:=(cD 0)) (te:=(Sx (zE (EF (fun x y H Q=>y=.bV/\Q (.bl (decide (x=.bV))) H) (cN 0) (tC .bV))) (tC .bV) (iX (vX C CB) [] E0 (bR (cN 1) (bR (cN 2) (bR (cN 0) iM)))))) (NB:=["house","box","ways"]) (src:=[none,some 0,some 1]) (cJ (by kernel_rfl)) rfl (gg (pv 2)) ?g ?t ?e;case g=>exact fun cl C s₃ H₃ fp=>(aA (i:=0) Hw rfl (Or.inl rfl) (Or.inr rfl))
   case t=>exact fun cl C s₃ H₃ fp=>cW
   case e=>exact fun cl C' s₃ H₃ fp=>(rS (aT u7 (pv 0) gc (be _)) gc (aw MI hr aG (aa (pv 1) (aa (pv 2) (aa (pv 0) af)))))
  refine⟨_,rfl,ra,rfl,⟨_,bL.of Fn⟩,fun D hD=>?_⟩;refine sY (K:=K) (xs:=st.map oV) (fun i ys σ H3=>(∃u,σ=[u,some (.ref b),some (.ref wa)])/\aM H H3/\H3 D=some (.lst ys)/\ys=((st.take i).map (mo ns ws)).map oV) ⟨⟨_,rfl⟩,au hD,ah,rfl⟩ (fun i ys σ H3 _ z=>bL.of (z.2.1 _ _ Fn)) ?_ ?_
  .rintro i x ys σ H3 Kt Kf hx ⟨⟨u,rfl⟩,s3,d3,rfl⟩ kt kf;have hi:i<st.length:=by have:=(cj.mp hx).1;rwa [a_] at this
   obtain rfl:=bG (hx.symm.trans (By hi));have e:st[i]?=some (st.getD i none):=by rw[ce,cu hi];rfl
   have Ue:∀H4,aM H3 H4->Kt (oV (mo ns ws (st.getD i none))) [some (oV (st.getD i none)),some (.ref b),some (.ref wa)] H4:=fun H4 s4=>by
    refine kt _ _ _ (s4 _ _ d3) (by rw[a_,a_,gX];exact bj (show min i st.length<101 by lia) (by decide)) ⟨⟨_,rfl⟩,bT (s3.trans s4) hD,ah,?_⟩;rw[dI,e,mm,c_,c_];rfl
   generalize ho:st.getD i none=o at *;cases o with
   |none=>exact⟨_,rfl,rfl,_,rfl,xf rfl (Ue H3 (aM.refl _))⟩
   |some h=>exact⟨_,rfl,rfl,_,rfl,ee rfl ⟨_,rfl,_,rfl,_,rfl,L,b,wa,ns,ws,h,rfl,BA.same s3,s3 _ _ tK,gO h (cQ e),fun H4 s4=>Ue H4 s4⟩⟩
  .rintro ys σ H3 ⟨_,s3,d3,rfl⟩;rw[a_,e_] at d3;exact⟨D,_,rfl,.inl ⟨bo.of d3,fun r oM=>q r _ (s3.trans (au oM)) ah⟩⟩
end
end nM
namespace L2
open PySem PySem.Spec PyProof.Rows PySem.W
def HB(K:PySem.W.Frag):List V->Hp->VK->Prop:=fun xs H Q=>∃ (l:Addr) (ns:List Int),xs=[.ref l]/\bo K H l (ns.map V.int)/\ns.length<64/\∀ (D:Addr) (Ff:List Int),H D=none->Ff.Perm ns->Ff.Pairwise (·<=·)->Q (.ref D) (upd H D (.lst (Ff.map V.int)))
theorem oh{X:Cx}:dZ X (.builtin "sorted") (HB X.K):=by
 intro ae s σ H xs us Q I r h;obtain⟨l,ns,rfl,hl,Kh,q⟩:=h;obtain⟨u1,rfl,r1⟩:=r.one;obtain rfl:u1=Value.ref l:=r1;obtain⟨its,rv,pl,_⟩:=I.list hl;have ia:=nh rv;refine sorted_ints pl.isList ia (by rw[ia.length];exact Kh) fun out Ff a1 a2 a3=>?_;obtain⟨⟨e,ho⟩,keep⟩:=sP (h:=s.heap) (vs:=its) (out:=out);have sO:s.heap.get? (s.heap.objs.size+1)=none:=p_ (Nat.le_succ _);have eo:out=out.toList.toArray:=by simp
 refine⟨.ref (s.heap.objs.size+1),_,I.zY (t':=s.toks) (o:=.lst (Ff.map V.int)) keep sO ⟨?_,out.toList,e,kF a1,by rw[ho]⟩,rfl,q _ Ff (I.bD.nA sO) a2 a3⟩;rw[a_,a2.length_eq];exact bn (g8 Kh) (by decide)
open PySem PySem.Spec PyProof.Rows
theorem D7{X:Cx}{d:Nat}(hu:X.A.units+(d+1)<cLine):jO X (compareOp .Eq) (E_ X false d):=by
 intro ae s σ H x y v u Q I rx ry h;obtain⟨p,q,xs,ys,rfl,rfl,hp,hq,hl,he,k⟩:=h;obtain rfl:v=Value.ref p:=rx;obtain rfl:u=Value.ref q:=ry;obtain⟨us,r1,p1,_⟩:=I.list hp;obtain⟨vs,r2,p2,_⟩:=I.list hq;refine SeqAt.eq_listAt (e:=fun _=>true) p1.isList p2.isList (by simp only[cp];rw[<-r1.length,<-r2.length];exact hl) (by lia) (iK I (by show X.A.units+1+d<cLine;lia) r1 r2 he) ⟨.bl _,H,I,rfl,?_⟩;rw[jX];exact k
end L2
namespace nM
open PySem L2 im
abbrev QM:Stmt:=e8 50
theorem HC:(["_law_other","_law_box","_law_ways_here"]:List Str).Nodup:=by decide +kernel
theorem HD:(["_law_other","_law_box","_law_house_here"]:List Str).Nodup:=by decide +kernel
theorem HI:(["_law_other","_law_box","_law_there"]:List Str).Nodup:=by decide +kernel
theorem BC{pn sr:Addr}:(yN pn sr).lookup ("sides":Str)=none:=iB (by decide +kernel) (by decide +kernel)
theorem rC{pn sr:Addr}:(yN pn sr).lookup ("net":Str)=none:=iB (by decide +kernel) (by decide +kernel)
theorem BF{pn sr:Addr}:(yN pn sr).lookup ("way":Str)=none:=iB (by decide +kernel) (by decide +kernel)
theorem lW{K:PySem.W.Frag}{H:Hp}{i:Int}:G9 K H (.int i) (some i):=fun _ _=>.int i
theorem BG{ns:List Nat}{h g:Nat}(BX:Bx ns)(hh:h<pr ns)(hg:g<pr ns):Be ns (some (h:Int)) (some (g:Int))=true↔∃k,DK ns h g k:=by
 rw[<-gD BX.pos hh hg];unfold Be;rw[bW hh,bW hg];show decide _=true↔_;rw[ut];exact Iff.rfl
theorem dE.Jc{C CB b Pt:Addr}{H H':Hp}{L:Addr->Prop}{ns:List Nat}(h:dE C CB H L b ns)(t:gC Pt H)(nl:¬ L Pt)(s:cM Pt H H'):dE C CB H' L b ns:=by
 obtain⟨dx,pn,sr,a,c,d⟩:=h.ob;obtain⟨_,_,_,_,g,_⟩:=c.ob;have k:∀a o,H a=some o->(L a\/(∀ps,o≠.lq ps))->H' a=some o:=fun a o e z=>s a o e (z.elim (fun l x=>nl (x ▸ l)) fun z=>t.not e z);exact⟨h.bx,dx,pn,sr,k _ _ a (.inr fun _ z=>(nomatch z)),c.keep (fun q o l e=>k _ _ e (.inl l)) (fun o e=>k _ _ e (.inr (by rw[g] at e;injection e with e;subst e;exact fun _ z=>(nomatch z)))),k _ _ d (.inr fun _ z=>(nomatch z))⟩
theorem HJ{ns ws:List Nat}{h:Nat}(BX:Bx ns)(FI:iN (pr ns) (iA ns))(hh:h<pr ns):((ci (pr ns) (iA ns) h).map (mi ns (wS ws))).Perm (ci (pr ns) (iA ns) (mi ns (wS ws) h)):=by
 have hm:=jZ (w:=wS ws) (h:=h) BX.pos;have lt:∀ {a y:Nat},a<pr ns->y∈ci (pr ns) (iA ns) a->y<pr ns/\∃k,DK ns a y k:=fun {a y} ha hy=>by
  have t:=(de FI ha).mp hy;have hl:y<pr ns:=Int.ofNat_lt.mp (FI.rg _ t).2.2;exact⟨hl,(gD BX.pos ha hl).mp t⟩
 refine(List.perm_ext_iff_of_nodup ?_ (nK hm)).mpr fun y=>⟨fun hy=>?_,fun hy=>?_⟩
 .unfold List.Nodup;rw[jF];refine(nK hh).imp_of_mem fun {a b} ha hb ne e=>ne ?_;rw[<-og (w:=wS ws) BX.pos (lt hh ha).1,<-og (w:=wS ws) BX.pos (lt hh hb).1,e]
 .obtain⟨o,ho,rfl⟩:=bg.mp hy;obtain⟨ol,k,t⟩:=lt hh ho;exact(de FI hm).mpr ((gD BX.pos hm (jZ BX.pos)).mpr ⟨k,xn BX.pos t⟩)
 .obtain⟨yl,k,t⟩:=lt hm hy;refine bg.mpr ⟨mi ns (wS ws) y,(de FI hh).mpr ((gD BX.pos hh (jZ BX.pos)).mpr ⟨k,?_⟩),og BX.pos yl⟩;have:=xn (w:=wS ws) BX.pos t;rwa [og BX.pos hh] at this
theorem oj{X:Cx}{H:Hp}{f:Nat->V}{xs:List Nat}(hf:∀x∈xs,∃i:Int,f x=.int i):∀i,i<(xs.map f).length->i<(xs.map f).length->DA X H 0 ((xs.map f).getD i .bV) ((xs.map f).getD i .bV):=fun i h1 _=>by
 rw[a_] at h1;rw[ce,bJ,cu h1];obtain⟨j,e⟩:=hf _ (jG h1);show DA X H 0 (f xs[i]) (f xs[i]);rw[e];exact xc
theorem tO{X:Cx}{H:Hp}{xs:List Int}:∀i,i<(xs.map V.int).length->i<(xs.map V.int).length->DA X H 0 ((xs.map V.int).getD i .bV) ((xs.map V.int).getD i .bV):=fun i h1 _=>by
 rw[a_] at h1;rw[ce,bJ,cu h1];exact xc
theorem eY{Pt:Addr}{H H':Hp}(t:gC Pt H)(s:aM H H'):gC Pt H':=by
 rcases t with z|⟨c,z,y⟩
 .exact .inl (s _ _ z)
 .exact .inr ⟨c,s _ _ z,s _ _ y⟩
theorem rD{K:PySem.W.Frag}{a D:Addr}{g:TG}{te:TE}{dz:Hp->Prop}{σB:St}{H0:Hp}(ms:List Nat)(G:Nat->V)(jV:St->Prop)(ha:H0 a=some (.lst (NV ms)))(hD:H0 D=none)(hn:ms.length<=1000)(h0:jV σB)(hs:∀m σ H (Kt:V->St->Hp->Prop),m∈ms->jV σ->aM H0 H->(∀σ2 H2,jV σ2->aM H H2->Kt (G m) σ2 H2)->g (.int (m:Int)) σ H fun σ2 H2=>te σ2 H2 fun v H4=>Kt v σ2 H4)(hd:∀H,aM H0 H->H D=some (.lst (ms.map G))->dz H):iZ (Cn K a) g F2 te D dz σB (upd H0 D (.lst [])):=by
 refine fZ (xs:=NV ms) (fun i ys σ H=>jV σ/\aM H0 H/\H D=some (.lst ys)/\ys=(ms.take i).map G) ⟨h0,au hD,ah,rfl⟩ (fun i ys σ H _ z=>bo.of (z.2.1 _ _ ha)) ?_ ?_
 .rintro i x ys σ H Kt Kf hx ⟨sh,sm,Cf,rfl⟩ kt kf;obtain⟨y,hy,rfl⟩:=i6 hx;refine hs y σ H Kt (cQ hy) sh sm fun σ2 H2 Pf s2=>?_;refine kt _ _ _ (s2 _ _ Cf) ?_ ⟨Pf,bT (sm.trans s2) hD,ah,?_⟩
  .rw[a_];exact fL (List.length_take_le' _ _) (fL hn (by decide))
  .rw[dI,hy,mm,c_];rfl
 .rintro ys σ H ⟨_,sm,Cf,rfl⟩;rw[aR,e_] at Cf;exact hd H sm Cf
section
variable {P:Program} {w:World} {K:PySem.W.Frag} {mg:Str->Option Value} {base:Heap}
theorem D8:az ["_law_box","_law_sides_here","_law_ways_here","_law_house_here","_law_there","_law_outs","_law_turned"] ["_law_box","_law_sides_here","_law_ways_here","_law_house_here"] (ak QM):=⟨rfl,rfl,rfl,by decide +kernel,rfl,by decide +kernel,by decide +kernel⟩
def D9(C CB Pt:Addr):Sp:=fun vs H Q _=>∃ (L:Addr->Prop) (b a wa:Addr) (ns ws:List Nat) (h:Nat),vs=[.ref b,.ref a,.ref wa,.int h]/\dE C CB H L b ns/\H a=some (.tup (NV ns))/\H wa=some (.tup (NV ws))/\Wy ns ws/\h<pr ns/\gC Pt H/\¬ L Pt/\∀H',gC Pt H'->cM Pt H H'->Q (.bl true) H'
set_option maxHeartbeats 8000000 in
theorem LB{f C CB CE CT Pt:Addr}{fd:FuncData}(F:dU K "_law_house_right" "_law_house_right" QM f fd)(B:Bl mg)(T:NT K mg C)(TB:A9 K mg CB)(MI:cg P w K mg base aX 6 "mirrored" ["box","ways","house"] (vX C CB))(LM:cg P w K mg base aX 2 "_law_mirrored" ["_law_sides_here","_law_ways_here","_law_house_here"] Bv)(PL:cg P w K mg base aX 1 "_law_place" ["_law_sides_here","_law_house_here"] Bt)(MP:dG P w K mg base (eZ P w) 5 CB "place" ["self","house"] (tG K C CB CE))(MN:dG P w K mg base aX 11 CB "net" ["self"] (xv C CB Pt))(MO:dG P w K mg base (eZ P w) 5 C "out" ["self","house"] (w6 K C CE Do))(MY:dG P w K mg base (eZ P w) 7 CB "way" ["self","one","other"] (tI K C CB CT)):
  a9 P w K mg base aX 12 f fd ["_law_box","_law_sides_here","_law_ways_here","_law_house_here"] (D9 C CB Pt):=by
 obtain⟨fP,WX,mP,bP,GP⟩:=MP.ex;obtain⟨fN,W2,mN,bN,GN⟩:=MN.ex;obtain⟨fO,WM,mO,bO,GO⟩:=MO.ex;obtain⟨fY,Yg,mY,bY,GY⟩:=MY.ex;refine F.ok D8 (fun vs H Q E h=>?_) (fun cI A outer s H vs Q E hr h=>?_)
 .obtain⟨L,b,a,wa,ns,ws,h,rfl,_⟩:=h;rfl
 .obtain⟨L,b,a,wa,ns,ws,h,rfl,BA,ha,tK,WY,hh,tb,nl,q⟩:=h;have h1:bt 1 _:=hr.mono (by decide);have h2:bt 2 _:=hr.mono (by decide);have h5:bt 5 _:=hr.mono (by decide);have h6:bt 6 _:=hr.mono (by decide);have h7:bt 7 _:=hr.mono (by decide);have BX:=BA.bx;have y7:=BX.y7;obtain⟨dx,pn,sr,hb,N,n6⟩:=id BA.ob;have FI:=N.nP;have NG:=jZ (w:=wS ws) (h:=h) BX.pos;refine'⟨_,(ag (aP (i:=4) D8.nd rfl (Or.inr rfl) (aw MI h6 aG (aa (pv 0) (aa (pv 2) (aa (pv 3) af)))))
   (ag (bw (PW.pt (mX (cH (cw (aF d7 (by rfl) B.E4 kR (aa (pv 4) (aa (fk (v:=.ty "int") rfl B.int PyProof.Rows.boot_int rfl) af))))) (jl (aT k7 (pv 4) (aw LM h2 aG (aa (pv 1) (aa (pv 2) (aa (pv 3) af)))) (be _))))) (aj (aJ iV)) aN)
   (ag (bw (PW.pt (mX (aT k7 (aw MI h6 aG (aa (pv 0) (aa (pv 2) (aa (pv 4) af)))) (pv 3) (be _)) (jl (aT (lV (d:=0) hr.u) (bU (pv 0) TB.cl mP GP h5 bP .nil fW (aa (pv 4) af)) (cF bK (by rfl) B.tup gT (aa (aw PL h1 aG (aa (pv 1) (aa (pv 4) af))) af)) (be _))))) (aj (aJ iV)) aN)
   (ag (aP (i:=5) D8.nd rfl (Or.inl rfl) (bU (d6 (pv 0) TB.cl mN GN hr bN .nil aG) T.cl mO GO h5 bO .nil fW (aa (pv 3) af)))
   (ag (jr (i:=6) (g:=(cD 0)) (tt:=F2) (te:=(iX (vX C CB) [] E0 (bR (cN 1) (bR (cN 2) (bR (cN 0) iM))))) (NB:=["_law_other","_law_box","_law_ways_here"]) (src:=[none,some 0,some 2]) (cJ (by kernel_rfl)) rfl (dg (pv 5)) ?g1 ?t1 ?e1 D8.nd rfl rfl rfl)
   (ag (bw (aT (DC (d:=0) hr.u) (aF oh (by rfl) B.sorted pU (aa (pv 6) af)) (aF oh (by rfl) B.sorted pU (aa (bU (d6 (pv 0) TB.cl mN GN hr bN .nil aG) T.cl mO GO h5 bO .nil fW (aa (pv 4) af)) af)) (be _)) (aj (aJ iV)) aN)
   (aj (aJ (gm (D7 (d:=0) hr.u) ?c2 ?c3 (be _)))))))))),?_⟩
  case g1=>exact fun cl C s₃ H₃ fp=>(aA (i:=0) HC rfl (Or.inl rfl) (Or.inr rfl))
  case t1=>exact fun cl C s₃ H₃ fp=>cW
  case e1=>exact fun cl C' s₃ H₃ fp=>(aw MI h6 aG (aa (pv 1) (aa (pv 2) (aa (pv 0) af))))
  case c2=>
   refine' cL (g:=(cD 0)) (te:=(wj CB "way" (tI K C CB CT) [] E0 (cN 1) (bR (cN 2) (bR (cN 0) iM)))) (NB:=["_law_other","_law_box","_law_house_here"]) (src:=[none,some 0,some 3]) (cJ (by kernel_rfl)) rfl (dg (pv 5)) ?g ?t ?e;case g=>exact fun cl C s₃ H₃ fp=>(aA (i:=0) HD rfl (Or.inl rfl) (Or.inr rfl))
   case t=>exact fun cl C s₃ H₃ fp=>cW
   case e=>exact fun cl C' s₃ H₃ fp=>(bU (pv 1) TB.cl mY GY h7 bY .nil fW (aa (pv 2) (aa (pv 0) af)))
  case c3=>
   refine' cL (g:=(cD 0)) (te:=(wj CB "way" (tI K C CB CT) [] E0 (cN 1) (bR (cN 2) (bR (cN 0) iM)))) (NB:=["_law_other","_law_box","_law_there"]) (src:=[none,some 0,some 4]) (cJ (by kernel_rfl)) rfl (dg (pv 6)) ?g ?t ?e;case g=>exact fun cl C s₃ H₃ fp=>(aA (i:=0) HI rfl (Or.inl rfl) (Or.inr rfl))
   case t=>exact fun cl C s₃ H₃ fp=>cW
   case e=>exact fun cl C' s₃ H₃ fp=>(bU (pv 1) TB.cl mY GY h7 bY .nil fW (aa (pv 2) (aa (pv 0) af)))
  refine⟨_,rfl,_,rfl,_,rfl,L,b,wa,ns,ws,h,rfl,BA,tK,hh,fun H1 s1=>?_⟩;refine⟨_,rfl,_,_,_,.type "int",true,rfl,⟨rfl,lj⟩,.of (.int _),true,rfl,eU ?_⟩;refine⟨_,rfl,_,rfl,_,rfl,_,rfl,a,wa,ns,ws,some h,rfl,s1 _ _ ha,s1 _ _ tK,BX,WY,fun H2 s2=>⟨rfl,_,rfl,ee (by show (!decide (V.int _=V.int _))=false;rw[cf rfl];rfl) ?_⟩⟩;have NH:=s1.trans s2;refine⟨_,rfl,_,rfl,_,rfl,L,b,wa,ns,ws,mi ns (wS ws) h,rfl,BA.same NH,NH _ _ tK,NG,fun H3 s3=>⟨_,rfl,?_⟩⟩;rw[og BX.pos hh];refine⟨rfl,_,rfl,ee (by show (!decide (V.int _=V.int _))=false;rw[cf rfl];rfl) ?_⟩;have Fm:=NH.trans s3;refine⟨_,rfl,b,dx,_,rfl,Fm _ _ hb,n9,_,rfl,L,b,ns,_,some ((mi ns (wS ws) h:Nat):Int),rfl,BA.same Fm,.int _,(fun z=>by rw[bW NG] at z;cases z),fun h' _ e t1 H4 s4 NE=>?_⟩;obtain rfl:mi ns (wS ws) h=h':=ff (bG e);have QN:=Fm.trans s4;refine⟨_,rfl,_,rfl,a,ns,_,rfl,QN _ _ ha,BX,fun r5 H5 s5 W3 Nu=>⟨r5,_,rfl,.inl ⟨bo.of Nu,fun t2 GK=>?_⟩⟩⟩;have QO:=au (o:=.tup (NV (cP ns (mi ns (wS ws) h)))) GK;refine⟨t1,t2,_,_,rfl,rfl,bL.of (QO _ _ (s5 _ _ NE)),bL.of ah,rfl,oj (f:=fun (x:Nat)=>V.int (x:Int)) (fun x _=>⟨_,rfl⟩),_,rfl,ee rfl ?_⟩;have sA:=(QN.trans s5).trans QO;generalize upd H5 t2 (.tup (NV (cP ns (mi ns (wS ws) h))))=HA at *;clear QO GK Nu W3 s5 QN NE s4 Fm s3 NH s2 s1;have tA:=eY tb sA;refine⟨_,rfl,b,dx,_,rfl,sA _ _ hb,rC,L,b,ns,rfl,BA.same sA,tA,fun pN H6 Nn N6 t6 s6=>?_⟩;obtain⟨La,tl,ol,ds,hN,_⟩:=id N6.ob;refine⟨pN,La,_,rfl,hN,DR _ _ _ _,_,rfl,_,pN,pr ns,_,_,_,rfl,N6,.int _,(fun z=>by rw[bW hh] at z;cases z),fun i hi e r1 H7 s7 W4 xb=>?_⟩;cases e;have sT:cM Pt H H7:=(cM.of sA).trans (s6.trans (cM.of s7));have t7:=eY t6 s7;have QP:=BA.Jc tb nl sT;have a7:=sT _ _ ha (tb.not ha (by intro ps z;cases z));have w7:=sT _ _ tK (tb.not tK (by intro ps z;cases z));have b7:=sT _ _ hb (tb.not hb (by intro ps z;cases z));have xb:H7 r1=some (.lst (NV (ci (pr ns) (iA ns) h))):=xb;clear W4 hN N6 s7 s6 Nn sA tA t6;have ol:(ci (pr ns) (iA ns) h).length<=32:=bn (bn (pW _ _) (by rw[a_,ja];exact aI _)) y7;have Jd:∀y,y∈ci (pr ns) (iA ns) h->y<pr ns/\∃k,DK ns h y k:=fun y hy=>by
   have t:=(de FI hh).mp hy;have hl:y<pr ns:=Int.ofNat_lt.mp (FI.rg _ t).2.2;exact⟨hl,(gD BX.pos hh hl).mp t⟩
  refine⟨_,rfl,r1,rfl,⟨_,bo.of xb⟩,fun D hD=>?_⟩;refine rD (K:=K) (ci (pr ns) (iA ns) h) (fun y=>V.int (mi ns (wS ws) y:Nat)) (fun σ=>∃u,σ=[u,some (.ref b),some (.ref wa)]) xb hD (by lia) ⟨_,rfl⟩ ?_ ?_
  .rintro y σ H8 Kt hy ⟨u,rfl⟩ s8 kt;exact⟨_,rfl,_,rfl,_,rfl,L,b,wa,ns,ws,y,rfl,QP.same s8,s8 _ _ w7,(Jd y hy).1,fun H9 s9=>kt _ _ ⟨_,rfl⟩ s9⟩
  intro H8 s8 LC;have LC:H8 D=some (.lst (NV ((ci (pr ns) (iA ns) h).map (mi ns (wS ws))))):=by rw[LC];unfold NV;rw[dY];rfl
  have iv:∀l:List Nat,NV l=(l.map fun (x:Nat)=>(x:Int)).map V.int:=fun l=>by unfold NV;rw[dY];rfl
  refine⟨_,rfl,D,((ci (pr ns) (iA ns) h).map (mi ns (wS ws))).map fun (x:Nat)=>(x:Int),rfl,by rw[<-iv];exact bo.of LC,by rw[a_,a_];lia,fun D1 o1 Qv q1 w1=>?_⟩;have QQ:=au (o:=.lst (o1.map V.int)) Qv;have Uf:(upd H8 D1 (.lst (o1.map V.int))) D1=some (.lst (o1.map V.int)):=ah;generalize upd H8 D1 (.lst (o1.map V.int))=H9 at *;have NI:=s8.trans QQ;have t9:=eY t7 NI;refine⟨_,rfl,b,dx,_,rfl,NI _ _ b7,rC,L,b,ns,rfl,QP.same NI,t9,fun Ug Uh W5 Ui W6 NJ=>?_⟩;obtain⟨QR,Yh,Yi,Yj,W7,_⟩:=id Ui.ob;refine⟨Ug,QR,_,rfl,W7,DR _ _ _ _,_,rfl,_,Ug,pr ns,_,_,_,rfl,Ui,.int _,(fun z=>by rw[bW NG] at z;cases z),fun i2 Cc e2 r2 Fo Fp W8 y4=>?_⟩;cases e2;have y4:Fo r2=some (.lst (NV (ci (pr ns) (iA ns) (mi ns (wS ws) h)))):=y4;have W9:(ci (pr ns) (iA ns) (mi ns (wS ws) h)).length<=32:=bn (bn (pW _ _) (by rw[a_,ja];exact aI _)) y7;refine⟨r2,(ci (pr ns) (iA ns) (mi ns (wS ws) h)).map fun (x:Nat)=>(x:Int),rfl,by rw[<-iv];exact bo.of y4,by rw[a_];lia,fun D2 o2 fK q2 w2=>?_⟩;obtain rfl:o1=o2:=List.Perm.eq_of_pairwise (fun a b _ _ h1 h2=>Int.le_antisymm h1 h2) w1 w2 ((q1.trans ((HJ BX FI hh).map _)).trans q2.symm);have Uj:=au (o:=.lst (o1.map V.int)) fK;have QS:cM Pt H9 (upd Fo D2 (.lst (o1.map V.int))):=NJ.trans (cM.of (Fp.trans Uj));have tE:=eY W6 (Fp.trans Uj);have QT:=QS _ _ Uf (t9.not Uf (by intro ps z;cases z));refine⟨D1,D2,_,_,rfl,rfl,bo.of QT,bo.of ah,rfl,tO,_,rfl,ee rfl ?_⟩;generalize upd Fo D2 (.lst (o1.map V.int))=HE at *;have NK:cM Pt H7 HE:=(cM.of NI).trans QS;have BE:=QP.Jc t7 nl NK;have bE:=NK _ _ b7 (t7.not b7 (by intro ps z;cases z));have rE:=NK _ _ xb (t7.not xb (by intro ps z;cases z));have DE:=QS _ _ (QQ _ _ LC) (t9.not (QQ _ _ LC) (by intro ps z;cases z));have W_:=sT.trans NK;refine⟨_,rfl,r1,rfl,⟨_,bo.of rE⟩,fun D3 xa=>?_⟩;refine rD (K:=K) (ci (pr ns) (iA ns) h) (fun y=>oV (rP ns h y)) (fun σ=>∃u,σ=[u,some (.ref b),some (.int (h:Int))]) rE xa (by lia) ⟨_,rfl⟩ ?_ ?_
  .rintro y σ LD Kt hy ⟨u,rfl⟩ sW kt;have HK:=(BG BX hh (Jd y hy).1).mpr (Jd y hy).2;refine⟨_,rfl,b,dx,_,rfl,sW _ _ bE,BF,_,rfl,_,rfl,L,b,ns,_,_,some (h:Int),some (y:Int),rfl,BE.same sW,lW,lW,(fun z=>by rw[HK] at z;cases z),fun h' y' _ _ e1 e2 _ Uk LG=>?_⟩;obtain rfl:h=h':=ff (bG e1);obtain rfl:y=y':=ff (bG e2);exact kt _ _ ⟨_,rfl⟩ LG
  intro HF sF AR;refine⟨_,rfl,D,rfl,⟨_,bo.of (sF _ _ DE)⟩,fun D4 E9=>?_⟩;refine rD (K:=K) ((ci (pr ns) (iA ns) h).map (mi ns (wS ws))) (fun y=>oV (rP ns (mi ns (wS ws) h) y)) (fun σ=>∃u,σ=[u,some (.ref b),some (.int (mi ns (wS ws) h:Nat))]) (sF _ _ DE) E9 (by rw[a_];lia) ⟨_,rfl⟩ ?_ ?_
  .rintro y σ LD Kt hy ⟨u,rfl⟩ sW kt;obtain⟨o,ho,rfl⟩:=bg.mp hy;obtain⟨Yk,k,tk⟩:=Jd o ho;have HK:=(BG BX NG (jZ (w:=wS ws) (h:=o) BX.pos)).mpr ⟨k,xn BX.pos tk⟩;refine⟨_,rfl,b,dx,_,rfl,sW _ _ (sF _ _ bE),BF,_,rfl,_,rfl,L,b,ns,_,_,some ((mi ns (wS ws) h:Nat):Int),some ((mi ns (wS ws) o:Nat):Int),rfl,(BE.same sF).same sW,lW,lW,(fun z=>by rw[HK] at z;cases z),fun h' y' _ _ e1 e2 _ Uk LG=>?_⟩;obtain rfl:mi ns (wS ws) h=h':=ff (bG e1);obtain rfl:mi ns (wS ws) o=y':=ff (bG e2);exact kt _ _ ⟨_,rfl⟩ LG
  intro HG sG LH;have e4:((ci (pr ns) (iA ns) h).map (mi ns (wS ws))).map (fun y=>oV (rP ns (mi ns (wS ws) h) y))=(ci (pr ns) (iA ns) h).map (fun y=>oV (rP ns h y)):=by
   rw[dY];refine jE fun y hy=>?_;obtain⟨_,k,tk⟩:=Jd y hy;show oV (rP ns (mi ns (wS ws) h) (mi ns (wS ws) y))=oV (rP ns h y);rw[A1 tk,A1 (xn (w:=wS ws) BX.pos tk)]
  rw[e4] at LH;refine⟨D3,D4,_,_,rfl,rfl,bo.of (sG _ _ AR),bo.of LH,rfl,oj (fun y hy=>?_),?_⟩
  .obtain⟨_,k,tk⟩:=Jd y hy;exact⟨k,by rw[A1 tk];rfl⟩
  .exact q HG (eY tE (sF.trans sG)) (W_.trans (cM.of (sF.trans sG)))
end
abbrev QU:Stmt:=e8 52
theorem LI{X:Cx}{H:Hp}{o:Option Nat}:DA X H 0 (oV o) (oV o):=by
 intro ae s σ A u v I hu rx ry;have h:=vf (A:=A) (s:=s) rx ry (by cases o <;> rfl) (by cases o <;> rfl);rw[show wr (oV o) (oV o)=true by cases o <;> simp[oV,wr]] at h;exact h
theorem BH{X:Cx}{H:Hp}{cs:List (Option Nat)}:∀i,i<(cs.map oV).length->i<(cs.map oV).length->DA X H 0 ((cs.map oV).getD i .bV) ((cs.map oV).getD i .bV):=fun i h1 _=>by
 rw[a_] at h1;rw[ce,By h1];exact LI
theorem LJ{ns ws:List Nat}{st:List (Option Nat)}(BX:Bx ns):∀h,some h∈st.map (mo ns ws)->h<pr ns:=fun h hh=>by
 obtain⟨o,_,e⟩:=bg.mp hh;cases o with
 |none=>cases e
 |some g=>
  have e:some (mi ns (wS ws) g)=some h:=e;rw[<-bG e];exact jZ BX.pos
theorem LK{ns ws:List Nat}{st:List (Option Nat)}(BX:Bx ns)(gO:∀h,some h∈st->h<pr ns):(st.map (mo ns ws)).map (mo ns ws)=st:=by
 rw[dY];conv=>rhs;rw[<-gb st]
 refine jE fun o ho=>?_;cases o with
 |none=>rfl
 |some h=>
  show some (mi ns (wS ws) (mi ns (wS ws) h))=some h;rw[og BX.pos (gO h ho)]
section
variable {P:Program} {w:World} {K:PySem.W.Frag} {mg:Str->Option Value} {base:Heap}
theorem HL:az ["_law_box","_law_sides_here","_law_ways_here","_law_row_here","_law_turn","_law_found"] ["_law_box","_law_sides_here","_law_ways_here","_law_row_here"] (ak QU):=⟨rfl,rfl,rfl,by decide +kernel,rfl,by decide +kernel,by decide +kernel⟩
def HN(C CB:Addr):Sp:=fun vs H Q _=>∃ (L:Addr->Prop) (b a wa ra:Addr) (ns ws:List Nat) (st:List (Option Nat)),vs=[.ref b,.ref a,.ref wa,.ref ra]/\dE C CB H L b ns/\H a=some (.tup (NV ns))/\H wa=some (.tup (NV ws))/\H ra=some (.tup (st.map oV))/\Wy ns ws/\st.length<=100/\(∀h,some h∈st->h<pr ns)/\∀H',aM H H'->Q (.bl true) H'
theorem LL{f C CB:Addr}{fd:FuncData}(F:dU K "_law_row_right" "_law_row_right" QU f fd)(B:Bl mg)(MR:cg P w K mg base aX 7 "mirrored_row" ["box","ways","row"] (D6 C CB))(LR:cg P w K mg base aX 3 "_law_row" ["_law_sides_here","_law_ways_here","_law_row_here"] Ht):a9 P w K mg base aX 8 f fd ["_law_box","_law_sides_here","_law_ways_here","_law_row_here"] (HN C CB):=by
 refine F.ok HL (fun vs H Q E h=>?_) (fun cI A outer s H vs Q E hr h=>?_)
 .obtain⟨L,b,a,wa,ra,ns,ws,st,rfl,_⟩:=h;rfl
 .obtain⟨L,b,a,wa,ra,ns,ws,st,rfl,BA,ha,tK,Fn,WY,Bz,gO,q⟩:=h;have h3:bt 3 _:=hr.mono (by decide);have BX:=BA.bx;refine⟨_,(ag (cy dX rfl (cn rfl B.range (aa av af)) (aA (i:=4) HL.nd rfl (Or.inl rfl))
    (ag (aP (i:=5) HL.nd rfl (Or.inl rfl) (aw MR hr aG (aa (pv 0) (aa (pv 2) (aa (pv 3) af)))))
    (aj (bw (PW.pt (mX (cH (cw (aF d7 (by rfl) B.E4 kR (aa (pv 5) (aa (fk (v:=.ty "tuple") rfl B.tup gT rfl) af))))) (jl (aT (lV (d:=0) hr.u) (pv 5) (aw LR h3 aG (aa (pv 1) (aa (pv 2) (aa (pv 3) af)))) (be _))))) (aj (aJ iV)) aN))))
   (aj (aJ (gm (DB (d:=0) hr.u) (aw MR hr aG (aa (pv 0) (aa (pv 2) (aa (pv 5) af)))) (pv 3) (be _))))),?_⟩
  refine⟨_,rfl,by decide,by decide,eL (n:=2) (lo:=0) (fun i σ H1=>(∃z4 z5,σ=[some (.ref b),some (.ref a),some (.ref wa),some (.ref ra),z4,z5]/\(0<i->∃r,z5=some (.ref r)/\H1 r=some (.tup ((st.map (mo ns ws)).map oV))))/\aM H H1) ⟨⟨_,_,rfl,fun z=>absurd z (eF _)⟩,aM.refl _⟩ ?_ ?_⟩
  .rintro i σ H1 hi ⟨⟨z4,z5,rfl,_⟩,s1⟩;refine⟨_,rfl,_,rfl,_,rfl,L,b,wa,ra,ns,ws,st,rfl,BA.same s1,s1 _ _ tK,s1 _ _ Fn,Bz,gO,fun r H2 s2 y4=>?_⟩;have sW:=s1.trans s2;refine⟨_,rfl,.ref r,_,_,.type "tuple",true,rfl,⟨rfl,qZ⟩,.of (.tup y4),true,rfl,eU ?_⟩;refine⟨_,rfl,_,rfl,_,rfl,_,rfl,a,wa,ra,ns,ws,st,rfl,sW _ _ ha,sW _ _ tK,sW _ _ Fn,BX,WY,Bz,fun r2 H3 s3 Xa=>?_⟩;exact⟨r,r2,_,_,rfl,rfl,bL.of (s3 _ _ y4),bL.of Xa,rfl,BH,_,rfl,ee rfl ⟨⟨_,_,rfl,fun _=>⟨r,rfl,s3 _ _ y4⟩⟩,sW.trans s3⟩⟩
  .rintro σ H1 ⟨⟨z4,z5,rfl,hz⟩,s1⟩;obtain⟨r,rfl,xb⟩:=hz (by decide);refine⟨_,rfl,_,rfl,_,rfl,L,b,wa,r,ns,ws,st.map (mo ns ws),rfl,BA.same s1,s1 _ _ tK,xb,by rw[a_];exact Bz,LJ BX,fun r2 H2 s2 y4=>?_⟩;rw[LK BX gO] at y4;exact⟨_,rfl,r2,ra,_,_,rfl,rfl,bL.of y4,bL.of (s2 _ _ (s1 _ _ Fn)),rfl,BH,q H2 (s1.trans s2)⟩
theorem vY:az ["_law_pot_here","_law_sides_here","_law_many_here","_law_k","_law_most"] ["_law_pot_here"] (ak Qw):=⟨rfl,rfl,rfl,by decide +kernel,rfl,by decide +kernel,by decide +kernel⟩
def HP:Sp:=fun vs H Q _=>∃ (p:Addr),vs=[.ref p]/\b_ H p/\∀ (r:Addr) (ns:List Nat) (H':Hp),bC p H H'->b_ H' p->H' r=some (.tup (NV ns))->Bx ns->Q (.ref r) H'
set_option maxHeartbeats 8000000 in
theorem LN{f:Addr}{fd:FuncData}(F:dU K "_law_sides" "_law_sides" Qw f fd)(B:Bl mg)(TK:cg P w K mg base aX 1 "_law_take" ["_law_pot_here","_law_many_here"] vW):a9 P w K mg base aX 2 f fd ["_law_pot_here"] HP:=by
 refine F.ok vY (fun vs H Q E h=>?_) (fun cI A outer s H vs Q E hr h=>?_)
 .obtain⟨p,rfl,_⟩:=h;rfl
 .obtain⟨p,rfl,hp,q⟩:=h;refine⟨_,(ag (aP (i:=1) vY.nd rfl (Or.inl rfl) (gs af))
   (ag (aP (i:=2) vY.nd rfl (Or.inl rfl) av)
   (ag (cy dX rfl (cn rfl B.range (aa (bb eT av (aw TK hr aG (aa (pv 0) (aa av af)))) af)) (aA (i:=3) vY.nd rfl (Or.inl rfl))
    (ag (aP (i:=4) vY.nd rfl (Or.inl rfl) (aF (o_ rfl) (by rfl) B.min PyProof.Rows.boot_min (aa av (aa (bb lL av (pv 2)) af))))
    (aj (bw (aT wf (pv 4) av (be _)) (ag (aP (i:=1) vY.nd rfl (Or.inl rfl) (bb Bw (pv 1) (gs (aa (bb eT av (aw TK hr aG (aa (pv 0) (aa (bb gk (pv 4) av) af)))) af))))
     (aj (aP (i:=2) vY.nd rfl (Or.inl rfl) (bb hX (pv 2) (cZ jo (pv 1) (zz u6 av) (fun _ _=>rfl)))))) aN))))
   (aj (aJ (pv 1)))))),?_⟩
  refine⟨by show 0<=sizeLine;decide,fun T0 Qq=>?_⟩;have s0:=au (o:=.tup []) Qq;have g0:(upd H T0 (.tup [])) T0=some (.tup (NV [])):=ah;have p0:=hp.same s0;generalize upd H T0 (.tup [])=H0 at *;refine⟨_,rfl,p,5,rfl,by decide,by decide +kernel,p0,fun d H1 hd s1 p1=>⟨_,_,rfl,rfl,_,rfl,by lia,by lia,?_⟩⟩;rw[show ((1:Int)+(d:Int)).toNat=1+d by lia];have g1:=s1 _ _ g0 (fun z=>by obtain⟨x,y,e,_⟩:=p0;rw[<-z,g0] at e;cases e);refine eL (n:=1+d) (lo:=0) (fun k σ Hc=>∃ (sd:Addr) (fs:List Nat),(∃z3 z4,σ=[some (.ref p),some (.ref sd),some (.int (pr fs:Nat)),z3,z4])/\bC p H Hc/\b_ Hc p/\Hc sd=some (.tup (NV fs))/\fs.length<=k/\(0<k->fs≠[])/\(∀x∈fs,2<=x/\x<=8)/\pr fs<=32) ⟨T0,[],⟨_,_,rfl⟩,(bC.of s0).trans s1,p1,g1,aI _,fun z=>absurd z (eF _),fun x z=>(nomatch z),by decide⟩ ?_ ?_
  rotate_left
  .rintro σ Hc ⟨sd,fs,⟨z3,z4,rfl⟩,sc,pc,hs,fl,fn,fb,QV⟩;exact⟨_,rfl,q sd fs Hc sc pc hs ⟨List.length_pos_iff.mpr (fn (by lia)),by lia,fb,QV⟩⟩
  rintro k σ Hc hk ⟨sd,fs,⟨z3,z4,rfl⟩,sc,pc,hs,fl,fn,fb,QV⟩;rw[fz];have fp:0<pr fs:=Bc fun x hx=>by have:=fb x hx;lia
  obtain⟨tp,Nf,t1,t8,tm⟩:∃tp:Nat,(if (32:Int) / ((pr fs:Nat):Int)<8 then (32:Int) / ((pr fs:Nat):Int) else 8)=(tp:Int)/\1<=tp/\tp<=8/\pr fs*tp<=32:=by
   have e:(32:Int) / ((pr fs:Nat):Int)=((32 / pr fs:Nat):Int):=rfl;have d1:1<=32 / pr fs:=(Nat.le_div_iff_mul_le fp).mpr (by lia);have d2:pr fs*(32 / pr fs)<=32:=Nat.mul_div_le _ _;rw[e];by_cases c:32 / pr fs<8
   .exact⟨32 / pr fs,by rw[ap (by lia)],d1,by lia,d2⟩
   .exact⟨8,by rw[am (by lia)];rfl,by lia,by lia,bn (gW _ (by lia:8<=32 / pr fs)) d2⟩
  refine wZ (fun σ Hx=>σ=[some (.ref p),some (.ref sd),some (.int (pr fs:Nat)),some (.int (k:Int)),some (.int (tp:Nat))]/\Hx=Hc) ?_ ?_
  rotate_left
  .intro N hN;refine⟨_,rfl,_,_,rfl,rfl,⟨by lia,by lia⟩,8,_,rfl,?_⟩;refine hN _ _ ⟨?_,rfl⟩;rw[<-Nf];rfl
  rintro σ Hx ⟨rfl,rfl⟩;refine⟨_,rfl,_,_,rfl,rfl,_,rfl,qF (fun e=>?_) (fun e=>?_)⟩
  rotate_left
  .have t2:¬ 1<tp:=fun z=>e (cf (show (1:Int)<((tp:Nat):Int) by lia));refine⟨sd,fs,⟨_,_,rfl⟩,sc,pc,hs,Nat.le_succ_of_le fl,fun _ z=>?_,fb,QV⟩;subst z;have:tp=8:=by
    have h8:((8:Nat):Int)=(tp:Int):=Nf;lia
   lia
  have t2:1<tp:=by have e:(1:Int)<((tp:Nat):Int):=i_ e;lia
  refine wZ (fun σ Hy=>∃ (LO:Addr) (x:Nat),σ=[some (.ref p),some (.ref LO),some (.int (pr fs:Nat)),some (.int (k:Int)),some (.int (tp:Nat))]/\2<=x/\x<=tp/\bC p H Hy/\b_ Hy p/\Hy LO=some (.tup (NV (fs++[x])))) ?_ ?_
  rotate_left
  .intro N hN;refine⟨_,rfl,_,rfl,_,rfl,_,_,rfl,rfl,p,tp-1,by show [V.ref p,V.int ((tp:Int)-1)]=_;rw[show ((tp:Int)-1)=((tp-1:Nat):Int) by lia],by lia,bj (show tp-1<8 by lia) (by decide),pc,fun e H4 he s4 p4=>⟨_,_,rfl,rfl,by show 1<=sizeLine;decide,fun t ht=>?_⟩⟩;have e2:(2:Int)+(e:Int)=((2+e:Nat):Int):=by lia
   have st:=au (o:=.tup [.int ((2:Int)+(e:Int))]) ht;have Xb:=s4 _ _ hs (pc.neT hs);have s6:bC p H (upd H4 t (.tup [.int ((2:Int)+(e:Int))])):=sc.trans (s4.trans (bC.of st));refine⟨sd,t,NV fs,_,rfl,rfl,bL.of (st _ _ Xb),bL.of ah,by simp,?_,fun QW=>?_,fun qI r oM=>?_⟩
   .rw[aR];exact bn (show fs.length+1<=10 by lia) (by decide)
   .have fe:fs=[]:=List.map_eq_nil_iff.mp QW;refine hN _ _ ⟨t,2+e,rfl,by lia,by lia,s6,p4.same st,?_⟩;rw[ah,fe];show some (HO.tup [V.int ((2:Int)+(e:Int))])=_;rw[e2];rfl
   .have sr:=au (o:=.tup (NV fs++[.int ((2:Int)+(e:Int))])) oM;refine hN _ _ ⟨r,2+e,rfl,by lia,by lia,s6.trans (bC.of sr),(p4.same st).same sr,?_⟩;rw[ah];show some (HO.tup (NV fs++[V.int ((2:Int)+(e:Int))]))=_;rw[e2,iJ]
  rintro σ Hy ⟨LO,x,rfl,x2,xt,sy,py,hy⟩;have Xc:zR (NV (fs++[x])) (-1)=some (.int ((x:Nat):Int)):=by rw[<-iJ];exact zS _ _
  have px:pr (fs++[x])<=32:=by rw[fq];exact bn (gW _ xt) tm
  refine⟨_,rfl,_,rfl,_,rfl,LO,_,_,_,rfl,rfl,bL.of hy,Xc,_,_,rfl,rfl,.inl ⟨by lia,by lia⟩,LO,fs++[x],⟨some (.int (k:Int)),some (.int (tp:Nat)),?_⟩,sy,py,hy,by rw[iQ];show _+1<=_;lia,fun _=>by simp,fun y Xd=>?_,px⟩
  .rw[fq];rfl
  .rcases cY.mp Xd with z|z
   .exact fb y z
   .rw[dH.mp z];lia
end
abbrev vZ:Stmt:=e8 53
theorem D_:(["_law_house_here","_law_box","_law_sides_here","_law_ways_here"]:List Str).Nodup:=by decide +kernel
theorem HQ:(["_law_j","_law_pot_here","_law_many_here"]:List Str).Nodup:=by decide +kernel
theorem HS{ns:List Nat}(B:Bx ns):2<=pr ns:=by
 have h1:=B.l1;have hs:=B.sd;have hp:=B.pos;cases ns with
 |nil=>exact absurd h1 (by decide)
 |cons n l=>
  have a:=(hs n bX).1;have b:=Bc (ns:=l) fun x hx=>hp x (bA _ hx);show 2<=n*pr l;exact bn (show 2<=n*1 by lia) (gW n b)
theorem _root_.L2.pC.kE{lp:Pos}{q:Str}{p Pt:Addr}{H H':Hp}(t:pC lp q Pt H)(s:bC p H H')(hp:b_ H p):pC lp q Pt H':=by
 obtain⟨a,b,e,_⟩:=hp;rcases t with z|⟨c,z,y⟩
 .exact .inl (s _ _ z (by rintro rfl;rw[z] at e;cases e))
 .exact .inr ⟨c,s _ _ z (by rintro rfl;rw[z] at e;cases e),s _ _ y (by rintro rfl;rw[y] at e;cases e)⟩
theorem BI{Pt D:Addr}{H:Hp}{ys zs:List V}(t:gC Pt H)(h:H D=some (.lst ys)):gC Pt (upd H D (.lst zs)):=by
 rcases t with z|⟨c,z,y⟩
 .exact .inl (by rw[ao (fun e=>by rw[e,h] at z;cases z)];exact z)
 .exact .inr ⟨c,by rw[ao (fun e=>by rw[e,h] at z;cases z)];exact z,by rw[ao (fun e=>by rw[e,h] at y;cases y)];exact y⟩
section
variable {P:Program} {w:World} {K:PySem.W.Frag} {mg:Str->Option Value} {base:Heap}
def xw(K:PySem.W.Frag)(H:Hp)(a:Addr)(xs:List V):Prop:=(∃o,H a=some (.o5 o (.lst xs)))\/(∀H':Hp,bo K H' a xs)
theorem xw.seq{H:Hp}{a:Addr}{xs:List V}(h:xw K H a xs):bo K H a xs:=by
 rcases h with ⟨o,h⟩|h
 .exact .inl (.inr ⟨o,h⟩)
 .exact h H
theorem xw.mono{H H':Hp}{a:Addr}{xs:List V}(h:xw K H a xs)(e:∀o u,H a=some (.o5 o u)->H' a=some (.o5 o u)):xw K H' a xs:=by
 rcases h with ⟨o,h⟩|h
 .exact .inl ⟨o,e _ _ h⟩
 .exact .inr h
theorem xw.BJ{H H':Hp}{a p:Addr}{xs:List V}(h:xw K H a xs)(s:bC p H H')(hp:b_ H p):xw K H' a xs:=by
 obtain⟨x,y,e,_⟩:=hp;exact h.mono fun o u z=>s _ _ z (by rintro rfl;rw[z] at e;cases e)
theorem i8:az ["_law_script","_law_k","_law_pot_here","_law_sides_here","_law_ways_here","_law_many_here","_law_box","_law_row_here","_law_one","_law_other","_law_due"] ["_law_script"] (ak vZ):=⟨rfl,rfl,rfl,by decide +kernel,rfl,by decide +kernel,by decide +kernel⟩
def xx(K:PySem.W.Frag)(Pt:Addr):Sp:=fun vs H Q _=>∃ (a:Addr) (ns:List Int),vs=[.ref a]/\xw K H a (ns.map V.int)/\ns.length<=63/\gC Pt H/\∀H',Q (.bl true) H'
set_option maxHeartbeats 8000000 in
theorem HU{f C CB CE Pt fB:Addr}{fd Ul:FuncData}(F:dU K "law" "law" vZ f fd)(B:Bl mg)(T:NT K mg C)(TB:A9 K mg CB)(oJ:mg "all"=none)(MB:Mk K CB fB)(bB:fV K Ul ["self","sides"] [])(GB:a9 P w K mg base aX 11 fB Ul ["self","sides"] (A_ C CB Pt))(PT:cg P w K mg base aX 1 "_law_pot" ["_law_script","_law_k"] (Bo K))(SI:cg P w K mg base aX 2 "_law_sides" ["_law_pot_here"] HP)(WS:cg P w K mg base aX 2 "_law_ways" ["_law_pot_here","_law_sides_here"] Hu)(MA:cg P w K mg base aX 1 "_law_many" ["_law_sides_here"] Hl)(HR:cg P w K mg base aX 12 "_law_house_right" ["_law_box","_law_sides_here","_law_ways_here","_law_house_here"] (D9 C CB Pt))(Xe:cg P w K mg base aX 2 "_law_perhaps" ["_law_pot_here","_law_many_here"] DX)(TK:cg P w K mg base aX 1 "_law_take" ["_law_pot_here","_law_many_here"] vW)(RR:cg P w K mg base aX 8 "_law_row_right" ["_law_box","_law_sides_here","_law_ways_here","_law_row_here"] (HN C CB))(MR:cg P w K mg base aX 7 "mirrored_row" ["box","ways","row"] (D6 C CB))(LF:cg P w K mg base aX 2 "_law_far" ["_law_sides_here","_law_one","_law_other"] Hs)(MI:cg P w K mg base aX 6 "mirrored" ["box","ways","house"] (vX C CB))(MS:dG P w K mg base aX 1 CB "sides" ["self"] (DZ C CB))(MN:dG P w K mg base aX 11 CB "net" ["self"] (xv C CB Pt))(MF:dG P w K mg base (eZ P w) 5 C "far" ["self","one","other"] (AH K C CE)):
  a9 P w K mg base aX 13 f fd ["_law_script"] (xx K Pt):=by
 obtain⟨fS,WW,mS,bS,GS⟩:=MS.ex;obtain⟨fN,W2,mN,bN,GN⟩:=MN.ex;obtain⟨fF,Yl,mF,bF,GF⟩:=MF.ex;refine F.ok i8 (fun vs H Q E h=>?_) (fun cI A outer s H vs Q E hr h=>?_)
 .obtain⟨a,ns,rfl,_⟩:=h;rfl
 .obtain⟨a,Ea,rfl,hS,vw,tb,q⟩:=h;have h1:bt 1 _:=hr.mono (by decide);have h2:bt 2 _:=hr.mono (by decide);have h5:bt 5 _:=hr.mono (by decide);have h6:bt 6 _:=hr.mono (by decide);have h7:bt 7 _:=hr.mono (by decide);have h8:bt 8 _:=hr.mono (by decide);have Um:bt 11 _:=hr.mono (by decide);refine'⟨_,(ag (cy dX rfl (cn rfl B.range (aa (aF (o9 rfl) (by rfl) B.max PyProof.Rows.boot_max (aa av (aa (aF (o_ rfl) (by rfl) B.min PyProof.Rows.boot_min (aa av (aa (aF aW (by rfl) B.len fc (aa (pv 0) af)) af))) af))) af)) (aA (i:=1) i8.nd rfl (Or.inl rfl))
    (ag (aP (i:=2) i8.nd rfl (Or.inr rfl) (aw PT h1 aG (aa (pv 0) (aa (pv 1) af))))
    (ag (aP (i:=3) i8.nd rfl (Or.inr rfl) (aw SI h2 aG (aa (pv 2) af)))
    (ag (aP (i:=4) i8.nd rfl (Or.inr rfl) (aw WS h2 aG (aa (pv 2) (aa (pv 3) af))))
    (ag (aP (i:=5) i8.nd rfl (Or.inr rfl) (aw MA h1 aG (aa (pv 3) af)))
    (ag (aP (i:=6) i8.nd rfl (Or.inr rfl) (wm MB GB hr rfl TB.Pg bB .nil aG (aa (pv 3) af)))
    (ag (bw (cH (cw (aF (ye rfl) (by rfl) oJ PyProof.Rows.boot_all (aa ?c1 af)))) (aj (aJ iV)) aN)
    (ag (aP (i:=7) i8.nd rfl (Or.inl rfl) (cF bK (by rfl) B.tup gT (aa ?c2 af)))
    (ag (bw (PW.pt (mX (cH (cw (aw RR h8 aG (aa (pv 6) (aa (pv 3) (aa (pv 4) (aa (pv 7) af))))))) (jl (aT (lV (d:=0) hr.u) (aw MR h7 aG (aa (pv 6) (aa (pv 4) (aa (gs af) af)))) (gs af) (be _))))) (aj (aJ iV)) aN)
    (ag (zn (i:=8) (j:=9) rfl i8.nd rfl rfl (by decide) rfl rfl (aa (aw TK h1 aG (aa (pv 2) (aa (pv 5) af))) (aa (aw TK h1 aG (aa (pv 2) (aa (pv 5) af))) af)) (by rfl))
    (ag (aP (i:=10) i8.nd rfl (Or.inl rfl) (aw LF h2 aG (aa (pv 3) (aa (pv 8) (aa (pv 9) af)))))
    (ag (bw (aT k7 (bU (d6 (pv 6) TB.cl mN GN Um bN .nil aG) T.cl mF GF h5 bF .nil fW (aa (aw MI h6 aG (aa (pv 6) (aa (pv 4) (aa (pv 8) af)))) (aa (aw MI h6 aG (aa (pv 6) (aa (pv 4) (aa (pv 9) af)))) af))) (pv 10) (be _)) (aj (aJ iV)) aN)
    (aj (bw (PW.pt (mX (aT (lV (d:=0) hr.u) (d6 (pv 6) TB.cl mS GS h1 bS .nil aG) (pv 3) (be _)) (jl (aT k7 (bU (d6 (pv 6) TB.cl mN GN Um bN .nil aG) T.cl mF GF h5 bF .nil fW (aa (pv 8) (aa (pv 9) af))) (pv 10) (be _))))) (aj (aJ iV)) aN))))))))))))))
   (aj (aJ iV))),?_⟩
  case c1=>
   refine' cL (g:=(cD 0)) (te:=(iX (D9 C CB Pt) [] E0 (bR (cN 1) (bR (cN 2) (bR (cN 3) (bR (cN 0) iM)))))) (NB:=["_law_house_here","_law_box","_law_sides_here","_law_ways_here"]) (src:=[none,some 6,some 3,some 4]) (cJ (by kernel_rfl)) rfl (cn rfl B.range (aa (pv 5) af)) ?g ?t ?e;case g=>exact fun cl C s₃ H₃ fp=>(aA (i:=0) D_ rfl (Or.inl rfl) (Or.inr rfl))
   case t=>exact fun cl C s₃ H₃ fp=>cW
   case e=>exact fun cl C' s₃ H₃ fp=>(aw HR hr aG (aa (pv 1) (aa (pv 2) (aa (pv 3) (aa (pv 0) af)))))
  case c2=>
   refine' cL (g:=(cD 0)) (te:=(iX DX [] E0 (bR (cN 1) (bR (cN 2) iM)))) (NB:=["_law_j","_law_pot_here","_law_many_here"]) (src:=[none,some 2,some 5]) (cJ (by kernel_rfl)) rfl (cn rfl B.range (aa (aw TK h1 aG (aa (pv 2) (aa av af))) af)) ?g ?t ?e;case g=>exact fun cl C s₃ H₃ fp=>(aA (i:=0) HQ rfl (Or.inl rfl) (Or.inr rfl))
   case t=>exact fun cl C s₃ H₃ fp=>cW
   case e=>exact fun cl C' s₃ H₃ fp=>(aw Xe h2 aG (aa (pv 1) (aa (pv 2) af)))
  refine⟨_,rfl,a,_,rfl,.inl hS.seq,6,_,rfl,2,_,rfl,_,rfl,?_⟩;obtain⟨j,hj,j1⟩:∃j:Int,(if (if (((Ea.map V.int).length:Nat):Int)<6 then (((Ea.map V.int).length:Nat):Int) else (6:Int)) > 2 then (if (((Ea.map V.int).length:Nat):Int)<6 then (((Ea.map V.int).length:Nat):Int) else (6:Int)) else 2)=j/\1<=j/\j<=6:=⟨_,rfl,by split <;> split <;> lia⟩
  rw[hj];refine⟨by lia,by lia,eL (n:=j.toNat) (lo:=0) (fun k σ H2=>(∃x1 x2 x3 x4 x5 x6 x7 x8 x9 Uo,σ=[some (.ref a),x1,x2,x3,x4,x5,x6,x7,x8,x9,Uo])/\xw K H2 a (Ea.map V.int)/\gC Pt H2) ⟨⟨_,_,_,_,_,_,_,_,_,_,rfl⟩,hS,tb⟩ ?_ (fun σ H2 _=>q H2)⟩;rintro k σ H2 hk ⟨⟨x1,x2,x3,x4,x5,x6,x7,x8,x9,Uo,rfl⟩,S2,t2⟩;refine⟨_,rfl,_,rfl,a,Ea,k,by rw[fz];rfl,S2.seq,by lia,fun p H3 s3 np p3=>?_⟩;refine⟨_,rfl,p,rfl,p3,fun sd ns H5 s5 p5 Eb BX=>?_⟩;have y7:=BX.y7;have Ym:=HS BX;refine⟨_,rfl,_,rfl,p,sd,ns,rfl,p5,Eb,BX,fun wa ws H6 QX p6 WY tK=>?_⟩;have NL:=QX _ _ Eb (p5.neT Eb);have s6:=s5.trans QX;have S6:=(S2.mono fun o u e=>s3 _ _ e).BJ s6 p3;have t6:=(eY t2 s3).kE s6 p3;refine⟨_,rfl,sd,ns,rfl,NL,(fun x hx=>(BX.sd x hx).2),?_⟩;refine⟨_,rfl,fun bx dx nx PP PQ=>?_⟩;have sN:aM H6 (upd (upd H6 dx (.own bx)) bx (.ins CB dx [])):=(au (o:=.own bx) PP).trans (au (D:=bx) (o:=.ins CB dx []) (by rw[ao PQ.symm];exact nx));have Xf:(upd (upd H6 dx (.own bx)) bx (.ins CB dx [])) bx=some (.ins CB dx []):=ah;generalize upd (upd H6 dx (.own bx)) bx (.ins CB dx [])=HM at *;refine⟨bx,dx,sd,ns,rfl,Xf,sN _ _ NL,BX,eY t6 sN,fun H8 BA t8 s8=>⟨rfl,?_⟩⟩;have tN:gC Pt HM:=eY t6 sN;have kp:∀ {c o},H6 c=some o->(∀ps,o≠.lq ps)->H8 c=some o:=fun {c o} e nt=>s8 _ _ (sN _ _ e) (aq e nx) (tN.not (sN _ _ e) nt);have S8:xw K H8 a (Ea.map V.int):=S6.mono fun o u e=>kp e (by intro ps z;cases z);have p8:b_ H8 p:=by
   obtain⟨u,v,e,r⟩:=p6;exact⟨u,v,kp e (by intro ps z;cases z),r⟩
  have Up:¬ (HM p=none):=fun z=>(p6.same sN).full z;have QY:=kp NL (by intro ps z;cases z);have QZ:=kp tK (by intro ps z;cases z);have LP:¬ (HM Pt=none):=fun z=>tN.full z;obtain⟨Q0,Yn,Yo,Uq,Xg,Xh⟩:=id BA.ob;have FI:=Xg.nP;clear kp S6 t6 s6 QX s5 s3 NL Eb tK p6 p5 p3 np;refine⟨_,rfl,_,rfl,by lia,by lia,fun D hD=>?_⟩;rw[show (((pr ns:Nat)):Int).toNat=pr ns by lia];have LQ:gC Pt (upd H8 D (.lst [])):=eY t8 (au hD);refine eW (lo:=0) (n:=pr ns) (fun i ys σ Hc=>(∃u,σ=[u,some (.ref bx),some (.ref sd),some (.ref wa)])/\cM Pt H8 Hc/\gC Pt Hc/\Hc D=some (.lst ys)/\ys=(List.replicate i true).map V.bl) ⟨⟨_,rfl⟩,cM.of (au hD),LQ,ah,rfl⟩ ?_ ?_
  .rintro i ys σ Hc Kt Kf hi ⟨⟨u,rfl⟩,sc,tc,NM,rfl⟩ kt kf;rw[fz];refine⟨_,rfl,_,rfl,_,rfl,_,rfl,_,bx,sd,wa,ns,ws,i,rfl,BA.Jc t8 LP sc,sc _ _ QY (t8.not QY (by intro ps z;cases z)),sc _ _ QZ (t8.not QZ (by intro ps z;cases z)),WY,hi,tc,LP,fun H9 t9 s9=>?_⟩;have NN:=s9 _ _ NM (tc.not NM (by intro ps z;cases z));refine kt _ _ _ NN (by rw[a_,l3];exact bj (show i<33 by lia) (by decide)) ⟨⟨_,rfl⟩,fun c o e n=>?_,BI t9 NN,ah,?_⟩
   .rw[ao (fun z=>by rw[z,hD] at e;cases e)];exact s9 _ _ (sc _ _ e n) n
   .rw[ui,c_];rfl
  rintro ys σ H9 ⟨⟨u,rfl⟩,s9,t9,NN,rfl⟩;refine⟨D,List.replicate (pr ns) true,rfl,bo.of NN,_,rfl,ee (by rw[show (List.replicate (pr ns) true).all id=true by simp];rfl) ?_⟩;have nt:∀ {c:Addr} {xs:List V},H8 c=some (.tup xs)->H9 c=some (.tup xs):=fun e=>s9 _ _ e (t8.not e (by intro ps z;cases z));have Xi:=BA.Jc t8 LP s9;have p9:b_ H9 p:=by
   obtain⟨u,v,e,r⟩:=p8;exact⟨u,v,s9 _ _ e (t8.not e (by intro ps z;cases z)),r⟩
  have Ur:=nt QY;have Us:=nt QZ;have Ut:=s9 _ _ Uq (t8.not Uq (by intro ps z;cases z));have S9:xw K H9 a (Ea.map V.int):=S8.mono fun o u e=>s9 _ _ e (t8.not e (by intro ps z;cases z));clear nt LQ;refine⟨_,rfl,p,41,rfl,by decide,by decide +kernel,p9,fun m Uh hm NJ Uu=>⟨_,rfl,by lia,by lia,fun D2 fK=>?_⟩⟩;rw[show ((m:Int)).toNat=m by lia];have Uv:=Uu.ne fK;refine eW (lo:=0) (n:=m) (fun i ys σ Hc=>(∃u,σ=[u,some (.ref p),some (.int (pr ns:Nat))])/\bC p Uh Hc/\b_ Hc p/\Hc D2=some (.lst ys)/\∃st:List (Option Nat),ys=st.map oV/\st.length=i/\∀h,some h∈st->h<pr ns) ⟨⟨_,rfl⟩,bC.of (au fK),Uu.same (au fK),ah,[],rfl,rfl,fun h z=>(nomatch z)⟩ ?_ ?_
  .rintro i ys σ Hc Kt Kf hi ⟨⟨u,rfl⟩,sc,pc,NM,st,rfl,sl,gO⟩ kt kf;refine⟨_,rfl,_,rfl,p,pr ns,rfl,by lia,y7,pc,fun o Fo ho Fp Q3=>?_⟩;refine kt _ _ _ (Fp _ _ NM Uv) (by rw[a_,sl];exact bj (show i<42 by lia) (by decide)) ⟨⟨_,rfl⟩,pR (sc.trans Fp) fK,Q3.put Uv.symm,ah,st++[o],by rw[c_];rfl,by rw[iQ,sl];rfl,fun h hh=>?_⟩;rcases cY.mp hh with z|z
   .exact gO h z
   .exact ho h (dH.mp z).symm
  rintro ys σ Fo ⟨⟨u,rfl⟩,Fp,Q3,Q4,st,rfl,sl,gO⟩;refine⟨D2,_,rfl,.inl ⟨bo.of Q4,fun ra Fn=>?_⟩⟩;have sR:=au (o:=.tup (st.map oV)) Fn;have sE:bC p H9 (upd Fo ra (.tup (st.map oV))):=NJ.trans (Fp.trans (bC.of sR));have Xj:(upd Fo ra (.tup (st.map oV))) ra=some (.tup (st.map oV)):=ah;have Je:=Q3.same sR;generalize upd Fo ra (.tup (st.map oV))=LD at *;have HV:=sE _ _ Ur (p9.neT Ur);have Ec:=sE _ _ Us (p9.neT Us);have NO:∀ {c:Addr} {o:HO},H9 c=some o->(∀xs,o≠.lst xs)->c≠p:=fun {c o} e n z=>by
   obtain⟨u,v,g,_⟩:=p9;rw[<-z,e] at g;exact n _ (bG g)
  have HW:dE C CB LD (fun a=>HM a=none) bx ns:=by
   obtain⟨Q5,Q6,src,a1,c1,d1⟩:=Xi.ob;obtain⟨_,_,_,_,g1,_⟩:=c1.ob;exact⟨BX,Q5,Q6,src,sE _ _ a1 (NO a1 fun _ z=>nomatch z),c1.keep (fun q o l e=>sE _ _ e (fun z=>Up (z ▸ l))) (fun o e=>sE _ _ e (NO e (by rw[g1] at e;injection e with e;subst e;exact fun _ z=>nomatch z))),sE _ _ d1 (NO d1 fun _ z=>nomatch z)⟩
  have LU:=sE _ _ Ut (NO Ut fun _ z=>nomatch z);have Xk:=t9.kE sE p9;have Xl:=S9.BJ sE p9;clear S9 NJ Fp sR;refine⟨_,rfl,_,rfl,_,rfl,_,rfl,_,bx,sd,wa,ra,ns,ws,st,rfl,HW,HV,Ec,Xj,WY,by lia,gO,fun Uk LG=>⟨_,rfl,ee rfl ?_⟩⟩;refine⟨_,rfl,_,rfl,by show 0<=sizeLine;decide,fun e0 Xm=>?_⟩;have Xn:=au (o:=.tup []) Xm;have Q7:=LG.trans Xn;refine⟨_,bx,wa,e0,ns,ws,[],rfl,HW.same Q7,Q7 _ _ Ec,ah,by decide,(fun h z=>nomatch z),fun r Xo Xp Q8=>?_⟩;refine⟨by show 0<=sizeLine;decide,fun e1 Xq=>?_⟩;have Uw:=au (o:=.tup []) Xq;refine⟨r,e1,[],[],rfl,rfl,bL.of (Uw _ _ Q8),bL.of ah,rfl,(fun i h _=>absurd h (mx _)),_,rfl,ee rfl ?_⟩;have Ux:=Q7.trans (Xp.trans Uw);generalize upd Xo e1 (.tup [])=Yp at *;have Xr:=Je.same Ux;refine⟨_,rfl,_,rfl,p,pr ns,rfl,by lia,fL y7 (by decide),Xr,fun d1 Yq Q9 Xs Xt=>⟨_,rfl,_,rfl,p,pr ns,rfl,by lia,fL y7 (by decide),Xt,fun d2 Uy zO Xu Yr=>⟨_,_,rfl,?_⟩⟩⟩;have sF:bC p LD Uy:=(bC.of Ux).trans (Xs.trans Xu);have Ed:∀ {c:Addr} {o:HO},LD c=some o->(∀xs,o≠.lst xs)->c≠p:=fun {c o} e n z=>by
   obtain⟨u,v,g,_⟩:=Je;rw[<-z,e] at g;exact n _ (bG g)
  have Q_:dE C CB Uy (fun a=>HM a=none) bx ns:=by
   obtain⟨Q5,Q6,src,a1,c1,d1⟩:=HW.ob;obtain⟨_,_,_,_,g1,_⟩:=c1.ob;exact⟨BX,Q5,Q6,src,sF _ _ a1 (Ed a1 fun _ z=>nomatch z),c1.keep (fun q o l e=>sF _ _ e (fun z=>Up (z ▸ l))) (fun o e=>sF _ _ e (Ed e (by rw[g1] at e;injection e with e;subst e;exact fun _ z=>nomatch z))),sF _ _ d1 (Ed d1 fun _ z=>nomatch z)⟩
  have LV:=sF _ _ HV (Je.neT HV);have Ra:=sF _ _ Ec (Je.neT Ec);have Rb:=sF _ _ LU (Ed LU fun _ z=>nomatch z);have Xv:=Xk.kE sF Je;have Xw:=Xl.BJ sF Je;refine⟨_,rfl,_,rfl,_,rfl,sd,ns,d1,d2,rfl,LV,BX,fun Rc Jf=>?_⟩;have Fq:=eY Xv Jf;have HX:=Q_.same Jf;have LW:=Jf _ _ LV;have Re:=Jf _ _ Ra;have HY:=Jf _ _ Rb;have Xx:xw K Rc a (Ea.map V.int):=Xw.mono fun o u e=>Jf _ _ e;refine⟨_,rfl,bx,Q0,_,rfl,HY,rC,_,bx,ns,rfl,HX,Fq,fun pN Xy Ys Uz Xz Rf=>?_⟩;obtain⟨La,tl,ol,ds,hN,_⟩:=id Uz.ob;have Rg:∀ {c:Addr} {o:HO},Rc c=some o->(∀ps,o≠.lq ps)->Xy c=some o:=fun e n=>Rf _ _ e (Fq.not e n);have LX:=HX.Jc Fq LP Rf;have LY:=Rg Re (by intro ps z;cases z);refine⟨pN,La,_,rfl,hN,KC _ _ _ _,_,rfl,_,rfl,_,rfl,_,bx,wa,ns,ws,d1,rfl,LX,LY,Q9,fun Yt Rh=>?_⟩;refine⟨_,rfl,_,rfl,_,rfl,_,bx,wa,ns,ws,d2,rfl,LX.same Rh,Rh _ _ LY,zO,fun XA XB=>?_⟩;have HZ:=Rh.trans XB;have UA:=jZ (w:=wS ws) (h:=d1) BX.pos;have IP:=jZ (w:=wS ws) (h:=d2) BX.pos;refine⟨_,pN,pr ns,_,_,_,_,_,rfl,Uz.same HZ,.int _,.int _,(fun z=>by rw[bW UA,bW IP] at z;rcases z with z|z <;> cases z),fun i j2 hi XC e1 e2=>?_⟩;cases e1;cases e2;rw[xr BX FI UA IP,Fj BX.pos];refine⟨_,rfl,rfl,_,rfl,ee (by show (!decide (V.int _=V.int _))=false;rw[cf rfl];rfl) ?_⟩;have tP:cM Pt Rc XA:=Rf.trans (cM.of HZ);have UB:=eY Xz HZ;have LZ:=HX.Jc Fq LP tP;have L3:=tP _ _ HY (Fq.not HY (by intro ps z;cases z));have Ri:=tP _ _ LW (Fq.not LW (by intro ps z;cases z));refine⟨_,rfl,bx,Q0,_,rfl,L3,BC,_,bx,ns,rfl,LZ,fun Lz D5=>?_⟩;refine⟨_,rfl,Lz,sd,_,_,rfl,rfl,bL.of D5,bL.of Ri,rfl,oj (f:=fun (x:Nat)=>V.int (x:Int)) (fun x _=>⟨_,rfl⟩),_,rfl,ee rfl ?_⟩;refine⟨_,rfl,bx,Q0,_,rfl,L3,rC,_,bx,ns,rfl,LZ,UB,fun pM Yu Yv UC XD XE=>?_⟩;obtain⟨XF,tm,om,dm,hM,_⟩:=id UC.ob;refine⟨pM,XF,_,rfl,hM,KC _ _ _ _,_,rfl,_,rfl,_,pM,pr ns,_,_,_,_,_,rfl,UC,.int _,.int _,(fun z=>by rw[bW Q9,bW zO] at z;rcases z with z|z <;> cases z),fun i j2 hi XC e1 e2=>?_⟩;cases e1;cases e2;rw[xr BX FI Q9 zO];refine⟨_,rfl,rfl,_,rfl,ee (by show (!decide (V.int _=V.int _))=false;rw[cf rfl];rfl) ?_⟩;exact⟨⟨_,_,_,_,_,_,_,_,_,_,rfl⟩,Xx.mono fun o u e=>XE _ _ (tP _ _ e (Fq.not e (by intro ps z;cases z))) (UB.not (tP _ _ e (Fq.not e (by intro ps z;cases z))) (by intro ps z;cases z)),XD⟩
end
def FD(K:PySem.W.Frag)(n:Str)(st:Stmt):Prop:=∃ (f:Addr) (oc:Value) (od an:Option Addr) (sl:Array (Option Value)) (kV dc pm cd ct:Value),PySem.W.nsIn K mainGlobals n=some (some (.ref f))/\K.lookup f=some ⟨oc,od,.func (PySem.W.fnOf n n (b9 st) (bp st) (ak st) .none kV dc pm an cd ct),sl⟩/\PySem.W.codeIn K cd n=true/\PySem.W.keepIn K (.ref f)=true
def FC(K:PySem.W.Frag)(n:Str)(st:Stmt)(c:Addr):Prop:=∃ (f:Addr) (oc:Value) (od an:Option Addr) (sl:Array (Option Value)) (kV dc pm ct:Value),PySem.W.nsIn K mainGlobals n=some (some (.ref f))/\K.lookup f=some ⟨oc,od,.func (PySem.W.fnOf n n (b9 st) (bp st) (ak st) .none kV dc pm an (.ref c) ct),sl⟩/\PySem.W.codeIn K (.ref c) n=true/\PySem.W.keepIn K (.ref f)=true
def MD(K:PySem.W.Frag)(C:Addr)(n q:Str)(st:Stmt):Prop:=∃ (f:Addr) (oc:Value) (od an:Option Addr) (sl:Array (Option Value)) (kV dc pm cd ct:Value),PySem.W.findIn K (.ref C) n=some (some (.ref f))/\PySem.W.isFn K (.ref f)=true/\K.lookup f=some ⟨oc,od,.func (PySem.W.fnOf n q (b9 st) (bp st) (ak st) .none kV dc pm an cd ct),sl⟩/\PySem.W.codeIn K cd q=true/\PySem.W.keepIn K (.ref f)=true
def MC(K:PySem.W.Frag)(C:Addr)(n q:Str)(st:Stmt)(c:Addr):Prop:=∃ (f:Addr) (oc:Value) (od an:Option Addr) (sl:Array (Option Value)) (kV dc pm ct:Value),PySem.W.findIn K (.ref C) n=some (some (.ref f))/\PySem.W.isFn K (.ref f)=true/\K.lookup f=some ⟨oc,od,.func (PySem.W.fnOf n q (b9 st) (bp st) (ak st) .none kV dc pm an (.ref c) ct),sl⟩/\PySem.W.codeIn K (.ref c) q=true/\PySem.W.keepIn K (.ref f)=true
section
variable {P:Program} {w:World} {K:PySem.W.Frag} {mg:Str->Option Value} {base h:Heap} {n q:Str} {st:Stmt} {f c C:Addr} {oc kV dc pm cd ct:Value} {od an:Option Addr} {sl:Array (Option Value)} {CX:rN} {k:Nat} {ps:List Str} {sp:Sp}
theorem FD.mk(a:PySem.W.nsIn K mainGlobals n=some (some (.ref f)))(l:K.lookup f=some ⟨oc,od,.func (PySem.W.fnOf n n (b9 st) (bp st) (ak st) .none kV dc pm an cd ct),sl⟩)(d:PySem.W.codeIn K cd n=true)(k:PySem.W.keepIn K (.ref f)=true):FD K n st:=⟨f,oc,od,an,sl,kV,dc,pm,cd,ct,a,l,d,k⟩
theorem FC.mk(a:PySem.W.nsIn K mainGlobals n=some (some (.ref f)))(l:K.lookup f=some ⟨oc,od,.func (PySem.W.fnOf n n (b9 st) (bp st) (ak st) .none kV dc pm an (.ref c) ct),sl⟩)(d:PySem.W.codeIn K (.ref c) n=true)(k:PySem.W.keepIn K (.ref f)=true):FC K n st c:=⟨f,oc,od,an,sl,kV,dc,pm,ct,a,l,d,k⟩
theorem MD.mk(a:PySem.W.findIn K (.ref C) n=some (some (.ref f)))(i:PySem.W.isFn K (.ref f)=true)(l:K.lookup f=some ⟨oc,od,.func (PySem.W.fnOf n q (b9 st) (bp st) (ak st) .none kV dc pm an cd ct),sl⟩)(d:PySem.W.codeIn K cd q=true)(k:PySem.W.keepIn K (.ref f)=true):MD K C n q st:=⟨f,oc,od,an,sl,kV,dc,pm,cd,ct,a,i,l,d,k⟩
theorem MC.mk(a:PySem.W.findIn K (.ref C) n=some (some (.ref f)))(i:PySem.W.isFn K (.ref f)=true)(l:K.lookup f=some ⟨oc,od,.func (PySem.W.fnOf n q (b9 st) (bp st) (ak st) .none kV dc pm an (.ref c) ct),sl⟩)(d:PySem.W.codeIn K (.ref c) q=true)(k:PySem.W.keepIn K (.ref f)=true):MC K C n q st c:=⟨f,oc,od,an,sl,kV,dc,pm,ct,a,i,l,d,k⟩
def BD(n q:Str)(st:Stmt)(ps:List Str):Prop:=∀ (kV jA pm:Value) (an:Option Addr) (cI ct:Value) (us:List Value),us.length=ps.length->bindArgs (PySem.W.fnOf n q (b9 st) (bp st) (ak st) .none kV jA pm an cI ct) ⟨us,[]⟩=pure (ps.zip us)
theorem FD.fv(X:K.In h)(G:h.Ns mainGlobals mg)(D:FD K n st)(b:BD n n st ps)(o:∀ {f fd},dU K n n st f fd->a9 P w K mg base CX k f fd ps sp):cg P w K mg base CX k n ps sp:=by
 obtain⟨f,_,_,_,_,_,_,_,_,_,a,l,d,kp⟩:=D;have F:=nq (x:=n) (qual:=n) (st:=st) l d kp;exact⟨⟨f,_,eO X G a,kp,F.binds b,o F⟩⟩
theorem FC.fv(X:K.In h)(G:h.Ns mainGlobals mg)(D:FC K n st c)(b:BD n n st ps)(o:∀ {f fd},vx K n n st f fd c->a9 P w K mg base CX k f fd ps sp):cg P w K mg base CX k n ps sp:=by
 obtain⟨f,_,_,_,_,_,_,_,_,a,l,d,kp⟩:=D;have F:=C1 (x:=n) (qual:=n) (st:=st) l d kp;exact⟨⟨f,_,eO X G a,kp,F.fun.binds b,o F⟩⟩
theorem MD.fv(D:MD K C n q st)(b:BD n q st ps)(o:∀ {f fd},dU K n q st f fd->a9 P w K mg base CX k f fd ps sp):dG P w K mg base CX k C n ps sp:=by
 obtain⟨f,_,_,_,_,_,_,_,_,_,a,i,l,d,kp⟩:=D;have F:=nq (x:=n) (qual:=q) (st:=st) l d kp;exact⟨⟨f,_,⟨a,i,kp⟩,F.binds b,o F⟩⟩
end
theorem gN{α:Type}{P:List α->Prop}(h:∀a0,P [a0])(l:List α)(e:l.length=1):P l:=by
 cases l with
 |nil=>cases e
 |cons a t=>cases t with
  |nil=>exact h a
  |cons b t=>cases e
theorem dF{α:Type}{P:List α->Prop}(h:∀a0 a1,P [a0,a1])(l:List α)(e:l.length=2):P l:=by
 cases l with
 |nil=>cases e
 |cons a t=>exact gN (P:=fun t=>P (a::t)) (h a) t (mI e)
theorem fw{α:Type}{P:List α->Prop}(h:∀a0 a1 a2,P [a0,a1,a2])(l:List α)(e:l.length=3):P l:=by
 cases l with
 |nil=>cases e
 |cons a t=>exact dF (P:=fun t=>P (a::t)) (h a) t (mI e)
theorem Fs{α:Type}{P:List α->Prop}(h:∀a0 a1 a2 a3,P [a0,a1,a2,a3])(l:List α)(e:l.length=4):P l:=by
 cases l with
 |nil=>cases e
 |cons a t=>exact fw (P:=fun t=>P (a::t)) (h a) t (mI e)
theorem H_{l:PySem.W.OpenLaw}{w:World}{K:PySem.W.Frag}{h:Heap}{mg:Str->Option Value}{fa:Addr}(X:K.In h)(G:h.Ns mainGlobals mg)(XG:mg "law"=some (.ref fa)){C cO Pt iL dS rF bu:Addr}{lD oU lE rG lF on:Tok}(aC:PySem.W.nsIn K mainGlobals "Net"=some (some (.ref C)))(yP:PySem.W.nsIn K mainGlobals "NoShape"=some (some (.ref iL)))(yQ:PySem.W.nsIn K mainGlobals "NoHouse"=some (some (.ref dS)))(Ee:PySem.W.nsIn K mainGlobals "NoTie"=some (some (.ref rF)))(L4:PySem.W.nsIn K mainGlobals "Box"=some (some (.ref bu)))(Ef:FD K "is_whole" vE)(BK:FD K "is_whole_within" qW)(Eg:FD K "is_house" vF)(L5:FD K "is_row" Gj)(L6:FD K "are_unlike_houses" Gs)(L7:FD K "is_tie" Gq)(Eh:FD K "check_ties" vH)(L8:FD K "check_balance" Gr)(Ib:FC K "houses_out" sV cO)(Ic:FD K "distances_from" AM)(Ei:FD K "check_reached" vI)(Ie:FD K "product" AU)(BL:FD K "pairs_net" re)(BM:FD K "check_sides" rf)(BO:FD K "box_pairs" rh)(Ig:FD K "box_net" AS)(Rj:FD K "are_tied" Qj)(L9:FD K "_law_pot" Hi)(Rk:FD K "_law_take" Qn)(Rl:FD K "_law_sides" Qw)(Rm:FD K "_law_ways" Qx)(Rn:FD K "_law_place" Qs)(Ro:FD K "_law_house" Qt)(Rp:FD K "_law_many" Qr)(Rq:FD K "_law_mirrored" Qu)(Rr:FD K "_law_row" Qy)(Rt:FD K "_law_far" Qz)(Ru:FD K "mirrored" QI)(Rv:FD K "mirrored_row" QJ)(Rx:FD K "_law_house_right" QM)(Ry:FD K "_law_perhaps" QA)(Rz:FD K "_law_row_right" QU)(L_:FD K "law" vZ)(Ih:MD K C "__init__" "Net.__init__" w4)(Ej:MD K C "check_house" "Net.check_house" vG)(Ma:MD K C "out" "Net.out" Gm)(Mb:MD K C "far" "Net.far" Gn)(Ii:MD K C "many" "Net.many" AF)(pg:PySem.W.plainGet K C Str.empty=true)(RA:PySem.W.hasDictIn K C=true)(po:PySem.W.plainOver K C=true)(sa:PySem.W.findIn K (.ref C) "__setattr__"=some (some (.builtin "object.__setattr__")))(mk:PySem.W.makesIn K C=true)(kc:PySem.W.keepIn K (.ref C)=true)(nH:PySem.W.findIn K (.ref C) "house_count"=some none)(nT:PySem.W.findIn K (.ref C) "tie_list"=some none)(nO:PySem.W.findIn K (.ref C) "out_lists"=some none)(nD:PySem.W.findIn K (.ref C) "distances"=some none)(rH:PySem.W.nsIn K mainGlobals "isinstance"=some none)(Mc:PySem.W.nsIn K mainGlobals "int"=some none)(Ij:PySem.W.nsIn K mainGlobals "bool"=some none)(Ek:PySem.W.nsIn K mainGlobals "tuple"=some none)(Ik:PySem.W.nsIn K mainGlobals "list"=some none)(Md:PySem.W.nsIn K mainGlobals "str"=some none)(Me:PySem.W.nsIn K mainGlobals "set"=some none)(Mf:PySem.W.nsIn K mainGlobals "len"=some none)(El:PySem.W.nsIn K mainGlobals "range"=some none)(BQ:PySem.W.nsIn K mainGlobals "sorted"=some none)(Mg:PySem.W.nsIn K mainGlobals "any"=some none)(Mh:PySem.W.nsIn K mainGlobals "max"=some none)(Mi:PySem.W.nsIn K mainGlobals "min"=some none)(rJ:PySem.W.nsIn K mainGlobals "ValueError"=some none)(Mj:PySem.W.nsIn K mainGlobals "all"=some none)(Ml:PySem.W.nsIn K mainGlobals "abs"=some none)(BR:PySem.W.nsIn K mainGlobals "divmod"=some none)(Il:PySem.W.nsIn K mainGlobals "dict"=some none)(Mm:PySem.W.nsIn K mainGlobals "zip"=some none)(Im:PySem.W.nsIn K mainGlobals "repr"=some none)(tQ:PySem.W.nsIn K mainGlobals "enumerate"=some none)(Mn:PySem.W.nsIn K mainGlobals "sum"=some none)(lG:PySem.W.nsIn K mainGlobals "FEWEST_HOUSES"=some (some (.int 2 lD)))(i9:PySem.W.nsIn K mainGlobals "MOST_HOUSES"=some (some (.int 32 oU)))(lH:PySem.W.nsIn K mainGlobals "MOST_TIES_OUT"=some (some (.int 8 lE)))(rK:PySem.W.nsIn K mainGlobals "MOST_SIDES"=some (some (.int 5 rG)))(lI:PySem.W.nsIn K mainGlobals "SHORTEST_SIDE"=some (some (.int 2 lF)))(oo:PySem.W.nsIn K mainGlobals "LONGEST_SIDE"=some (some (.int 8 on)))(yR:ny K iL)(yS:ny K dS)(Em:ny K rF)(RB:PySem.W.plainGet K bu Str.empty=true)(RC:PySem.W.hasDictIn K bu=true)(RD:PySem.W.plainOver K bu=true)(RE:PySem.W.findIn K (.ref bu) "__setattr__"=some (some (.builtin "object.__setattr__")))(RF:PySem.W.makesIn K bu=true)(RG:PySem.W.keepIn K (.ref bu)=true)(RH:PySem.W.findIn K (.ref bu) "tied_net"=some none)(RI:PySem.W.findIn K (.ref bu) "side_row"=some none)(Io:MD K bu "__init__" "Box.__init__" DP)(RJ:MD K bu "place" "Box.place" G5)(RK:MD K bu "house" "Box.house" G6)(RL:MD K bu "way" "Box.way" G7)(RM:MD K bu "phase" "Box.phase" G8)(RN:MD K bu "sides" "Box.sides" QH)(RO:MD K bu "net" "Box.net" Hv)(Ip:PySem.W.codeHdIn K cO Pt=true):
  ∃fd:FuncData,(∀ (s:Shared) (v:Value),BindsTo s fd ⟨[v],[]⟩ [("_law_script",v)])/\∀base:Heap,K.In base->base.Ns mainGlobals mg->qN mg base->a9 l.prog w K mg base aX 13 fa fd ["_law_script"] (xx K Pt):=by
 obtain⟨UD,oc,od,an,sl,kV,dc,pm,cd,ct,Mo,Mp,Mq,Mr⟩:=L_;have e:=XG.symm.trans (eO X G Mo);cases e;have Ms:=nq (x:="law") (qual:="law") (st:=vZ) Mp Mq Mr;obtain⟨UE,Yw,Yx,Yy,Yz,YA,YB,YC,YD,YE,XH,XI,XJ,XM,XN⟩:=Ih;have tR:=nq (x:="__init__") (qual:="Net.__init__") (st:=w4) XJ XM XN;have BS:=tR.binds (ps:=["self","many","ties"]) fun _ _ _ _ _ _=>fw fun _ _ _=>rfl;have MK:Mk K C UE:=⟨mk,XH,XI,kc⟩
 have B:Bl mg:=⟨cX X G rH,cX X G Mc,cX X G Ij,cX X G Ek,cX X G Ik,cX X G Md,cX X G Me,cX X G Mf,cX X G El,cX X G BQ,cX X G Mg,cX X G Mh,cX X G Mi,cX X G rJ,cX X G Mj⟩
 have T:NT K mg C:=⟨⟨pg,RA,po,sa⟩,nH,nT,nO,nD,eO X G aC⟩
 have B2:Qo mg:=⟨cX X G Ml,cX X G BR,cX X G Il,cX X G Mm,cX X G Im⟩
 have TB:A9 K mg bu:=⟨⟨RB,RC,RD,RE⟩,RH,RI,eO X G L4⟩
 obtain⟨Mt,YF,YG,YH,YI,YJ,YK,YL,YM,YN,RP,RQ,RS,RT,RU⟩:=Io;have Mu:=nq (x:="__init__") (qual:="Box.__init__") (st:=DP) RS RT RU;have RV:=Mu.binds (ps:=["self","sides"]) fun _ _ _ _ _ _=>dF fun _ _=>rfl;have MB:Mk K bu Mt:=⟨RF,RP,RQ,RG⟩
 refine⟨PySem.W.fnOf "law" "law" (b9 vZ) (bp vZ) (ak vZ) .none kV dc pm an cd ct,fun s v=>.of_eq rfl,fun base kb nb hb=>?_⟩;have En:cg l.prog w K mg base aX 1 "is_whole" ["thing"] (qY K):=FD.fv X G Ef (fun _ _ _ _ _ _=>gN fun _=>rfl) fun Eo=>AA Eo B;have oq:cg l.prog w K mg base aX 2 "is_whole_within" ["thing","least","most"] (iq K):=FD.fv X G BK (fun _ _ _ _ _ _=>fw fun _ _ _=>rfl) fun BU=>yu BU En;have lX:cg l.prog w K mg base aX 3 "is_house" ["many","thing"] (iG K):=FD.fv X G Eg (fun _ _ _ _ _ _=>dF fun _ _=>rfl) fun Ep=>AC Ep oq;have BV:cg l.prog w K mg base aX 1 "is_row" ["thing","length"] (sS K):=FD.fv X G L5 (fun _ _ _ _ _ _=>dF fun _ _=>rfl) fun Mv=>Gk Mv B;have Mw:cg l.prog w K mg base aX 4 "are_unlike_houses" ["many","one","other"] AI:=FD.fv X G L6 (fun _ _ _ _ _ _=>fw fun _ _ _=>rfl) fun Mx=>Gu Mx lX;have My:cg l.prog w K mg base aX 5 "is_tie" ["many","thing"] AJ:=FD.fv X G L7 (fun _ _ _ _ _ _=>dF fun _ _=>rfl) fun Mz=>Gv Mz BV Mw;have Es:cg l.prog w K mg base aX 6 "check_ties" ["many","ties"] iH:=FD.fv X G Eh (fun _ _ _ _ _ _=>dF fun _ _=>rfl) fun Et=>AK Et B ⟨_,eO X G lG⟩ ⟨_,eO X G i9⟩ oq My;have ME:cg l.prog w K mg base aX 1 "check_balance" ["many","ties"] iH:=FD.fv X G L8 (fun _ _ _ _ _ _=>dF fun _ _=>rfl) fun MG=>Gw MG B ⟨_,eO X G lH⟩;have Iq:cg l.prog w K mg base aX 1 "houses_out" ["many","ties","house"] (q9 Pt):=FC.fv X G Ib (fun _ _ _ _ _ _=>fw fun _ _ _=>rfl) fun Ir=>Dt Ir B kb hb Ip;have Iu:cg l.prog w K mg base aX 1 "distances_from" ["out_lists","start"] q_:=FD.fv X G Ic (fun _ _ _ _ _ _=>dF fun _ _=>rfl) fun Iv=>Du Iv B;have Eu:cg l.prog w K mg base aX 1 "check_reached" ["distances"] rd:=FD.fv X G Ei (fun _ _ _ _ _ _=>gN fun _=>rfl) fun Ev=>AO Ev B;have Iw:a9 l.prog w K mg base aX 7 UE _ ["self","many","ties"] (vK C Pt):=Dy tR T B Es ME Iq Iu Eu;have rL:dG l.prog w K mg base (eZ l.prog w) 4 C "check_house" ["self","thing"] (jW K C dS):=MD.fv Ej (fun _ _ _ _ _ _=>dF fun _ _=>rfl) fun yT=>AG yT T ⟨eO X G yQ,yS⟩ lX;have Ft:dG l.prog w K mg base (eZ l.prog w) 5 C "out" ["self","house"] (w6 K C dS Do):=MD.fv Ma (fun _ _ _ _ _ _=>dF fun _ _=>rfl) fun Ew=>Go Ew T B rL;have MJ:dG l.prog w K mg base (eZ l.prog w) 5 C "far" ["self","one","other"] (AH K C dS):=MD.fv Mb (fun _ _ _ _ _ _=>fw fun _ _ _=>rfl) fun Ey=>Gp Ey T rL;have Ix:dG l.prog w K mg base aX 1 C "many" ["self"] (vM C):=MD.fv Ii (fun _ _ _ _ _ _=>gN fun _=>rfl) fun BW=>DD BW T;have v3:cg l.prog w K mg base aX 1 "product" ["numbers"] (nU K):=FD.fv X G Ie (fun _ _ _ _ _ _=>gN fun _=>rfl) fun Iy=>DG Iy;have BY:cg l.prog w K mg base aX 9 "pairs_net" ["many","pairs"] (nR C Pt):=FD.fv X G BL (fun _ _ _ _ _ _=>dF fun _ _=>rfl) fun BZ=>yz BZ B T MK BS Iw BV;have B0:cg l.prog w K mg base (eZ l.prog w) 3 "check_sides" ["sides"] (nW K iL):=FD.fv X G BM (fun _ _ _ _ _ _=>gN fun _=>rfl) fun B1=>yA B1 B ⟨eO X G yP,yR⟩ ⟨_,eO X G rK⟩ ⟨_,eO X G lI⟩ ⟨_,eO X G oo⟩ ⟨_,eO X G i9⟩ oq v3;have B3:cg l.prog w K mg base aX 2 "box_pairs" ["sides"] nX:=FD.fv X G BO (fun _ _ _ _ _ _=>gN fun _=>rfl) fun B4=>yB B4 B v3;have B5:cg l.prog w K mg base (eZ l.prog w) 10 "box_net" ["sides"] (rk K C Pt iL):=FD.fv X G Ig (fun _ _ _ _ _ _=>gN fun _=>rfl) fun Iz=>DH Iz B0 BY v3 B3;have RW:cg l.prog w K mg base aX 6 "are_tied" ["net","one","other"] (Hf K C):=FD.fv X G Rj (fun _ _ _ _ _ _=>fw fun _ _ _=>rfl) fun RX=>Ld RX T lX Ix Ft;have RY:a9 l.prog w K mg base aX 11 Mt _ ["self","sides"] (A_ C bu Pt):=G_ Mu B TB B5;have B6:dG l.prog w K mg base (eZ l.prog w) 5 bu "place" ["self","house"] (tG K C bu dS):=MD.fv RJ (fun _ _ _ _ _ _=>dF fun _ _=>rfl) fun F=>Ha F B T TB rL;have Fu:dG l.prog w K mg base aX 1 bu "sides" ["self"] (DZ C bu):=MD.fv RN (fun _ _ _ _ _ _=>gN fun _=>rfl) fun F=>Lw F TB;have Fv:dG l.prog w K mg base aX 11 bu "net" ["self"] (xv C bu Pt):=MD.fv RO (fun _ _ _ _ _ _=>gN fun _=>rfl) fun F=>Hz F TB B5;have ML:dG l.prog w K mg base aX 4 bu "house" ["self","place"] (Bd C bu):=MD.fv RK (fun _ _ _ _ _ _=>dF fun _ _=>rfl) fun F=>Hb F B B2.zip TB BV lX;have MQ:dG l.prog w K mg base (eZ l.prog w) 6 bu "phase" ["self","house","home"] (Bh K C bu dS):=MD.fv RM (fun _ _ _ _ _ _=>fw fun _ _ _=>rfl) fun F=>Hg F B TB B6;have MT:dG l.prog w K mg base (eZ l.prog w) 7 bu "way" ["self","one","other"] (tI K C bu rF):=MD.fv RL (fun _ _ _ _ _ _=>fw fun _ _ _=>rfl) fun F=>Hh F TB ⟨eO X G Ee,Em⟩ RW MQ;have MU:cg l.prog w K mg base aX 1 "_law_pot" ["_law_script","_law_k"] (Bo K):=FD.fv X G L9 (fun _ _ _ _ _ _=>dF fun _ _=>rfl) fun MV=>Hj MV B B2;have Ez:cg l.prog w K mg base aX 1 "_law_take" ["_law_pot_here","_law_many_here"] vW:=FD.fv X G Rk (fun _ _ _ _ _ _=>dF fun _ _=>rfl) fun RZ=>Lk RZ B2;have R0:cg l.prog w K mg base aX 2 "_law_ways" ["_law_pot_here","_law_sides_here"] Hu:=FD.fv X G Rm (fun _ _ _ _ _ _=>dF fun _ _=>rfl) fun R1=>Lv R1 B Ez;have IA:cg l.prog w K mg base aX 1 "_law_place" ["_law_sides_here","_law_house_here"] Bt:=FD.fv X G Rn (fun _ _ _ _ _ _=>dF fun _ _=>rfl) fun R3=>Lm R3;have R4:cg l.prog w K mg base aX 1 "_law_house" ["_law_sides_here","_law_place_here"] Hm:=FD.fv X G Ro (fun _ _ _ _ _ _=>dF fun _ _=>rfl) fun R5=>Ln R5 B;have R6:cg l.prog w K mg base aX 1 "_law_many" ["_law_sides_here"] Hl:=FD.fv X G Rp (fun _ _ _ _ _ _=>gN fun _=>rfl) fun R7=>Ll R7;have MW:cg l.prog w K mg base aX 2 "_law_mirrored" ["_law_sides_here","_law_ways_here","_law_house_here"] Bv:=FD.fv X G Rq (fun _ _ _ _ _ _=>fw fun _ _ _=>rfl) fun R8=>Lo R8 IA R4;have R9:cg l.prog w K mg base aX 3 "_law_row" ["_law_sides_here","_law_ways_here","_law_row_here"] Ht:=FD.fv X G Rr (fun _ _ _ _ _ _=>fw fun _ _ _=>rfl) fun R_=>Ls R_ B MW;have Sa:cg l.prog w K mg base aX 2 "_law_far" ["_law_sides_here","_law_one","_law_other"] Hs:=FD.fv X G Rt (fun _ _ _ _ _ _=>fw fun _ _ _=>rfl) fun Sb=>Lr Sb (cX X G Mn) B2.zip B2.abs IA;have IC:cg l.prog w K mg base aX 6 "mirrored" ["box","ways","house"] (vX C bu):=FD.fv X G Ru (fun _ _ _ _ _ _=>fw fun _ _ _=>rfl) fun Sc=>Ly Sc B (cX X G tQ) B2.zip TB Fu B6 ML;have MX:cg l.prog w K mg base aX 7 "mirrored_row" ["box","ways","row"] (D6 C bu):=FD.fv X G Rv (fun _ _ _ _ _ _=>fw fun _ _ _=>rfl) fun Se=>LA Se B IC;have Sf:cg l.prog w K mg base aX 2 "_law_sides" ["_law_pot_here"] HP:=FD.fv X G Rl (fun _ _ _ _ _ _=>gN fun _=>rfl) fun Sg=>LN Sg B Ez;have Sh:cg l.prog w K mg base aX 12 "_law_house_right" ["_law_box","_law_sides_here","_law_ways_here","_law_house_here"] (D9 C bu Pt):=FD.fv X G Rx (fun _ _ _ _ _ _=>Fs fun _ _ _ _=>rfl) fun Si=>LB Si B T TB IC MW IA B6 Fv Ft MT;have Sj:cg l.prog w K mg base aX 2 "_law_perhaps" ["_law_pot_here","_law_many_here"] DX:=FD.fv X G Ry (fun _ _ _ _ _ _=>dF fun _ _=>rfl) fun Sk=>Lu Sk Ez;have Sl:cg l.prog w K mg base aX 8 "_law_row_right" ["_law_box","_law_sides_here","_law_ways_here","_law_row_here"] (HN C bu):=FD.fv X G Rz (fun _ _ _ _ _ _=>Fs fun _ _ _ _=>rfl) fun Sm=>LL Sm B MX R9;exact HU Ms B T TB B.all MB RV RY MU Sf R0 R6 Sh Sj Ez Sl MX Sa IC Fu Fv MJ
theorem MZ(h:((List.range 2000).any fun c=>PySem.W.codeHdIn K c P)=true):∃c,PySem.W.codeHdIn K c P=true:=
 let ⟨c,_,e⟩:=uL.mp h;⟨c,e⟩
theorem ID(hO:wK ts H)(h:bo K H a xs):xw K H a xs:=by
 rcases h with h|h
 .rcases h with h|⟨o,h⟩
  .rcases hO.2 a with z|⟨_,z⟩|⟨o,ys,z⟩ <;> · rw[h] at z;cases z
  .exact .inl ⟨o,h⟩
 .exact .inr fun H'=>.inr h
theorem walk{l:PySem.W.OpenLaw}{q:Program}{pj:List Str}{XP:(Str->Option Value)->Heap->Prop}{YP:World->Heap->Prop}{d:DefRec}{K:Params->PySem.W.Frag}{Pt:Addr}(hn:l.most=some 63)(JT:d.params.defaults=[])(hY:∀ (w:World) (h:Heap),YP w h->(K w.params).In h)(hT:∀ (w:World) (h:Heap),YP w h->∀P∈[Pt],h.get? P=some (PySem.W.tabObj #[]))(Sn:∀ (w:World),((List.range 2000).any fun c=>PySem.W.codeHdIn (K w.params) c Pt)=true)(So:∀ (w:World),(K w.params).lookup Pt=none)(F:∀ (w:World) (mg:Str->Option Value) (fa:Addr) (h:Heap),(K w.params).In h->h.Ns mainGlobals mg->mg d.name=some (.ref fa)->
   ∃fd:FuncData,(∀ (s:Shared) (u:Value),BindsTo s fd ⟨[u],[]⟩ [("_law_script",u)])/\∀base:Heap,(K w.params).In base->base.Ns mainGlobals mg->qN mg base->a9 l.prog w (K w.params) mg base aX 13 fa fd ["_law_script"] (xx (K w.params) Pt)):
  PySem.W.WalkO q pj XP YP l.row.toRowW d [] (fun f vs=>PySem.call f vs):=
 Al (n:=63) (k:=13) (x:="_law_script") (ts:=[Pt]) (K:=K) (CX:=fun _=>aX) (sp:=fun w=>(xx (K w.params) Pt)) hn (by decide) JT ⟨rfl,by decide,by decide,rfl⟩ hY hT
  (fun w P=>fun e=>by rw[dH.mp e];exact MZ (Sn w)) (fun w P=>fun e=>by rw[dH.mp e];exact So w) F
  (fun w H a ns hl hO hS=>⟨a,ns,rfl,ID hO hS,hl,.inl (hO.1 _ (by simp)),fun _=>rfl⟩) fun _ _ _ _ _ z=>z
end nM
open PySem PySem.W PyProof.Rows
namespace PySem.W.Fast
def tw4674295142534388287:=trivial
def tw2869270882022197235:=trivial
def tw10502938205927107993:=trivial
def tw17454253050934493298:=trivial
def tw17726701071052621844:=trivial
def tw629313394483604103:=trivial
def tw1688837948942733159:=trivial
def tw358451897911986097:=trivial
def tw16178576319021985998:=trivial
def tw3740443795098744719:=trivial
def tw5029892615226652533:=trivial
def tw16540959640485169171:=trivial
def tw4196016992315772941:=trivial
def tw3631338483716248162:=trivial
def tw10645126730021679342:=trivial
def tw6869697857036792915:=trivial
def tw8375906384332136545:=trivial
def tw3687434719449172517:=trivial
def tw13404838814079467912:=trivial
def tw1793826378965816979:=trivial
def tw11050839095173295577:=trivial
def tw10431879757845780611:=trivial
def tw5422677853509560400:=trivial
def tw17480234982237039824:=trivial
def tw16182179393863012882:=trivial
def tw8531847696348785069:=trivial
def tw16304789847737868067:=trivial
def tw7811623427946604973:=trivial
def tw10548604525642949284:=trivial
def tw11744475186601339243:=trivial
def tw14976222861424046181:=trivial
def tw2717335003096839058:=trivial
def tw7838633905521044033:=trivial
def tw6832932317923719796:=trivial
def tw247582092488849273:=trivial
def tw11959552600384546756:=trivial
def tw3780919604042056355:=trivial
def tw6857301296427230623:=trivial
def tw12298886562250376827:=trivial
def tw7039695376435625519:=trivial
def tw13937671045126748604:=trivial
def tw17872922313262333750:=trivial
def tw3852022843958415316:=trivial
def tw12621088841828604750:=trivial
def tw16520206815734827034:=trivial
def tw11491094138056677180:=trivial
def tw3685063441732405954:=trivial
def tw17876861913892998884:=trivial
def tw3958576180639020162:=trivial
def tw14522691871711359161:=trivial
def tw11385766505745372424:=trivial
def tw10340961025626283703:=trivial
def tw8144266857193811255:=trivial
def tw7632543272581337124:=trivial
def tw16336080094171965578:=trivial
def tw15656894021996060119:=trivial
def tw14413643991744968832:=trivial
def tw9281196150395351157:=trivial
def tw8652934152190794634:=trivial
def tw5449232976785350500:=trivial
def tw3622087933576720620:=trivial
def tw5678574600767466575:=trivial
def tw17675459875793139851:=trivial
def tw12885478725664598874:=trivial
def tw18138418639722426184:=trivial
def tw5299584537762205330:=trivial
def tw8293395269120564228:=trivial
def tw11226287476409868647:=trivial
def tw15496850048749977195:=trivial
def tw14347657535634236312:=trivial
def tw8618175046832510893:=trivial
def tw9693861388547839450:=trivial
def tw14299819940232849866:=trivial
def tw5584635495748111961:=trivial
def tw9641077141667126088:=trivial
def tw3752764681125995310:=trivial
def tw2114195583863947320:=trivial
def tw18203585507386483653:=trivial
def tw839912542502671407:=trivial
def tw9550203406164714105:=trivial
def tw13646134313072941313:=trivial
def tw9250569572733417355:=trivial
def tw18093285122350004155:=trivial
def tw6658518374401983610:=trivial
def tw8633835662886974035:=trivial
def tw8105554106970655691:=trivial
def tw17414309088289136283:=trivial
def tw12517202273688760672:=trivial
def tw348140565628411391:=trivial
def tw12571678568442153659:=trivial
def tw4240605057952499916:=trivial
def tw16656726450569336622:=trivial
def tw9197460903389214871:=trivial
def tw11789712806960136071:=trivial
def tw17323656546472529945:=trivial
def tw15713194862238625787:=trivial
def tw5857096767730950453:=trivial
def tw4491155683822024559:=trivial
def tw17214435806680308336:=trivial
def tw17143640508530017777:=trivial
def tw1523909491358342656:=trivial
def tw10729842600349927705:=trivial
def tw16907202114803621212:=trivial
def tw9903469145029998338:=trivial
def tw18082996337586517049:=trivial
def tw12183444258309397593:=trivial
def tw7520700496596397790:=trivial
def tw2988362234376740646:=trivial
def tw222371616254554837:=trivial
def tw4567108002008805183:=trivial
def tw11215774221262481554:=trivial
def tw11707960514282201724:=trivial
def tw3906292002365634162:=trivial
def tw15873996365579587749:=trivial
def tw9661811812838092062:=trivial
def tw14674759523151169583:=trivial
def tw4942362451166285466:=trivial
def tw11854895265087703197:=trivial
def tw11135546449911973024:=trivial
def tw14472909464913780546:=trivial
def tw16679806902710663221:=trivial
def tw18240550862101993865:=trivial
def tw15966528599154179400:=trivial
def tw5214716100895761837:=trivial
def tw16643737719361202831:=trivial
def tw7042316654672095421:=trivial
def tw17684891387761104825:=trivial
def tw6918163381870397222:=trivial
def tw13663609463344609027:=trivial
def tw16688360683825534597:=trivial
def tw8612766868542122973:=trivial
def tw3886747693271220228:=trivial
def tw12212111127540482229:=trivial
def tw10620833444208576335:=trivial
def tw13139548775545293109:=trivial
def tw17508763805605496014:=trivial
def tw10189531062095545186:=trivial
def tw6997334658219619128:=trivial
def tw3526887982267309268:=trivial
def tw15917739245982717524:=trivial
def tw1133918221153498712:=trivial
def tw9549248575311046307:=trivial
def tw9799745573060955959:=trivial
def tw16538107414638776780:=trivial
def tw17269363044024092204:=trivial
def tw15390789283528640231:=trivial
def tw16558645112437614600:=trivial
def tw6461491033932510623:=trivial
def tw3937224879645558938:=trivial
def tw4784176054081976570:=trivial
def tw15443587860045326776:=trivial
def tw18439009697034220698:=trivial
def tw18155102606675631619:=trivial
def tw14329534392781660315:=trivial
def tw10974289039165293687:=trivial
def tw12157802048921677238:=trivial
def tw6462719030673032640:=trivial
def tw6195751999032868091:=trivial
def tw6583777164930646150:=trivial
def tw9804543677256378126:=trivial
def tw13033240480200076594:=trivial
def tw4001135972792757180:=trivial
def tw989038479132604587:=trivial
def tw16517704151384931351:=trivial
def tw369168686108666082:=trivial
def tw3655749916782409358:=trivial
def tw13131975262432566905:=trivial
def tw18352444023374687417:=trivial
def tw11387934306398272000:=trivial
def tw17168334848684462915:=trivial
def tw3676381922701950443:=trivial
def tw13048992214269713765:=trivial
def tw12447523688822582505:=trivial
def tw6259735094580944152:=trivial
def tw5070269094128901789:=trivial
def tw15409198978631033961:=trivial
def tw10493229902900765010:=trivial
def tw13893341337192290511:=trivial
def tw12527960110562351097:=trivial
def tw8582641659364477367:=trivial
def tw1107672592790191896:=trivial
def tw15295510382936175059:=trivial
def tw4778288395368275099:=trivial
def tw5035696803993456159:=trivial
def tw18256925562660485816:=trivial
def tw7784810696378283834:=trivial
def tw17060051595763891130:=trivial
def tw7224769835638928384:=trivial
def tw2038552248030680603:=trivial
def tw12360167982855143537:=trivial
def tw1187625570103596160:=trivial
def tw12624606207638107238:=trivial
def tw15675298399735837439:=trivial
def tw13255626558953626646:=trivial
def tw5978529389323756239:=trivial
def tw12221789704902881617:=trivial
def tw11442908925185065748:=trivial
def tw11802428638712549659:=trivial
def tw18401113079628193598:=trivial
def tw12032472968069906161:=trivial
def tw10607459819150611361:=trivial
def tw12134529105382749363:=trivial
def tw13809875095385555485:=trivial
def tw17663402413590953614:=trivial
def tw1349291266455578279:=trivial
def tw946126510848954000:=trivial
def tw16507054837273964309:=trivial
def tw15303902273924345699:=trivial
def tw1264281728321550017:=trivial
def tw3134752484544782952:=trivial
def tw13694784741687399691:=trivial
def tw14611282259073166897:=trivial
def tw15023328725862155439:=trivial
def tw13675398349994341951:=trivial
def tw5260338411376624538:=trivial
def tw8556520771933137428:=trivial
def tw10573391382521257022:=trivial
def tw11341830894065554491:=trivial
def tw12005526534400011496:=trivial
def tw1597406953020621556:=trivial
def tw10546961846926593012:=trivial
def tw4409526395475987880:=trivial
def tw693571295600818599:=trivial
def tw8844807945118371559:=trivial
def tw7054126531483497815:=trivial
def tw15674018482691077652:=trivial
def tw9487351633644116831:=trivial
def tw16331500097797338810:=trivial
def tw3771961240865265802:=trivial
def tw15878067582909150111:=trivial
def tw3367776697085382683:=trivial
def tw13566873018293624143:=trivial
def tw6780852466983625031:=trivial
def tw11390396474996435271:=trivial
def tw15214555153545469378:=trivial
def tw14569940212015759418:=trivial
def tw10761240903370093213:=trivial
def tw14047820110882569901:=trivial
def tw17175340938235918703:=trivial
def tw3809604109768726171:=trivial
def tw625037065897769354:=trivial
def tw8439410417963146604:=trivial
def tw14130626765593985551:=trivial
def tw10846381964508308690:=trivial
def tw6079128826637909616:=trivial
def tw11001561592312563262:=trivial
def tw5577442359664124041:=trivial
def tw9573072920873408324:=trivial
def tw13795047092095251489:=trivial
def tw11286894918759309811:=trivial
def tw13871815618214534411:=trivial
def tw16874121389083408506:=trivial
def tw309587739946988117:=trivial
def tw7445294943949855676:=trivial
def tw10188783751807215049:=trivial
def tw11685404561388927314:=trivial
def tw17116421936662879708:=trivial
def tw2350285920478097200:=trivial
def tw11360350057844157975:=trivial
def tw8900869434523998523:=trivial
def tw12452334799723869259:=trivial
def tw8596475742908342842:=trivial
def tw10361658351480135220:=trivial
def tw17059913629518776493:=trivial
def tw17240356583402049411:=trivial
def tw7147959397967063594:=trivial
def tw10476026015682098510:=trivial
def tw5323282400209122715:=trivial
def tw7298139546722295019:=trivial
def tw7013846624508749602:=trivial
def tw12216236423828712138:=trivial
def tw8760604289112849075:=trivial
def tw128297346451695627:=trivial
def tw12941684029934952788:=trivial
def tw7512717491709411243:=trivial
def tw18297307189884287911:=trivial
def tw616854385473119318:=trivial
def tw14147064230128719153:=trivial
def tw1086523586595920397:=trivial
def tw2927660768634485483:=trivial
def tw2945542743829753941:=trivial
def tw4925477577312724:=trivial
def tw18174849564052604077:=trivial
def tw3222071634741059846:=trivial
def tw15390855528564728084:=trivial
def tw9060788801870820826:=trivial
def tw16527144530151731860:=trivial
def tw8054210258892371796:=trivial
def tw704051109394452013:=trivial
def tw17540678840070360627:=trivial
def tw15341877886742022842:=trivial
def tw775588405023327871:=trivial
def tw17534985570340187647:=trivial
def tw14552738791973267667:=trivial
def tw12228282809769865837:=trivial
def tw4871740991418694072:=trivial
def tw7904208018386922720:=trivial
def tw5993376444958999594:=trivial
def tw793345160005491245:=trivial
def tw4404436554566975359:=trivial
def tw6757755833964749612:=trivial
def tw10838448211660498327:=trivial
def tw718166359268586280:=trivial
def tw10849061666917004986:=trivial
def tw10712136067758754572:=trivial
def tw4714192059071508617:=trivial
def tw16282756026735643437:=trivial
def tw9382032788470259570:=trivial
def tw7507786978007200554:=trivial
def tw15998364210120468244:=trivial
def tw9848026102933041026:=trivial
def tw15436863496910903785:=trivial
def tw10571937539798898482:=trivial
def tw13104199331286026144:=trivial
def tw8164215426980513170:=trivial
def tw14911189724165287548:=trivial
def tw15070157544517351026:=trivial
def tw18436856964381775422:=trivial
def tw12865446041344824872:=trivial
def tw13506354447840279746:=trivial
def tw6277740437094805028:=trivial
def tw17694601702554667513:=trivial
def tw8606008261196066479:=trivial
def tw1128046328532677838:=trivial
def tw15322808036675897942:=trivial
def tw17612124946394717545:=trivial
def tw8929036991422388442:=trivial
def tw13789409067656295246:=trivial
def tw2721474558132040310:=trivial
def tw4136039637438408451:=trivial
def tw5584547976469130724:=trivial
def tw8554604901399936179:=trivial
def tw15485349676671047914:=trivial
def tw7031890014734139578:=trivial
def tw11929796242822729860:=trivial
def tw17537126348468766554:=trivial
def tw10135688054731970005:=trivial
def tw1390104250976098375:=trivial
def tw5054156428404041693:=trivial
def tw11265401831877340670:=trivial
def tw14926883985833667641:=trivial
def tw1610194215846047112:=trivial
def tw771789132596071676:=trivial
def tw8679736326422600735:=trivial
def tw15030042493123648445:=trivial
def tw18362718979734382025:=trivial
def tw8167223462947997249:=trivial
def tw9067405027371699927:=trivial
def tw13176564080322450581:=trivial
def tw11594786725489050884:=trivial
def tw14438392272770192750:=trivial
def tw8193484978624591436:=trivial
def tw17435129150219735631:=trivial
def tw4039341155907104363:=trivial
def tw4733757001900612462:=trivial
def tw14240603542892851177:=trivial
def tw6313236216767738825:=trivial
def tw11280570161637361165:=trivial
def tw9150068504356438285:=trivial
def tw10744796756524575828:=trivial
def tw14300957907859761860:=trivial
def tw1501669377465231182:=trivial
def tw12811391713188818397:=trivial
def tw17464484807017120768:=trivial
def tw11793153941347353104:=trivial
def tw825914469876723514:=trivial
def tw10357774217011950351:=trivial
def tw6212944979642066236:=trivial
def tw8855980649702937934:=trivial
def tw6463375199575702213:=trivial
def tw8804109387916732322:=trivial
def tw11381994155208104929:=trivial
def tw12474679860976282525:=trivial
def tw9456314444661429075:=trivial
def tw10865967184651989777:=trivial
def tw13081680901698580539:=trivial
def tw3943043707680894840:=trivial
def tw4677207045122683098:=trivial
def tw15025451713834711619:=trivial
def tw16325097241919521929:=trivial
def tw9162534998081846027:=trivial
def tw15566644669597063514:=trivial
def tw11139387473787921264:=trivial
def tw4098695537657775989:=trivial
def tw12256003417206147201:=trivial
def tw16820564027852468131:=trivial
def tw2924569669019126070:=trivial
def tw10887963797606036188:=trivial
def tw4665745041276740730:=trivial
def tw12031865484111871378:=trivial
def tw15286170420716449059:=trivial
def tw16576158066484778890:=trivial
def tw3707072729756205734:=trivial
def tw1466774058832540931:=trivial
def tw2960361779301505614:=trivial
def tw17776695409831360570:=trivial
def tw10811580426905504916:=trivial
def tw7553568668322552923:=trivial
def tw17126652022378144552:=trivial
def tw12322524341514974648:=trivial
def tw17960000984743091223:=trivial
def tw2001613907966724125:=trivial
def tw15498326719844554593:=trivial
def tw1078134614083151975:=trivial
def tw6686388219460032446:=trivial
def tw13753257636369220335:=trivial
def tw735209656154382770:=trivial
def tw4383185945833947759:=trivial
def tw14914955895411060454:=trivial
def tw18384283007959479906:=trivial
def tw4465399316560419801:=trivial
def tw9739379075140288030:=trivial
def tw12924789243966912532:=trivial
def tw2501237059250050172:=trivial
def tw2349337823878446044:=trivial
def tw8598399203685333503:=trivial
def tw6281414283776255357:=trivial
def tw3806149848211790749:=trivial
def tw13537086581576536726:=trivial
def tw8906683626898754777:=trivial
end PySem.W.Fast
set_option maxRecDepth 100000 in
set_option maxHeartbeats 0 in
theorem PySem.Challenge.cw_neverwait_k91_mirrored_houses_holds : PySem.Challenge.rw_neverwait_k91_mirrored_houses.Holds := by
 w_on; o_law; k_head; (case hw=>w_witness2)
 k_fill
 refine nM.walk (l:=PySem.Challenge.rw_neverwait_k91_mirrored_houses) (Pt:=_) rfl rfl (fun w h Y=>PySem.W.km_in_of Y) (fun w h Y=>PySem.W.km_tabs_of Y) ?XO ?XQ ?F;case F =>
  intro w mg fa h KX G JU;refine' nM.H_ (Pt:=_) KX G JU ?_ ?_ ?_ ?_ ?_ ?_ ?_ ?_ ?_ ?_ ?_ ?_ ?_ ?_ ?_ ?_ ?_ ?_ ?_ ?_ ?_ ?_ ?_ ?_ ?_ ?_ ?_ ?_ ?_ ?_ ?_ ?_ ?_ ?_ ?_ ?_ ?_ ?_ ?_ ?_ ?_ ?_ ?_ ?_ ?_ ?_ ?_ ?_ ?_ ?_ ?_ ?_ ?_ ?_ ?_ ?_ ?_ ?_ ?_ ?_ ?_ ?_ ?_ ?_ ?_ ?_ ?_ ?_ ?_ ?_ ?_ ?_ ?_ ?_ ?_ ?_ ?_ ?_ ?_ ?_ ?_ ?_ ?_ ?_ ?_ ?_ ?_ ?_ ?_ ?_ ?_ ?_ ?_ ?_ ?_ ?_ ?_ ?_ ?_ ?_;all_goals first
   | (refine' nM.FD.mk ?a ?l ?d ?k; (case a=>k_is); (case l=>k_is); (case d=>k_is); (case k=>k_is))
   | (refine' nM.FC.mk ?a ?l ?d ?k; (case a=>k_is); (case l=>k_is); (case d=>k_is); (case k=>k_is))
   | (refine' nM.MD.mk ?a ?i ?l ?d ?k; (case a=>k_is); (case i=>k_is); (case l=>k_is); (case d=>k_is); (case k=>k_is))
   | (refine' nM.MC.mk ?a ?i ?l ?d ?k; (case a=>k_is); (case i=>k_is); (case l=>k_is); (case d=>k_is); (case k=>k_is))
   | k_is
   | kernel_rfl
   | decide
   | exact ⟨by kernel_rfl,by k_is,by k_is,by k_is,by k_is,by k_is,by k_is,by kernel_rfl⟩
   | skip
 case XQ=>intro w; kernel_rfl
 case XO=>intro w; kernel_rfl
