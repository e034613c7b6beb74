import PyProof.Rows.All
import Wide.All
import OpenK.AllK
import Wide.FinOn
import Lean
import PyProof.EqAt
import PyProof.EqKinds
import PyProof.TupleCall
import PySem.Challenge.RW_neverwait_k42_ways_phases_wishes
set_option Elab.async false
set_option linter.all false
set_option maxRecDepth 100000
set_option maxHeartbeats 8000000
def ao:=@PySem.wpAny_bind
def bf:=@PySem.Heap.get?_push_of_some
def bD:=@List.mem_cons_of_mem
def aD:=@PyProof.Rows.wpS_bind
def b9:=@List.mem_cons_self
def cV:=@List.getElem?_eq_getElem
def dL:=@List.getD_eq_getElem?_getD
def bA:=@Option.some.inj
def bJ:=@List.length_map
def a9:=@PySem.Heap.lt_size
def ak:=@if_pos
def al:=@if_neg
def bp:=@Nat.lt_of_lt_of_le
def cC:=@List.getElem?_eq_some_iff
def aK:=@Nat.le_refl
def cW:=@PyProof.Rows.boot_isinstance
def bE:=@Bool.false_ne_true
def aT:=@Nat.ne_of_lt
def b_:=@PySem.Heap.get?_push_size
def bQ:=@List.getElem?_map
def aE:=@PyProof.Rows.wpS_pure
def bj:=@decide_eq_true
def cD:=@List.mem_of_getElem?
def a_:=@List.mem_cons
def ce:=@List.size_toArray
def cm:=@List.append_assoc
def a8:=@List.mem_map
def bb:=@Nat.le_trans
def cQ:=@Array.toList_append
def bR:=@PySem.W.mg_of
def cR:=@PySem.W.mg_none_of
def cI:=@List.length_cons
def cJ:=@List.mem_append
def dg:=@Nat.lt_succ_of_lt
def cn:=@getElem?_pos
def cS:=@decide_eq_false
def dh:=@PySem.PassesOwn.never
def ee:=@List.lookup_cons
def fh:=@PySem.mem_of_lookup
def eO:=@List.take_add_one
def cE:=@PySem.wpAny_field
def dM:=@List.mem_range
def jB:=@Array.perm_iff_toList_perm
def gJ:=@List.perm_append_comm
def fj:=@of_decide_eq_true
def cK:=@Nat.zero_le
def gm:=@Nat.lt_of_le_of_lt
def gn:=@List.mem_singleton
def iW:=@List.mem_append_right
def eQ:=@List.map_append
def eF:=@PySem.boot_len
def fk:=@List.filter_cons
def eh:=@Int.ofNat.inj
def iX:=@List.mem_append_left
def gK:=@List.length_append
def gp:=@PySem.Heap.get?_push_ne
def di:=@PyProof.Rows.wpS_forRange
def fm:=@PySem.W.kia_one
def fq:=@List.mem_filter
def gs:=@List.take_length
def gu:=@Bool.and_eq_true
def oO:=@PyProof.Rows.slot_tuple_getitem
def gN:=@PySem.wpAny_newObj_type
def gv:=@List.nodup_cons
def eG:=@Int.zero_add
def lq:=@List.Perm.append_left
def mh:=@PySem.F.type_list_append
def mi:=@PySem.F.slot_list_append
def ft:=@Nat.lt_irrefl
def gO:=@Nat.div_add_mod
def jC:=@List.filter_append
def mj:=@PySem.F.plainAttrs_list
def iY:=@List.length_take
def ml:=@PySem.wpAny_callSpecial?_slot
def mm:=@Nat.div_div_eq_div_mul
def oP:=@List.nodup_iff_pairwise_ne
def mn:=@List.getElem?_set_self
def iZ:=@PySem.Heap.size_update
def lr:=@List.map_congr_left
def oQ:=@List.getElem?_append_left
def mq:=@List.length_replicate
def gP:=@PySem.Heap.size_push
def eH:=@beq_iff_eq
def ls:=@PySem.F.called_set
def jD:=@List.not_mem_nil
def jE:=@List.getElem_mem
def jF:=@List.all_eq_true
def gw:=@List.map_map
def oR:=@PyProof.Rows.boot_tuple
def lu:=@List.pairwise_map
def gQ:=@PySem.wpAny_holding
def mr:=@Array.length_toList
def mv:=@List.mem_filterMap
def jG:=@Array.size_map
def rC:=@Array.getElem?_eq_some_iff
def oU:=@List.take_append_drop
def oW:=@List.getElem?_eq_none
def lw:=@PySem.wpAny_call_entry
def oX:=@List.mem_of_mem_take
def oY:=@List.getElem?_set_ne
def cx:=@PyProof.Rows.wpS_mono
def fN:=@List.map_cons
def ka:=@beq_eq_false_iff_ne
def cy:=@Ne.symm
def ke:=@Nat.mul_le_mul_left
def i_:=@PySem.wpAny_truthy_bool
def ja:=@Nat.lt_succ_self
def dS:=@PySem.wpAny_rule
def eW:=@Nat.mul_add
def fQ:=@Nat.ne_of_gt
def mw:=@Nat.lt_of_succ_lt_succ
def fR:=@Nat.le_of_lt
def kg:=@Int.emod_lt_of_pos
def kh:=@Bool.false_eq_true
def gR:=@PySem.wpAny_seqItems
def jb:=@Nat.not_lt_zero
def jc:=@Bool.eq_iff_iff
def mx:=@List.length_filter_le
def my:=@Array.getElem?_toList
def dU:=@PyProof.Rows.wpS_modify
def ki:=@Array.toList_push
def pX:=@Array.getD_eq_getD_getElem?
def kj:=@PySem.wpAny_Call_Name_kw
def mz:=@PySem.Heap.get?_update_other
def jd:=@PySem.wpAny_passesOwn
def pY:=@List.getElem?_append_right
def pZ:=@Int.fdiv_eq_ediv_of_nonneg
def kl:=@Nat.mod_eq_of_lt
def mB:=@PySem.Heap.get?_update_self
def p7:=@Classical.byContradiction
def tw:=@PyProof.Rows.F.plain_set_update_loop
def eX:=@PySem.wpAny_mono
def je:=@Nat.mul_assoc
def km:=@ne_of_beq_false
def kn:=@List.range_succ
def kq:=@List.of_mem_zip
def kr:=@Int.emod_nonneg
def gT:=@PySem.codeAny_mono
def mC:=@PySem.W.callWith_K
def gU:=@Nat.mul_one
def gW:=@List.map_id
def mD:=@PySem.Heap.get?_update_ne
def mE:=@decide_eq_true_eq
def p8:=@PyProof.Rows.boot_list
def p9:=@List.range_succ_eq_map
def mG:=@List.length_range
def p_:=@Array.toList_filterMap
def mI:=@PySem.wpAny_setField_rec
def mJ:=@PySem.Obj.data_mapFields
def gX:=@PySem.sizeLine_eq
def mK:=@PySem.wpAny_loadPart_at
def qa:=@List.mem_of_mem_drop
def qb:=@PySem.W.hideAll_get
def tD:=@PyProof.Rows.callWith_type1
def ku:=@PySem.wpAny_standAt
def fS:=@or_false
def fT:=@if_false
def tE:=@PySem.F.excBase_ValueError
def jf:=@Nat.mod_lt
def tG:=@Int.fmod_eq_emod_of_nonneg
def mL:=@PySem.wpAny_execs_nil
def mQ:=@PySem.codeAny_builtin
def tI:=@List.drop_eq_getElem_cons
def tJ:=@Array.getElem?_eq_getElem
def ky:=@Nat.mul_pos
def kA:=@Nat.div_one
def tK:=@Option.isSome_iff_exists
def mR:=@Nat.add_assoc
def mS:=@PySem.wpAny_setField
def tO:=@Nat.le_mul_of_pos_right
def qc:=@Nat.le_add_right
def tP:=@List.getElem?_replicate
def tQ:=@PySem.Calls.Name_function_global
def qd:=@Array.toList_map
def tR:=@PySem.W.cellsFrom_some
def mT:=@Nat.succ.inj
def tT:=@List.Perm.append_right
def qe:=@PySem.wpAny_setState_of
def qf:=@List.length_set
def qg:=@List.forIn_cons
def qh:=@List.foldl_cons
def qi:=@List.append_nil
def qj:=@List.Perm.of_eq
def tU:=@PySem.wpAny_comprehension_free
def tV:=@PySem.W.methodCall_KW
def eI:=@PyProof.Rows.wpS_get
def jg:=@Prod.ext
def tW:=@Nat.div_lt_of_lt_mul
def tX:=@List.mem_iff_getElem
def qk:=@List.forIn_nil
def tY:=@Array.toList_reverse
def tZ:=@Array.toList_extract
def jh:=@PyProof.Rows.size_push'
def kB:=@PySem.wpAny_call
def kC:=@PySem.wpAny_Name
def t_:=@PySem.W.plainGet_of
def yE:=@PyProof.Rows.F.entry_set_update_loop
def ua:=@List.filter_sublist
def ub:=@List.filterMap_cons
def ql:=@List.any_cons
def qm:=@Bool.not_true
def uc:=@decide_eq_true_iff
def ud:=@PySem.Obj.isFreed_of_fields
def ue:=@PySem.wpAny_loadName_local
def uf:=@PySem.codeAny_call_builtin
def qo:=@Nat.succ_pos
def qp:=@Nat.le_of_eq
def ug:=@List.reverse_perm
def uh:=@List.nodup_append
def ui:=@List.ext_getElem?
def uj:=@List.any_eq_false
def uk:=@Int.toNat_natCast
def ul:=@PySem.Heap.get?_none_of_le
def um:=@Bool.eq_false_iff
def uo:=@PySem.Around.under_plainId
def uq:=@PySem.wpAny_loadName_free
def ur:=@Nat.div_eq_of_lt
def ut:=@List.zipIdx_cons
def uv:=@List.nodup_range
def uw:=@List.mem_flatMap
def ux:=@List.countP_cons
def uy:=@List.any_eq_true
def qq:=@PySem.wpAny_onRaise
def qr:=@PySem.wpAny_attempt
def qt:=@Nat.one_mul
def yF:=@Int.mul_le_mul_of_nonneg_left
def uz:=@PySem.wpAny_pyIter_tuple
def uA:=@Option.map_some
def yG:=@PySem.F.typeOf_object_class
def uB:=@PySem.wpAny_pyIter_list
def uC:=@PySem.Obj.cls_mapFields
def yH:=@Nat.mul_lt_mul_of_pos_left
def uD:=@Nat.mul_le_mul
def uE:=@List.nodup_nil
def uF:=@List.drop_zero
def yI:=@Array.toList_setIfInBounds
def ji:=@PyProof.Rows.wpS_lift
def yJ:=@Nat.add_mul_mod_self_left
def yK:=@List.getElem?_eq_none_iff
def uG:=@PySem.wpAny_eqBool_int
def yL:=@PyProof.Rows.boot_sorted
def yM:=@Nat.lt_succ_iff_lt_or_eq
def yN:=@List.length_erase_of_mem
def yO:=@List.getElem?_take_of_lt
def yP:=@List.filterMap_cons_some
def uH:=@List.all_cons
namespace L2
open PySem PySem.Spec PyProof.Rows
def E8(h:Heap)(e:Addr)(cls:Value)(tb:Value):Prop:=∃o vs,h.get? e=some o/\o.cls=cls/\o.data=.fields vs/\vs[1]?=some tb/\vs[2]?=some .none
def Im(h:Heap)(T:Addr)(fl:Value):Prop:=∃o vs,h.get? T=some o/\o.data=.fields vs/\vs[3]?=some fl
structure oZ(B:Heap)(l:List Env)(e:Addr)(cls fl:Value)(h:Heap):Prop where
 stays:B.StaysIn h
 new:B.get? e=none
 frames:h.FunFrames B l
 rc:∃T,E8 h e cls (.ref T)/\B.get? T=none/\T≠e/\Im h T fl
abbrev rD(B:Heap)(l:List Env)(e:Addr)(cls:Value)(h:Heap):Prop:=oZ B l e cls .none h
theorem oZ.there{B h:Heap}{l:List Env}{e:Addr}{cls fl:Value}(x:oZ B l e cls fl h):∃o vs,h.get? e=some o/\o.cls=cls/\o.data=.fields vs/\vs[2]?=some .none:=by
 obtain⟨_,⟨o,vs,a,b,c,_,d⟩,_⟩:=x.rc;exact⟨o,vs,a,b,c,d⟩
section
variable {M:Model} {A:Around} {E:Value->Shared->Prop} {s:Shared} {B:Heap} {l outer:List Env} {env:Env} {e L:Addr} {cls:Value}
theorem qu{h:Heap}{T:Addr}{o:Obj}{vs:Array Value}{f:Array Value->Array Value}(hT:h.get? T=some o)(hd:o.data=.fields vs):
  (∀b,b≠T->(h.update T (Obj.mapFields f)).get? b=h.get? b)/\(h.update T (Obj.mapFields f)).get? T=some (Obj.mapFields f o)/\(Obj.mapFields f o).data=.fields (f vs)/\(Obj.mapFields f o).cls=o.cls/\h.UpToSlots (h.update T (Obj.mapFields f)):=by
 have o1:∀b,b≠T->(h.update T (Obj.mapFields f)).get? b=h.get? b:=fun b n=>mz _ _ (cy n);refine⟨o1,mB _ hT (ud (mJ hd _)),mJ hd _,uC _ _,fun b u q nf=>⟨u.slots,?_⟩⟩;by_cases c:b=T
 .subst c;rw[hT] at q;cases q;exact absurd hd (nf vs)
 .rw[o1 b c];exact q
theorem iz{h h':Heap}(F:h.FunFrames B l)(u:h.UpToSlots h'):h'.FunFrames B l:=F.of_keeps fun b o q nf=>let ⟨sl,z⟩:=u b o q nf;⟨_,z,rfl⟩
theorem eR{fl:Value}{Q:Unit->Shared->Prop}(x:oZ B l e cls fl s.heap)(q:∀h',rD B l e cls h'->s.heap.UpToSlots h'->Q () { s with heap:=h' }):wpAny M A (setFlight (.ref e) none) Q E s:=by
 obtain⟨T,⟨o,vs,he,hc,hd,h1,h2⟩,nT,Te,oT,ts,hT,HG,h3⟩:=x.rc;have z3:3<ts.size:=(rC.mp h3).1;unfold setFlight;refine ao (cE he hd h1 ?_);rw[ak (show (Value.ref T != Value.none)=true from by simp)];refine mS hT HG z3 ?_;obtain⟨p1,p2,p3,_,p5⟩:=qu (f:=(·.setIfInBounds 3 ((none:Option Addr).elim Value.none fun f=>rawInt f))) hT HG;exact q _ ⟨fun b u z=>(p1 b fun c=>by rw[c,nT] at z;cases z).trans (x.stays b u z),x.new,iz x.frames p5,T,⟨o,vs,(p1 e (cy Te)).trans he,hc,hd,h1,h2⟩,nT,Te,_,_,p2,p3,by simp[z3]⟩ p5
theorem o0{o:Obj}{vs:Array Value}{Io:Value}{BL:Bool}{Q:Unit->Shared->Prop}(yQ:A.frames=some (env::outer))(F:s.heap.FunFrames B (env::outer))(hf:env.frame=some L)(st:B.StaysIn s.heap)(nw:B.get? e=none)(he:s.heap.get? e=some o)(hd:o.data=.fields vs)(z1:1<vs.size)(h2:vs[2]?=some .none)(q:∀h',oZ B (env::outer) e o.cls (rawInt L) h'->s.heap.UpToSlots h'->Q () { s with heap:=h' }):
  wpAny M A (do let a <- frameOf env;let pl <- entryPlaceOf L BL;let b <- EntryCells.newEntry Io a .none (rawInt L) .none pl;setField (.ref e) 1 b) Q E s:=by
 have ne:e∉(env::outer).filterMap (·.frame):=fun m=>by
  obtain⟨_,u,hu,nf⟩:=F.mem m;rw[he] at hu;cases hu;exact nf vs hd
 refine ao (wpAny_frameOf_fun yQ F hf fun h1 so=>?_);refine ao (wpAny_entryPlaceOf fun pl lT=>?_);unfold EntryCells.newEntry newFields;refine ao (gN ?_ (lT.sizeOk5 _ _ _ _ _));have e1:h1.get? e=some o:=(so.2.1 e ne).trans he;have BM:B.StaysIn h1:=fun b u z=>(so.2.1 b fun m=>by rw[(F.mem m).1] at z;cases z).trans (st b u z);have up1:s.heap.UpToSlots h1:=fun b u z _=>so.2.2 b u z;generalize Qq:({ cls:=.type "traceback",dict:=none,data:=.fields ([Io,.ref L,.none,rawInt L,.none]++(if pl.isEmpty then List.replicate 6 Value.none else pl)).toArray }:Obj)=To;have e2:=bf (h:=h1) To e1;refine mS e2 hd z1 ?_;obtain⟨p1,p2,p3,p4,p5⟩:=qu (f:=(·.setIfInBounds 1 (Value.ref h1.objs.size))) e2 hd;have Te:h1.objs.size≠e:=fQ (a9 e1);have Qr:h1.UpToSlots (h1.push To):=Heap.UpToSlots.of_keeps fun b u z=>bf _ z;refine q _ ⟨fun b u z=>(p1 b fun c=>by rw[c,nw] at z;cases z).trans (bf _ (BM b u z)),nw,iz F ((up1.trans Qr).trans p5),h1.objs.size,⟨_,_,p2,p4,p3,by simp[z1],by rw[Array.getElem?_setIfInBounds_ne (by decide)];exact h2⟩,?_,Te,To,_,(p1 _ Te).trans (b_ h1 (by rw[<-Qq];rfl)),by rw[<-Qq],?_⟩ ((up1.trans Qr).trans p5)
 .cases z:B.get? h1.objs.size with
  |none=>rfl
  |some u=>exact absurd (a9 (BM _ u z)) (ft _)
 .first|(simp;done)|(rcases lT with rfl|⟨_,_,_,_,_,_,_,rfl⟩ <;> simp)
theorem vX{Q:Unit->Shared->Prop}(yQ:A.frames=some (env::outer))(hf:env.frame=some L)(x:rD B (env::outer) e cls s.heap)(q:∀h',oZ B (env::outer) e cls (rawInt L) h'->s.heap.UpToSlots h'->Q () { s with heap:=h' }):wpAny M A (noteFrame (.ref e) env) Q E s:=by
 obtain⟨T,⟨o,vs,he,hc,hd,h1,h2⟩,nT,Te,oT,ts,hT,HG,h3⟩:=x.rc;subst hc;unfold noteFrame;simp only[hf];refine ao (cE he hd h1 ?_);rw[ak (show (Value.ref T != Value.none)=true from by simp)];refine ao (cE hT HG h3 ?_);rw[al (show ¬ ((Value.none==rawInt L)=true) from by simp[rawInt])];refine ao (mS hT HG (rC.mp h3).1 ?_);obtain⟨p1,p2,p3,p4,p5⟩:=qu (f:=(·.setIfInBounds 3 Value.none)) hT HG;exact o0 yQ (iz x.frames p5) hf (fun b u z=>(p1 b fun c=>by rw[c,nT] at z;cases z).trans (x.stays b u z)) x.new ((p1 e (cy Te)).trans he) hd (rC.mp h1).1 h2 fun h' y u=>q h' y (p5.trans u)
theorem yR{Q:Unit->Shared->Prop}(yQ:A.frames=some (env::outer))(hf:env.frame=some L)(x:rD B (env::outer) e cls s.heap)(q:∀h',rD B outer e cls h'->s.heap.UpToSlots h'->Q () { s with heap:=h' }):wpAny M A (leaving env (.ref e)) Q E s:=by
 unfold leaving;refine ao (vX yQ hf x fun h1 y u=>?_);refine eR (s:={ s with heap:=h1 }) y fun h2 z v=>q h2 ⟨z.stays,z.new,z.frames.2.2,z.rc⟩ (u.trans v)
theorem uI{h:Heap}{args:List Value}{Q:Unit->Shared->Prop}(yQ:A.frames=some (env::outer))(hf:env.frame=some L)(st:B.StaysIn h)(F:h.FunFrames B (env::outer))(x:Heap.MadeExcOf h s.heap e cls args)(q:∀h',rD B outer e cls h'->s.heap.UpToSlots h'->Q () { s with heap:=h' }):wpAny M A (leaving env (.ref e)) Q E s:=by
 obtain⟨t,he,_,_⟩:=x.there;have nw:B.get? e=none:=by
  cases z:B.get? e with
  |none=>rfl
  |some u=>have:=st e u z;rw[x.new] at this;cases this
 unfold leaving noteFrame;simp only[hf];refine ao (ao (cE he rfl (x:=.none) rfl ?_));rw[al (by decide)];refine o0 yQ (iz F (Heap.UpToSlots.of_keeps x.keeps)) hf (fun b u z=>x.keeps b u (st b u z)) nw he rfl (by simp) rfl fun h1 y u=>?_;exact eR (s:={ s with heap:=h1 }) y fun h2 z v=>q h2 ⟨z.stays,z.new,z.frames.2.2,z.rc⟩ (u.trans v)
end
theorem ot:plainId "proto.unchain"=true:=by decide +kernel
theorem ou:entryFor table "proto.unchain"=some Builtin.«proto.unchain»:=PySem.entryFor_of_fast (by kernel_rfl)
def rE(p:Addr)(h:Heap):Prop:=∃o vs,h.get? p=some o/\o.data=.fields vs/\vs[2]?=some .none
theorem yS{α:Type}{prog:Program}{w:World}{A:Around}{Q:α->Shared->Prop}{E:Value->Shared->Prop}{s:Shared}{a p:Addr}{o:Obj}{vs:Array Value}(hh:A.handled=some (.ref p))(hp:rE p s.heap)(ne:p≠a)(ha:s.heap.get? a=some o)(hd:o.data=.fields vs)(z2:2<vs.size)(q:E (.ref a) { s with heap:=s.heap.update a (Obj.mapFields (·.setIfInBounds 2 (.ref p))) }):wpAny (model prog w) A (raiseNew (.ref a):Sem α) Q E s:=by
 obtain⟨op,ws,h1,h2,h3⟩:=hp;unfold raiseNew;refine ao (wpAny_handled ?_);rw[hh];dsimp only;rw[ak (show (Value.ref p != Value.ref a)=true from by simp[ne])];refine ao (gQ (wpAny_runValue (mQ ou ?_)));rw[uo ot _];show wpAny _ _ (field (.ref p) 2 >>= _) _ _ s;refine ao (cE h1 h2 h3 ?_);rw[ak (by decide)];refine wpAny_pure ?_;show wpAny (model prog w) A (updateField a 2 (Value.ref p) >>= fun _=>throw (Value.ref a)) Q E s;unfold updateField;refine ao (ao (wpAny_load ha ?_));rw[hd];dsimp only;rw[ak z2];exact wpAny_update (by rw[ha]) (wpAny_throw q)
theorem uJ{prog:Program}{w:World}{A:Around}{E:Value->Shared->Prop}{s:Shared}{it p:Addr}{x left step:Int}{Q:Option Value->Shared->Prop}(hh:A.handled=some (.ref p))(hp:rE p s.heap)(rF:IsRangeIter s.heap it x left step)(hl:left<=0)(hQ:∀h',(∀b o,s.heap.get? b=some o->h'.get? b=some o)->Q none { s with heap:=h' }):wpAny (model prog w) A (pyNext (.ref it)) Q E s:=by
 have hT:s.TypeIs (.ref it) "range_iterator":=⟨_,rF,rfl⟩
 unfold pyNext;refine ao (qr (ml (name:=Str.ofString "__next__") hT F.slot_range_iterator_next
  (lw F.slot_range_iterator_next hT F.entry_range_iterator_next ?_ (F.args_range_iterator_next_1 _))))
 show wpAny _ _ (field (.ref it) 0 >>= _) _ _ s;refine ao (cE rF rfl (x:=rawInt x) rfl ?_);refine ao (cE rF rfl (x:=rawInt left) rfl ?_);refine ao (cE rF rfl (x:=rawInt step) rfl ?_);dsimp only[rawInt];rw[ak hl];refine ao (dS ?_);refine ao ?_;show wpAny _ _ (newExc (.type "StopIteration") [] >>= _) _ _ _;refine ao ?_;simp only[newExc,newTuple];refine ao (gN ?_ (by size_fits));refine ao (m:=firstArgMember _ _) (wpAny_of_eq (a:=Value.none) (by first|rfl|(simp only[firstArgMember];rfl)) ?_);refine gN ?_ (by size_fits);generalize Vs:({ cls:=.type "tuple",data:=.seq ([]:List Value).toArray }:Obj)=Tu;generalize Mz:({ cls:=.type "StopIteration",data:=.fields (#[Value.ref s.heap.objs.size,Value.none,Value.none,Value.none,Value.bool false,Value.none]++ownMembersOf (Value.type "StopIteration") []) }:Obj)=Ex;have Qs:Ex.data=.fields (#[Value.ref s.heap.objs.size,Value.none,Value.none,Value.none,Value.bool false,Value.none]++ownMembersOf (Value.type "StopIteration") []):=by rw[<-Mz]
 have R7:Ex.cls=.type "StopIteration":=by rw[<-Mz]
 have k1:∀b o,s.heap.get? b=some o->((s.heap.push Tu).push Ex).get? b=some o:=fun b o e=>bf _ (bf _ e);have gE:((s.heap.push Tu).push Ex).get? (s.heap.push Tu).objs.size=some Ex:=b_ _ (by rw[<-Mz];rfl);have mU:∀b o,s.heap.get? b=some o->b≠(s.heap.push Tu).objs.size:=fun b o e=>aT (a9 (bf Tu e));obtain⟨op,ws,n1,n2,n3⟩:=id hp;refine yS (A:=A.in1) (p:=p) hh ⟨op,ws,k1 _ _ n1,n2,n3⟩ (mU _ _ n1) gE Qs (by simp;lia) ?_;refine ao (wpAny_isInstance (T:="StopIteration") (b:=true) ⟨_,mB _ gE (ud (mJ Qs _)),(uC _ _).trans R7⟩ isSubtype_stop ?_);exact wpAny_pure (hQ _ fun b o e=>(mz _ _ (cy (mU b o e))).trans (k1 b o e))
abbrev ow:=Sum Int Str
def Ef:ow->Value->Bool
 |.inl k,v=>Value.isInt k v
 |.inr x,v=>Value.isStrOf x v
def ME(w:World):ow->Int
 |.inl k=>hashInt k
 |.inr x=>hashStr w x
theorem bS:∀ {k:ow} {v:Value},Ef k v=true->(∃i t,k=Sum.inl i/\v=Value.int i t)\/(∃x t,k=Sum.inr x/\v=Value.str x t)
 |.inl i,v,h=>by
  obtain⟨t,e⟩:=Value.isInt_shape (k:=i) (v:=v) h;exact .inl ⟨i,t,rfl,e⟩
 |.inr x,v,h=>by
  obtain⟨t,e⟩:=Value.isStrOf_shape (x:=x) (v:=v) h;exact .inr ⟨x,t,rfl,e⟩
theorem E9(a b:Int):decide ((Sum.inl a:ow)=Sum.inl b)=(a==b):=by
 by_cases e:a=b
 .subst e;simp
 .have h:¬ (Sum.inl a:ow)=Sum.inl b:=fun q=>e (Sum.inl.inj q);rw[cS h];exact(ka.mpr e).symm
theorem E_(a b:Str):decide ((Sum.inr a:ow)=Sum.inr b)=decide (a=b):=by
 by_cases e:a=b
 .subst e;simp
 .have h:¬ (Sum.inr a:ow)=Sum.inr b:=fun q=>e (Sum.inr.inj q);rw[cS h,cS e]
theorem Fa(a:Int)(b:Str):decide ((Sum.inl a:ow)=Sum.inr b)=false:=cS (fun q=>nomatch q)
theorem Fb(a:Str)(b:Int):decide ((Sum.inr a:ow)=Sum.inl b)=false:=cS (fun q=>nomatch q)
def vY(prog:Program)(w:World):PySem.KeyKind prog w ow where
 is:=Ef
 hash:=ME w
 inj:=fun v a b ha hb=>by
  rcases bS ha with ⟨i,t,rfl,rfl⟩|⟨x,t,rfl,rfl⟩
  .rcases bS hb with ⟨j,u,rfl,e⟩|⟨y,u,rfl,e⟩
   .injection e with e1 _;rw[e1]
   .exact nomatch e
  .rcases bS hb with ⟨j,u,rfl,e⟩|⟨y,u,rfl,e⟩
   .exact nomatch e
   .injection e with e1 _;rw[e1]
 byValue:=fun k v h=>by
  rcases bS h with ⟨i,t,rfl,rfl⟩|⟨x,t,rfl,rfl⟩ <;> rfl
 pyHash:=fun hv h=>by
  rcases bS hv with ⟨i,t,rfl,rfl⟩|⟨x,t,rfl,rfl⟩
  .exact wpAny_pyHash_int h
  .exact wpAny_pyHash_str h
 eqBool:=fun hu hv h=>by
  rcases bS hu with ⟨i,t,rfl,rfl⟩|⟨x,t,rfl,rfl⟩
  .rcases bS hv with ⟨j,u,rfl,rfl⟩|⟨y,u,rfl,rfl⟩
   .rw[E9] at h;exact uG h
   .rw[Fa] at h;exact SeqAt.EqAt.int_str i t y u _ _ _ _ h
  .rcases bS hv with ⟨j,u,rfl,rfl⟩|⟨y,u,rfl,rfl⟩
   .rw[Fb] at h;exact SeqAt.EqAt.str_int x t j u _ _ _ _ h
   .rw[E_] at h;exact wpAny_eqBool_str h
 «strs»:=fun k x t v h=>by
  rcases bS h with ⟨i,u,rfl,e⟩|⟨y,u,rfl,e⟩
  .exact nomatch e
  .injection e with e1 _
   subst e1
   cases v <;> rfl
inductive V where
 |bt|bl (b:Bool)|int (i:Int)|str (x:Str)|yu (b:Array UInt8)|Fc (b:UInt64)|ref (a:Addr)|ty (n:String)
 deriving DecidableEq
def aX:V->Value->Prop
 |.bt,u=>u=Value.none
 |.bl b,u=>u=Value.bool b
 |.int i,u=>∃t,u=Value.int i t
 |.str x,u=>∃t,u=Value.str x t
 |.yu b,u=>∃t,u=Value.bytes b t
 |.Fc b,u=>∃t,u=Value.float b t
 |.ref a,u=>u=Value.ref a
 |.ty n,u=>u=Value.type n
abbrev aL:List V->List Value->Prop:=Paired aX
theorem aL.length(r:aL xs us):xs.length=us.length:=Paired.length r
theorem aL.get:∀ {xs:List V} {us:List Value} {i:Nat} {x:V},aL xs us->xs[i]?=some x->∃u,us[i]?=some u/\aX x u
 |_,_,_,_,.nil,e=>by simp at e
 |_,_,0,_,.cons r _,e=>by simp at e;subst e;exact⟨_,rfl,r⟩
 |_,_,i+1,x,.cons _ t,e=>by
  obtain⟨u,h1,h2⟩:=aL.get (i:=i) (x:=x) t (by simpa using e);exact⟨u,by simpa using h1,h2⟩
theorem aL.set(r:aX x u):∀ {xs:List V} {us:List Value} (i:Nat),aL xs us->aL (xs.set i x) (us.set i u)
 |_,_,_,.nil=>.nil
 |_,_,0,.cons _ t=>.cons r t
 |_,_,i+1,.cons q t=>.cons q (aL.set r i t)
theorem aL.append:∀ {xs ys:List V} {us ws:List Value},aL xs us->aL ys ws->aL (xs++ys) (us++ws)
 |_,_,_,_,.nil,s=>s
 |_,_,_,_,.cons r t,s=>.cons r (aL.append t s)
theorem aL.take:∀ {xs:List V} {us:List Value} (n:Nat),aL xs us->aL (xs.take n) (us.take n)
 |_,_,0,_=>.nil
 |_,_,_+1,.nil=>.nil
 |_,_,n+1,.cons r t=>.cons r (aL.take n t)
theorem aL.drop:∀ {xs:List V} {us:List Value} (n:Nat),aL xs us->aL (xs.drop n) (us.drop n)
 |_,_,0,r=>r
 |_,_,_+1,.nil=>.nil
 |_,_,n+1,.cons _ t=>aL.drop n t
def oy:Option V->Option Value->Prop
 |some v,some u=>aX v u
 |none,none=>True
 |_,_=>False
def KV{κ:Type}:List (κ×V)->List (κ×Value)->Prop:=Paired fun (p:κ×V) (q:κ×Value)=>p.1=q.1/\aX p.2 q.2
def kV:ow->V
 |.inl i=>.int i
 |.inr x=>.str x
inductive HO where
 |lst (xs:List V)
 |tup (xs:List V)
 |dK (jH:List (ow×V))|dT (jH:List (List ow×V))
 |set (S:Int->Bool) (n:Nat)
 |ins (C dx:Addr) (fs:List (Str×V))
 |own (x:Addr)
 |xd (fs:List (Str×V))
 |met (f x:Addr)
 |LQ (lo hi:Int)
 |o3 (o:Obj) (u:HO)
 |mV (ps:Array Value)
 |ext (φ:Heap->Prop)
abbrev Hp:=Addr->Option HO
def upd(H:Hp)(a:Addr)(o:HO):Hp:=fun b=>if b=a then some o else H b
theorem ag:upd H a o a=some o:=by unfold upd;rw[ak rfl]
theorem ap(h:b≠a):upd H a o b=H b:=by unfold upd;rw[al h]
theorem lU:upd (upd H a o) a u=upd H a u:=by
 funext b;unfold upd;split <;> rfl
theorem dk{H:Hp}{a b:Addr}{o u:HO}(h:H a=some o)(h':H b=some u)(d:o≠u):a≠b:=by
 intro e;subst e;rw[h] at h';exact d (bA h')
theorem aq{H:Hp}{a b:Addr}{o:HO}(h:H a=some o)(h':H b=none):a≠b:=by
 intro e;subst e;rw[h] at h';cases h'
section
variable (P:Program) (w:World)
def jj(h:Heap)(a:Addr)(items:Array Value):Prop:=∃o,h.get? a=some o/\o.cls=.type "tuple"/\∃n,o.data=.seq items n/\o.dict=none
theorem jj.tup(p:jj h a items):IsTup h a items:=let ⟨o,e,c,n,d,_⟩:=p;⟨o,e,c,n,d⟩
theorem jj.new(h:Heap)(items:Array Value):jj (h.push { cls:=.type "tuple",data:=.seq items }) h.objs.size items:=⟨_,b_ _ rfl,rfl,_,rfl,rfl⟩
def b8(H:Hp)(h:Heap)(a:Addr):HO->Prop
 |.lst xs=>xs.length<=sizeLine/\∃ (its:List Value) (n:Nat),aL xs its/\h.get? a=some { cls:=.type "list",data:=.seq its.toArray n }
 |.tup xs=>xs.length<=sizeLine/\∃its:List Value,aL xs its/\jj h a its.toArray
 |.dK jH=>jH.length<=sizeLine/\(a==sysModules)=false/\∃vs,KV jH vs/\h.DictOf (vY P w) a vs
 |.dT jH=>jH.length<=sizeLine/\(a==sysModules)=false/\∃xs:List (List ow×Addr×Value),
   Paired (fun (p:List ow×V) (q:List ow×Addr×Value)=>p.1=q.1/\H q.2.1=some (.tup (p.1.map kV))/\aX p.2 q.2.2) jH xs/\
   ∃o es ep,h.get? a=some o/\o.ExactDict/\o.data=.dict es ep/\es.toList=xs.map (entryOfKey (tupleKind (vY P w)))/\(xs.map (·.1)).Nodup
 |.set S n=>h.SetOf (intKind P w) a S n
 |.ins C dx fs=>H dx=some (.own a)/\fs.length<=1000/\dx≠a/\h.get? a=some (PySem.W.instObj C dx)/\
   ∃mA,h.Ns1 dx mA/\(∀f,oy (fs.lookup f) (mA f))/\PySem.Within mA (fs.map (·.1))
 |.own _=>∃o,h.get? a=some o
 |.xd fs=>∃mA,h.Ns1 a mA/\∀f,oy (fs.lookup f) (mA f)
 |.LQ lo hi=>∃t u v,h.get? a=some { cls:=.type "range",data:=.fields #[.int lo t,.int hi u,.int 1 v] }
 |.o3 o u=>h.get? a=some o/\b8 H h a u
 |.mV ps=>h.get? a=some { cls:=.none,data:=.fields ps }
 |.met f x=>h.get? a=some (PySem.W.methodObj (.ref f) (.ref x))
 |.ext φ=>φ h/\(∃o,h.get? a=some o)/\∀h1 h2:Heap,φ h1->(∀o,h1.get? a=some o->h2.get? a=some o)->φ h2
def jk(H:Hp)(h:Heap):Prop:=∀a o,H a=some o->b8 P w H h a o
end
section
variable {P:Program} {w:World} {H H':Hp} {h h':Heap} {a:Addr} {o:HO}
theorem b8.lt(x:b8 P w H h a o):a<h.objs.size:=by
 cases o with
 |lst xs=>obtain⟨_,_,_,_,e⟩:=x;exact a9 e
 |tup xs=>obtain⟨_,_,_,p⟩:=x;exact p.tup.lt
 |dK jH=>obtain⟨_,_,_,_,o,_,_,e,_⟩:=x;exact a9 e
 |dT jH=>obtain⟨_,_,_,_,o,_,_,e,_⟩:=x;exact a9 e
 |set S n=>obtain⟨o,_,_,_,e,_⟩:=x;exact a9 e
 |ins C dx fs=>obtain⟨_,_,_,e,_⟩:=x;exact a9 e
 |own y=>obtain⟨_,e⟩:=x;exact a9 e
 |xd fs=>obtain⟨_,⟨_,_,_,e,_⟩,_⟩:=x;exact a9 e
 |LQ lo hi=>obtain⟨_,_,_,e⟩:=x;exact a9 e
 |o3 ob u=>obtain⟨e,_⟩:=x;exact a9 e
 |mV ps=>exact a9 (show h.get? a=some _ from x)
 |met f y=>exact a9 (show h.get? a=some _ from x)
 |ext φ=>obtain⟨_,⟨_,e⟩,_⟩:=x;exact a9 e
theorem Paired.Ip:∀ {l₁:List α} {l₂:List β},Paired F l₁ l₂->(∀a b,F a b->G a b)->Paired G l₁ l₂
 |_,_,.nil,_=>.nil
 |_,_,.cons r t,f=>.cons (f _ _ r) (Paired.Ip t f)
theorem b8.kD(x:b8 P w H h a o)(k:∀b u,(b=a\/H b=some (.own a))->h.get? b=some u->h'.get? b=some u)(ho:∀b,H b=some (.own a)->H' b=some (.own a))(ht:∀b xs,H b=some (.tup xs)->H' b=some (.tup xs)):b8 P w H' h' a o:=by
 induction o with
 |lst xs=>obtain⟨z,its,n,r,e⟩:=x;exact⟨z,its,n,r,k _ _ (.inl rfl) e⟩
 |tup xs=>obtain⟨z,its,r,ob,e,c⟩:=x;exact⟨z,its,r,ob,k _ _ (.inl rfl) e,c⟩
 |dK jH=>obtain⟨z,y,vs,r,ob,es,ep,e,c⟩:=x;exact⟨z,y,vs,r,ob,es,ep,k _ _ (.inl rfl) e,c⟩
 |dT jH=>
  obtain⟨z,y,xs,r,ob,es,ep,e,c⟩:=x;exact⟨z,y,xs,Paired.Ip r fun p q z=>⟨z.1,ht _ _ z.2.1,z.2.2⟩,ob,es,ep,k _ _ (.inl rfl) e,c⟩
 |set S n=>obtain⟨ob,es,ep,t,e,c⟩:=x;exact⟨ob,es,ep,t,k _ _ (.inl rfl) e,c⟩
 |ins C dx fs=>
  obtain⟨d,z,ne,e,mA,⟨od,es,ep,e2,c⟩,r⟩:=x;exact⟨ho _ d,z,ne,k _ _ (.inl rfl) e,mA,⟨od,es,ep,k _ _ (.inr d) e2,c⟩,r⟩
 |own y=>obtain⟨ob,e⟩:=x;exact⟨ob,k _ _ (.inl rfl) e⟩
 |xd fs=>obtain⟨mA,⟨od,es,ep,e,c⟩,r⟩:=x;exact⟨mA,⟨od,es,ep,k _ _ (.inl rfl) e,c⟩,r⟩
 |LQ lo hi=>obtain⟨t,u,v,e⟩:=x;exact⟨t,u,v,k _ _ (.inl rfl) e⟩
 |o3 ob u ih=>obtain⟨e,q⟩:=x;exact⟨k _ _ (.inl rfl) e,ih q⟩
 |mV ps=>
  have e:h.get? a=some { cls:=.none,data:=.fields ps }:=x;show h'.get? a=some { cls:=.none,data:=.fields ps };exact k a _ (.inl rfl) e
 |met f y=>
  have e:h.get? a=some (PySem.W.methodObj (.ref f) (.ref y)):=x;show h'.get? a=some (PySem.W.methodObj (.ref f) (.ref y));exact k a _ (.inl rfl) e
 |ext φ=>obtain⟨p,⟨o,e⟩,st⟩:=x;exact⟨st _ _ p fun o q=>k _ _ (.inl rfl) q,⟨o,k _ _ (.inl rfl) e⟩,st⟩
theorem jk.lt(x:jk P w H h)(e:H a=some o):a<h.objs.size:=(x a o e).lt
theorem jk.fresh(x:jk P w H h)(e:h.objs.size<=a):H a=none:=by
 cases q:H a with
 |none=>rfl
 |some u=>exact absurd (bp (x.lt q) e) (ft _)
theorem jk.kept(x:jk P w H h)(k:∀b u,h.get? b=some u->h'.get? b=some u):jk P w H h':=fun a o e=>
 (x a o e).kD (fun b u _ q=>k b u q) (fun _ q=>q) fun _ _ q=>q
theorem jk.laid(x:jk P w H h)(k:∀b u,h.get? b=some u->h'.get? b=some u)(hp:h.objs.size<=a)(new:b8 P w (upd H a o) h' a o):jk P w (upd H a o) h':=fun b u e=>by
 have hn:=x.fresh hp;by_cases hb:b=a
 .subst hb;rw[ag] at e;cases e;exact new
 .rw[ap hb] at e;exact(x b u e).kD (fun c v _ q=>k c v q) (fun c q=>by rw[ap (aq q hn)];exact q) fun c xs q=>by rw[ap (aq q hn)];exact q
end
def Rd(H:Hp)(a:Addr)(u:HO):Prop:=H a=some u\/∃o,H a=some (.o3 o u)
theorem Rd.ok(r:Rd H a u)(x:jk P w H h):b8 P w H h a u:=by
 rcases r with r|⟨o,r⟩
 .exact x a u r
 .obtain⟨_,q⟩:=x a _ r;exact q
def LR:Option HO->Prop
 |some (.lst _)=>True
 |some (.dK _)=>True
 |some (.dT _)=>True
 |some (.set _ _)=>True
 |some (.ins _ _ _)=>True
 |some (.ext _)=>True
 |_=>False
section
variable {P:Program} {w:World} {H:Hp} {h h':Heap} {x e:Addr} {o':HO}
theorem jk.write(ok:jk P w H h)(mu:LR (H x))(he:e=x\/H e=some (.own x))(k:∀b u,b≠e->h.get? b=some u->h'.get? b=some u)(HI:∃u,h'.get? e=some u)(new:b8 P w (upd H x o') h' x o'):jk P w (upd H x o') h':=fun b u q=>by
 have Iq:∀c y,H c=some (.own y)->c≠x:=fun c y r z=>by subst z;rw[r] at mu;exact mu
 have MG:∀c xs,H c=some (.tup xs)->c≠x:=fun c xs r z=>by subst z;rw[r] at mu;exact mu
 by_cases hb:b=x
 .subst hb;rw[ag] at q;cases q;exact new
 .rw[ap hb] at q;by_cases Bu:b=e
  .have q':H b=some (.own x):=by
    rcases he with z|z
    .exact absurd (Bu.trans z) hb
    .rw[Bu];exact z
   rw[q] at q';cases q';obtain⟨v,hv⟩:=HI;exact⟨v,by rw[Bu];exact hv⟩
  .refine(ok b u q).kD (fun c v hc r=>k c v ?_ r) (fun c r=>by rw[ap (Iq c b r)];exact r) fun c xs r=>by rw[ap (MG c xs r)];exact r
   rcases hc with rfl|hc
   .exact Bu
   .rintro rfl;rcases he with z|z
    .exact Iq c b hc z
    .rw[hc] at z;cases z;exact hb rfl
end
structure Un(fs ex:List Addr)(H H':Hp)(h h':Heap):Prop where
 keep:∀b o,h.get? b=some o->H b=none->b∉fs->b∉ex->h'.get? b=some o
 slot:∀b o,h.get? b=some o->H b=none->b∈fs->b∉ex->∃sl,h'.get? b=some { o with slots:=sl }
 free:∀b o,h.get? b=some o->H b=none->b∉ex->H' b=none
 there:∀b o,h.get? b=some o->b∉ex->∃o',h'.get? b=some o'
 fU:∀b xs,H b=some (.tup xs)->H' b=some (.tup xs)
 gY:∀b o u,H b=some (.o3 o u)->H' b=some (.o3 o u)
 iP:∀b ps,H b=some (.mV ps)->∃more,H' b=some (.mV (ps++more))
section
variable {fs R8 ex Vt:List Addr} {H H1 H2:Hp} {h h1 h2 h':Heap} {a x e:Addr} {o:HO}
theorem Un.any(u:Un fs ex H H1 h h1)(q:h.get? b=some ob)(n:H b=none)(hx:b∉ex):∃sl,h1.get? b=some { ob with slots:=sl }:=by
 by_cases hb:b∈fs
 .exact u.slot b ob q n hb hx
 .exact⟨ob.slots,u.keep b ob q n hb hx⟩
theorem Un.kept(k:∀b u,h.get? b=some u->h'.get? b=some u):Un fs ex H H h h':=
 ⟨fun b ob q _ _ _=>k b ob q,fun b ob q _ _ _=>⟨ob.slots,k b ob q⟩,fun _ _ _ n _=>n,fun b ob q _=>⟨ob,k b ob q⟩,fun _ _ q=>q,fun _ _ _ q=>q,fun _ ps q=>⟨#[],by rw[q];simp⟩⟩
theorem Un.refl:Un fs ex H H h h:=Un.kept fun _ _ q=>q
theorem Un.laid(k:∀b u,h.get? b=some u->h'.get? b=some u)(hp:h.objs.size<=a)(hn:H a=none):Un fs ex H (upd H a o) h h' where
 keep:=fun b u q _ _ _=>k b u q
 slot:=fun b u q _ _ _=>⟨u.slots,k b u q⟩
 free:=fun b u q n _=>by rw[ap (aT (bp (a9 q) hp))];exact n
 there:=fun b u q _=>⟨u,k b u q⟩
 fU:=fun b xs q=>by rw[ap (aq q hn)];exact q
 gY:=fun b u xs q=>by rw[ap (aq q hn)];exact q
 iP:=fun b ps q=>⟨#[],by rw[ap (aq q hn),q];simp⟩
theorem Un.write(mu:LR (H x))(he:e=x\/H e=some (.own x))(k:∀b u,b≠e->h.get? b=some u->h'.get? b=some u)(HI:∃u,h'.get? e=some u):Un fs ex H (upd H x o) h h':=by
 have hx:∀b,H b=none->b≠x:=fun b n z=>by subst z;rw[n] at mu;exact mu
 have hb:∀b,H b=none->b≠e:=fun b n z=>by
  subst z;rcases he with r|r
  .exact hx b n r
  .rw[n] at r;cases r
 have hm:∀b u,H b=some u->¬ LR (some u)->b≠x:=fun b u q nm z=>by subst z;rw[q] at mu;exact nm mu
 refine⟨fun b u q n _ _=>k b u (hb b n) q,fun b u q n _ _=>⟨u.slots,k b u (hb b n) q⟩,fun b u q n _=>by rw[ap (hx b n)];exact n,fun b u q _=>?_,
  fun b xs q=>by rw[ap (hm b _ q fun z=>z)];exact q,fun b u xs q=>by rw[ap (hm b _ q fun z=>z)];exact q,fun b ps q=>⟨#[],by rw[ap (hm b _ q fun z=>z),q];simp⟩⟩
 by_cases Bu:b=e
 .subst Bu;exact HI
 .exact⟨u,k b u Bu q⟩
end
def LU(h:Heap)(H:Hp):List Addr:=(List.range h.objs.size).filter fun a=>(H a).isSome
def oz(h:Heap)(H:Hp):Heap:=PySem.W.hideAll h (LU h H)
theorem xf(h:Heap)(H:Hp):(oz h H).objs.size=h.objs.size:=PySem.W.hideAll_size _ _
theorem yT(e:h.get? b=some o)(n:H b=none):(oz h H).get? b=some o:=
 qb _ e fun hm=>by
  have q:(H b).isSome=true:=(fq.mp hm).2;rw[n] at q;simp at q
theorem BO(e:(oz h H).get? b=some o):h.get? b=some o/\H b=none:=by
 have e':h.get? b=some o:=PySem.W.of_hideAll (LU h H) e;refine⟨e',?_⟩;cases q:H b with
 |none=>rfl
 |some x=>
  have hm:b∈LU h H:=fq.mpr ⟨dM.mpr (a9 e'),by simp[q]⟩;have z:(oz h H).get? b=none:=PySem.W.hideAll_none (LU h H) hm;rw[z] at e;cases e
def fV(g h:Heap)(L:Addr):List (Addr×Obj):=(List.range h.objs.size).filterMap fun a=>if a=L\/(g.get? a).isSome=true then none else (h.get? a).map fun o=>(a,o)
theorem gZ(h1:a≠L)(h2:g.get? a=none)(h3:h.get? a=some o):(a,o)∈fV g h L:=
 mv.mpr ⟨a,dM.mpr (a9 h3),by simp[h1,h2,h3]⟩
theorem mX(hp:p∈fV g h L):p.1≠L/\g.get? p.1=none/\h.get? p.1=some p.2:=by
 obtain⟨b,_,e⟩:=mv.mp hp;split at e
 .cases e
 .rename_i hn;cases q:h.get? b with
  |none=>rw[q] at e;simp at e
  |some u=>
   rw[q] at e;simp only[uA,Option.some.injEq] at e;subst e;refine⟨fun z=>hn (.inl z),?_,q⟩;show g.get? b=none;cases r:g.get? b with
   |none=>rfl
   |some v=>exact(hn (.inr (by simp[r]))).elim
theorem yU:News g L h (fV g h L):=fun p hp=>let ⟨a,b,c⟩:=mX hp;⟨c,a,b⟩
structure Mod(K:PySem.W.Frag)(mg:Str->Option Value)(base:Heap):Prop where
 Bv:K.In base
 glob:base.Ns mainGlobals mg
 blt:∃mb,base.Ns builtinsNs mb/\∀x:Str,x≠"__name__"->mb x=bootBuiltins x
 nolimit:base.NoLimit
structure Cx where
 prog:Program
 w:World
 K:PySem.W.Frag
 mg:Str->Option Value
 base:Heap
 A:Around
 N:List Str
 s₀:Shared
 H₀:Hp
 env:Env
 outer:List Env
 stack:List Env
 ex:List Addr
 fn:Str->Bool
 calm:Bool
 pn:List (Addr×Obj)
 xe:Value->Shared->Prop
def i0(l:List Env):List Addr:=l.filterMap (·.frame)
abbrev Cx.fs(X:Cx):List Addr:=i0 X.outer
def Ir(sc:Scope)(x:Str):Prop:=sc.names.lookup x=some .local\/sc.names.lookup x=some .cell\/sc.names.lookup x=some .free
def Iu(sc:Scope)(x:Str):Prop:=sc.names.lookup x=some .local\/sc.names.lookup x=some .cell
def MI(env:Env)(h:Heap)(m:Str->Option Value)(x:Str)(u:Value):Prop:=
 (env.kindOf x=some .local/\m x=some u)\/((env.kindOf x=some .cell\/env.kindOf x=some .free)/\∃c,env.cells.lookup x=some c/\h.IsCell c (some u))
structure Cx.Ok(X:Cx):Prop where
 mod:Mod X.K X.mg X.base
 kind:X.env.scope.kind=.function
 glob:X.env.globals=mainGlobals
 blt:X.env.builtins=builtinsNs
 above:X.s₀.heap.objs.size<=X.env.locals
 inj:∀x y c,X.env.cells.lookup x=some c->X.env.cells.lookup y=some c->x=y
 has:∀x,(X.env.kindOf x=some .cell\/X.env.kindOf x=some .free)->∃c,X.env.cells.lookup x=some c
 Fe:∀x c,X.fn x=true->X.env.cells.lookup x=some c->X.s₀.heap.objs.size<=c
 hd:X.calm=true->X.A.handled=none
 frames:X.A.frames=some X.stack
 yv:X.stack=X.outer\/(X.stack=X.env::X.outer/\X.env.frame=some X.env.locals)
 Iv:∀b∈X.ex,b≠X.env.locals/\∀x c,X.env.cells.lookup x=some c->c≠b
 bs:∀b o,X.base.get? b=some o->X.s₀.heap.get? b=some o/\X.H₀ b=none
 xg:X.base.objs.size<=X.s₀.heap.objs.size
 kF:∀b o,X.base.get? b=some o->b∉X.ex
 xh:∀b∈X.ex,b∉X.fs
 g7:X.s₀.heap.FunFrames X.base X.outer
 yw:∀b∈X.fs,X.H₀ b=none
structure aA(X:Cx)(ae:List (Addr×Obj))(σ:List (Option V))(H:Hp)(s:Shared):Prop where
 ok:X.Ok
 os:s.os=X.s₀.os
 bare:AllBare s.gens
 base:Un X.fs X.ex X.H₀ H X.s₀.heap s.heap
 loc:∃m,s.heap.Ns X.env.locals m/\∀ (i:Nat) (x:Str) (v:V),X.N[i]?=some x->σ[i]?=some (some v)->Ir X.env.scope x->∃u,aX v u/\MI X.env s.heap m x u
 cell:∀x c,X.env.cells.lookup x=some c->∃v,s.heap.IsCell c v
 free:H X.env.locals=none
 eJ:∀x c,X.env.cells.lookup x=some c->H c=none
 pin:∀p∈X.pn++ae,s.heap.get? p.1=some p.2/\H p.1=none/\p.1≠X.env.locals/\p.1∉X.fs/\∀v,p.2.data≠.cell v
 be:jk X.prog X.w H s.heap
 len:σ.length=X.N.length
section
variable {X:Cx} {ae:List (Addr×Obj)} {σ:List (Option V)} {H H':Hp} {s:Shared} {h':Heap}
theorem Cx.Ok.MJ(ok:X.Ok)(e:X.base.get? b=some o):b∉X.fs:=fun hb=>by
 have:=(ok.g7.mem hb).1;rw[e] at this;cases this
theorem aA.bs(I:aA X ae σ H s):∀b o,X.base.get? b=some o->s.heap.get? b=some o/\H b=none:=fun b o e=>
 ⟨I.base.keep b o (I.ok.bs b o e).1 (I.ok.bs b o e).2 (I.ok.MJ e) (I.ok.kF b o e),I.base.free b o (I.ok.bs b o e).1 (I.ok.bs b o e).2 (I.ok.kF b o e)⟩
theorem aA.bk(I:aA X ae σ H s):∀b o,X.base.get? b=some o->s.heap.get? b=some o:=fun b o e=>(I.bs b o e).1
theorem aA.mod(I:aA X ae σ H s):Mod X.K X.mg X.base:=I.ok.mod
theorem aA.jl(I:aA X ae σ H s):X.K.In s.heap:=I.ok.mod.Bv.keeps I.bk
theorem aA.fr(I:aA X ae σ H s):∃m,Fr X.base X.env.locals s.heap m:=
 let ⟨m,hn,_⟩:=I.loc
 ⟨m,hn,I.bk,bb I.ok.xg I.ok.above⟩
theorem aA.lt(I:aA X ae σ H s):X.env.locals<s.heap.objs.size:=let ⟨_,hn,_⟩:=I.loc;hn.lt
theorem aA.sz(I:aA X ae σ H s):X.s₀.heap.objs.size<=s.heap.objs.size:=bb I.ok.above (fR I.lt)
theorem aA.ML(I:aA X ae σ H s)(h:s.heap.objs.size<=a):a∉X.fs:=fun hb=>by
 obtain⟨_,o,ho,_⟩:=I.ok.g7.mem hb;exact absurd (bp (a9 ho) (bb I.sz h)) (ft _)
theorem aA.BQ(I:aA X ae σ H s):∀x c,X.env.cells.lookup x=some c->c≠X.env.locals:=fun x c e z=>by
 obtain⟨v,o,ho,hd⟩:=I.cell x c e;obtain⟨m,⟨o',es,ep,o4,Eg,_⟩,_⟩:=I.loc;rw[z,o4] at ho;cases ho;rw[Eg] at hd;cases hd
theorem aA.g7(I:aA X ae σ H s):s.heap.FunFrames X.base X.outer:=by
 have all:∀ (l:List Env),(∀b∈i0 l,b∈X.fs)->X.s₀.heap.FunFrames X.base l->s.heap.FunFrames X.base l:=by
  intro l;induction l with
  |nil=>intro _ _;trivial
  |cons env r ih=>
   intro hs hl;obtain⟨hk,⟨L,o,hf,hn,ho,hd⟩,hr⟩:=hl;have hL:L∈X.fs:=hs L (by unfold i0;rw[ub,hf];exact b9);obtain⟨sl,e⟩:=I.base.slot L o ho (I.ok.yw L hL) hL fun z=>I.ok.xh L z hL;exact⟨hk,⟨L,_,hf,hn,e,hd⟩,ih (fun b hb=>hs b (by unfold i0;rw[ub,hf];exact bD _ hb)) hr⟩
 exact all X.outer (fun _ hb=>hb) I.ok.g7
theorem aA.stack(I:aA X ae σ H s):s.heap.FunFrames X.base X.stack:=by
 rcases I.ok.yv with e|⟨e,hf⟩
 .rw[e];exact I.g7
 .rw[e];obtain⟨m,hn,_⟩:=I.loc;refine .cons (by rw[I.ok.kind];decide) hf hn ?_ I.g7;exact ul (bb I.ok.xg I.ok.above)
theorem aA.qv(I:aA X ae σ H s):∀b∈i0 X.stack,b∈X.env.locals::X.fs:=fun b hb=>by
 rcases I.ok.yv with e|⟨e,hf⟩
 .rw[e] at hb;exact bD _ hb
 .rw[e] at hb;unfold i0 at hb;rw[ub,hf] at hb;exact hb
theorem aA.qw(I:aA X ae σ H s):∀b∈i0 X.stack,H b=none:=fun b hb=>by
 rcases a_.mp (I.qv b hb) with e|hb
 .rw[e];exact I.free
 .obtain⟨_,o,ho,_⟩:=I.ok.g7.mem hb;exact I.base.free b o ho (I.ok.yw b hb) fun z=>I.ok.xh b z hb
theorem aA.step{g':Array GenState}{t':Nat}{d':Drawn}{ch:List Addr}(I:aA X ae σ H s)(Bw:∀b∈ch,(b∈X.ex\/X.s₀.heap.objs.size<=b)/\b≠X.env.locals/\(∀x c,X.env.cells.lookup x=some c->c≠b)/\∀p∈X.pn++ae,p.1≠b)(keep:∀b o,b≠X.env.locals->b∉X.fs->b∉ch->s.heap.get? b=some o->H b=none->h'.get? b=some o)(slot:∀b o,b≠X.env.locals->b∈X.fs->b∉ch->s.heap.get? b=some o->H b=none->∃sl,h'.get? b=some { o with slots:=sl })(free:∀b o,b∉ch->s.heap.get? b=some o->H b=none->H' b=none)(there:∀b o,b∉ch->s.heap.get? b=some o->∃o',h'.get? b=some o')(fU:∀b xs,H b=some (.tup xs)->H' b=some (.tup xs))(gY:∀b o u,H b=some (.o3 o u)->H' b=some (.o3 o u))(iP:∀b ps,H b=some (.mV ps)->∃more,H' b=some (.mV (ps++more)))(ns:∀m,s.heap.Ns X.env.locals m->h'.Ns X.env.locals m)(be:jk X.prog X.w H' h')(hg:AllBare g'):
  aA X ae σ H' { s with heap:=h',gens:=g',drawn:=d',toks:=t' }:=by
 have Qt:∀b o,X.s₀.heap.get? b=some o->b≠X.env.locals:=fun b o e=>aT (bp (a9 e) I.ok.above);have LV:∀b o,X.s₀.heap.get? b=some o->b∉X.ex->b∉ch:=fun b o e hx hb=>by
  rcases(Bw b hb).1 with z|z
  .exact hx z
  .exact absurd (bp (a9 e) z) (ft _)
 have Eh:∀x c,X.env.cells.lookup x=some c->∀v,s.heap.IsCell c v->h'.IsCell c v:=fun x c e v ⟨o,ho,hd⟩=>by
  have Iw:c∉ch:=fun z=>(Bw c z).2.2.1 x c e rfl;by_cases hc:c∈X.fs
  .obtain⟨sl,q⟩:=slot c o (I.BQ x c e) hc Iw ho (I.eJ x c e);exact⟨_,q,hd⟩
  .exact⟨o,keep c o (I.BQ x c e) hc Iw ho (I.eJ x c e),hd⟩
 refine⟨I.ok,I.os,hg,⟨fun b o e n hb hx=>?_,fun b o e n hb hx=>?_,fun b o e n hx=>?_,fun b o e hx=>?_,fun b xs e=>fU b xs (I.base.fU b xs e),fun b o xs e=>gY b o xs (I.base.gY b o xs e),fun b ps e=>?_⟩,?_,fun x c e=>?_,?_,fun x c e=>?_,fun p hp=>?_,be,I.len⟩
 .exact keep b o (Qt b o e) hb (LV b o e hx) (I.base.keep b o e n hb hx) (I.base.free b o e n hx)
 .obtain⟨sl,e1⟩:=I.base.slot b o e n hb hx;obtain⟨MN,e2⟩:=slot b _ (Qt b o e) hb (LV b o e hx) e1 (I.base.free b o e n hx);exact⟨MN,e2⟩
 .obtain⟨o',e1⟩:=I.base.there b o e hx;exact free b o' (LV b o e hx) e1 (I.base.free b o e n hx)
 .obtain⟨o',e1⟩:=I.base.there b o e hx;exact there b o' (LV b o e hx) e1
 .obtain⟨m1,e1⟩:=I.base.iP b ps e;obtain⟨m2,e2⟩:=iP b _ e1;exact⟨m1++m2,by rw[e2,Array.append_assoc]⟩
 .obtain⟨m,hn,hl⟩:=I.loc;refine⟨m,ns m hn,fun i x v e1 e2 e3=>?_⟩;obtain⟨u,r,l⟩:=hl i x v e1 e2 e3;refine⟨u,r,?_⟩;rcases l with l|⟨k,c,e,z⟩
  .exact .inl l
  .exact .inr ⟨k,c,e,Eh x c e _ z⟩
 .obtain⟨v,z⟩:=I.cell x c e;exact⟨v,Eh x c e v z⟩
 .obtain⟨m,⟨o,_,_,ho,_⟩,_⟩:=I.loc;exact free _ o (fun z=>(Bw _ z).2.1 rfl) ho I.free
 .obtain⟨v,o,ho,hd⟩:=I.cell x c e;exact free c o (fun z=>(Bw c z).2.2.1 x c e rfl) ho (I.eJ x c e)
 .obtain⟨e,n,ne,nf,d⟩:=I.pin p hp;have Iw:p.1∉ch:=fun z=>(Bw p.1 z).2.2.2 p hp rfl;exact⟨keep p.1 p.2 ne nf Iw e n,free p.1 p.2 Iw e n,ne,nf,d⟩
theorem aA.un{t':Nat}(I:aA X ae σ H s)(u:Un X.fs [] H H' s.heap h')(be:jk X.prog X.w H' h'):aA X ae σ H' { s with heap:=h',toks:=t' }:=by
 obtain⟨m,⟨o,es,ep,ho,r⟩,_⟩:=id I.loc;obtain⟨sl,hL⟩:=u.any ho I.free (by simp);exact I.step (g':=s.gens) (d':=s.drawn) (ch:=[]) (fun _ z=>nomatch z) (fun b o _ hb _ e n=>u.keep b o e n hb (by simp)) (fun b o _ hb _ e n=>u.slot b o e n hb (by simp)) (fun b o _ e n=>u.free b o e n (by simp)) (fun b o _ e=>u.there b o e (by simp)) u.fU u.gY u.iP (fun m' hm=>by
  obtain⟨o',sY,LW,o4,r'⟩:=hm;rw[ho] at o4;cases o4;exact⟨_,sY,LW,hL,r'⟩) be I.bare
theorem aA.call{g':Array GenState}{t':Nat}{d':Drawn}{ch:List Addr}(I:aA X ae σ H s)(u:Un (i0 X.stack) ch H H' s.heap h')(be:jk X.prog X.w H' h')(hg:AllBare g')(Bw:∀b∈ch,(b∈X.ex\/X.s₀.heap.objs.size<=b)/\b≠X.env.locals/\(∀x c,X.env.cells.lookup x=some c->c≠b)/\∀p∈X.pn++ae,p.1≠b):
  aA X ae σ H' { s with heap:=h',gens:=g',drawn:=d',toks:=t' }:=by
 obtain⟨m,⟨o,es,ep,ho,r⟩,_⟩:=id I.loc;obtain⟨sl,hL⟩:=u.any ho I.free fun z=>(Bw _ z).2.1 rfl;exact I.step (ch:=ch) Bw (fun b o hL hb hc e n=>u.keep b o e n (fun z=>(a_.mp (I.qv b z)).elim hL hb) hc) (fun b o _ _ hc e n=>u.any e n hc) (fun b o hc e n=>u.free b o e n hc) (fun b o hc e=>u.there b o e hc) u.fU u.gY u.iP (fun m' hm=>by
  obtain⟨o',sY,LW,o4,r'⟩:=hm;rw[ho] at o4;cases o4;exact⟨_,sY,LW,hL,r'⟩) be hg
theorem aA.turned{t':Nat}{it:Addr}(I:aA X ae σ H s)(k:∀b o,b≠it->s.heap.get? b=some o->h'.get? b=some o)(hn:H it=none)(hL:it≠X.env.locals)(h1:it∈X.ex\/X.s₀.heap.objs.size<=it)(h2:∀x c,X.env.cells.lookup x=some c->c≠it)(h3:∀p∈X.pn++ae,p.1≠it):aA X ae σ H { s with heap:=h',toks:=t' }:=by
 have Ei:∀b u,H b=some u->b≠it:=fun b u e z=>by rw[z,hn] at e;cases e
 refine I.step (g':=s.gens) (d':=s.drawn) (ch:=[it]) (fun b hb=>?_) (fun b o _ _ hc e _=>k b o (fun z=>hc (by simp[z])) e) (fun b o _ _ hc e _=>⟨o.slots,k b o (fun z=>hc (by simp[z])) e⟩) (fun _ _ _ _ n=>n)
  (fun b o hc e=>⟨o,k b o (fun z=>hc (by simp[z])) e⟩) (fun _ _ e=>e) (fun _ _ _ e=>e) (fun b ps e=>⟨#[],by rw[e];simp⟩) (fun m hm=>?_) (fun b u e=>?_) I.bare
 .have e:b=it:=by simpa using hb
  subst e;exact⟨h1,hL,h2,h3⟩
 .obtain⟨o,es,ep,ho,r⟩:=hm;exact⟨o,es,ep,k _ o (cy hL) ho,r⟩
 .refine(I.be b u e).kD (fun c v hc q=>k c v ?_ q) (fun _ q=>q) fun _ _ q=>q;rcases hc with z|z
  .rw[z];exact Ei b u e
  .exact Ei c _ z
theorem aA.tok(I:aA X ae σ H s)(t:Nat):aA X ae σ H { s with toks:=t }:=I.un (h':=s.heap) (t':=t) Un.refl I.be
theorem aA.kept(I:aA X ae σ H s)(k:∀b u,s.heap.get? b=some u->h'.get? b=some u):aA X ae σ H { s with heap:=h',toks:=t' }:=I.un (Un.kept k) (I.be.kept k)
theorem aA.laid(I:aA X ae σ H s)(k:∀b u,s.heap.get? b=some u->h'.get? b=some u)(hp:s.heap.objs.size<=a)(new:b8 X.prog X.w (upd H a o) h' a o):
  aA X ae σ (upd H a o) { s with heap:=h',toks:=t' }:=I.un (Un.laid k hp (I.be.fresh hp)) (I.be.laid k hp new)
theorem aA.write(I:aA X ae σ H s)(mu:LR (H x))(he:e=x\/H e=some (.own x))(k:∀b u,b≠e->s.heap.get? b=some u->h'.get? b=some u)(HI:∃u,h'.get? e=some u)(new:b8 X.prog X.w (upd H x o) h' x o):aA X ae σ (upd H x o) { s with heap:=h',toks:=t' }:=I.un (Un.write mu he k HI) (I.be.write mu he k HI new)
theorem aA.vZ(I:aA X ae σ H s)(h:∀p∈mZ,s.heap.get? p.1=some p.2/\H p.1=none/\p.1≠X.env.locals/\p.1∉X.fs/\∀v,p.2.data≠.cell v):aA X mZ σ H s:=
 ⟨I.ok,I.os,I.bare,I.base,I.loc,I.cell,I.free,I.eJ,fun p hp=>(cJ.mp hp).elim (fun z=>I.pin p (iX _ z)) (h p),I.be,I.len⟩
theorem m6{N:List Str}(hN:N.Nodup){i j:Nat}{x:Str}(a:N[i]?=some x)(b:N[j]?=some x):i=j:=by
 obtain⟨h1,e1⟩:=cC.mp a;obtain⟨h2,e2⟩:=cC.mp b;exact(List.getElem_inj hN).mp (e1.trans e2.symm)
theorem iA{M:Model}{A:Around}{E:Value->Shared->Prop}{i:Nat}{x:Str}{v:V}{u:Value}{Q:Unit->Shared->Prop}(I:aA X ae σ H s)(hN:X.N.Nodup)(hi:X.N[i]?=some x)(hx:Iu X.env.scope x)(r:aX v u)(h:∀s',aA X ae (σ.set i (some v)) H s'->(∃a,Heap.SameBut a s.heap s'.heap/\(a=X.env.locals\/X.env.cells.lookup x=some a))->Q () s')(hf:X.fn x=true\/X.env.scope.names.lookup x=some .local:=by first|exact .inl rfl|exact .inr rfl|assumption):wpAny M A (storeName X.env x u) Q E s:=by
 obtain⟨m,hn,hl⟩:=id I.loc;have Ff:(X.env.scope.kind==.class||(X.env.scope.kind==.module&&X.env.locals != X.env.globals))=false:=by rw[I.ok.kind];rfl
 have hiσ:i<σ.length:=by rw[I.len];exact(cC.mp hi).1
 have BQ:=I.BQ;have v3:∀ {a:Addr} {h':Heap},(∃o,s.heap.get? a=some o/\H a=none)->Heap.SameBut a s.heap h'->jk X.prog X.w H h':=fun {a h'} ha hs b ob e=>by
  obtain⟨_,_,Ej⟩:=ha;refine(I.be b ob e).kD (fun c w' hc q=>(hs.2 c ?_).trans q) (fun _ q=>q) fun _ _ q=>q;rintro rfl;rcases hc with rfl|hc
  .rw[Ej] at e;cases e
  .rw[Ej] at hc;cases hc
 rcases hx with hk|hk
 .refine wpAny_storeName_local hk hn (fun h' HJ hs=>?_) Ff;obtain⟨oL,_,_,BR,_⟩:=id hn;refine h _ ⟨I.ok,I.os,I.bare,⟨fun b o e n hb hx=>?_,fun b o e n hb hx=>?_,I.base.free,fun b o e hx=>?_,I.base.fU,I.base.gY,I.base.iP⟩,⟨_,HJ,fun j y v' e1 e2 e3=>?_⟩,fun y c e=>?_,I.free,I.eJ,fun p hp=>?_,v3 ⟨oL,BR,I.free⟩ hs,by simpa using I.len⟩ ⟨_,hs,.inl rfl⟩
  .exact(hs.2 b (aT (bp (a9 e) I.ok.above))).trans (I.base.keep b o e n hb hx)
  .obtain⟨sl,e1⟩:=I.base.slot b o e n hb hx;exact⟨sl,(hs.2 b (aT (bp (a9 e) I.ok.above))).trans e1⟩
  .obtain⟨o',e1⟩:=I.base.there b o e hx;exact⟨o',(hs.2 b (aT (bp (a9 e) I.ok.above))).trans e1⟩
  .by_cases hj:j=i
   .subst hj;rw[hi] at e1;cases e1;rw[mn hiσ] at e2;cases e2;exact⟨u,r,.inl ⟨hk,by simp⟩⟩
   .rw[oY (cy hj)] at e2;obtain⟨u',r',q⟩:=hl j y v' e1 e2 e3;refine⟨u',r',?_⟩;rcases q with ⟨k,e⟩|⟨k,c,e,z⟩
    .refine .inl ⟨k,?_⟩;have:y≠x:=fun e=>hj (m6 hN e1 (e ▸ hi));simp[this,e]
    .exact .inr ⟨k,c,e,z.sameBut hs (BQ y c e)⟩
  .obtain⟨w',z⟩:=I.cell y c e;exact⟨w',z.sameBut hs (BQ y c e)⟩
  .obtain⟨e,n,ne,nf,d⟩:=I.pin p hp;exact⟨(hs.2 p.1 ne).trans e,n,ne,nf,d⟩
 .have MQ:X.fn x=true:=by
   rcases hf with z|z
   .exact z
   .rw[z] at hk;cases hk
  obtain⟨c,hc⟩:=I.ok.has x (.inl hk);obtain⟨w',z⟩:=I.cell x c hc;refine wpAny_storeName_cell I.ok.kind hk hc z (fun h' Fg hs=>?_);obtain⟨oc,HK,MR⟩:=id z;refine h { s with heap:=h' } ⟨I.ok,I.os,I.bare,⟨fun b o e n hb hx=>?_,fun b o e n hb hx=>?_,I.base.free,fun b o e hx=>?_,I.base.fU,I.base.gY,I.base.iP⟩,⟨m,hn.sameBut hs (cy (BQ x c hc)),fun j y v' e1 e2 e3=>?_⟩,fun y c' e=>?_,I.free,I.eJ,fun p hp=>?_,v3 ⟨oc,HK,I.eJ x c hc⟩ hs,by simpa using I.len⟩ ⟨c,hs,.inr hc⟩
  .exact(hs.2 b (aT (bp (a9 e) (I.ok.Fe x c MQ hc)))).trans (I.base.keep b o e n hb hx)
  .obtain⟨sl,e1⟩:=I.base.slot b o e n hb hx;exact⟨sl,(hs.2 b (aT (bp (a9 e) (I.ok.Fe x c MQ hc)))).trans e1⟩
  .obtain⟨o',e1⟩:=I.base.there b o e hx;exact⟨o',(hs.2 b (aT (bp (a9 e) (I.ok.Fe x c MQ hc)))).trans e1⟩
  .by_cases hj:j=i
   .subst hj;rw[hi] at e1;cases e1;rw[mn hiσ] at e2;cases e2;exact⟨u,r,.inr ⟨.inl hk,c,hc,Fg⟩⟩
   .rw[oY (cy hj)] at e2;obtain⟨u',r',q⟩:=hl j y v' e1 e2 e3;refine⟨u',r',?_⟩;rcases q with q|⟨k,c',e,z'⟩
    .exact .inl q
    .refine .inr ⟨k,c',e,z'.sameBut hs ?_⟩;rintro rfl;exact hj (m6 hN e1 (I.ok.inj _ _ _ e hc ▸ hi))
  .by_cases Qu:c'=c
   .subst Qu;exact⟨_,Fg⟩
   .obtain⟨w2,z2⟩:=I.cell y c' e;exact⟨w2,z2.sameBut hs Qu⟩
  .obtain⟨e,n,ne,nf,d⟩:=I.pin p hp;refine⟨(hs.2 p.1 ?_).trans e,n,ne,nf,d⟩;intro q;rw[q,HK] at e;have q':oc=p.2:=bA e;exact d w' (by rw[<-q'];exact MR)
theorem g8(I:aA X ae σ H s)(hN:X.N.Nodup)(hi:X.N[i]?=some x)(hx:Iu X.env.scope x)(r:aX v u)(h:∀s',aA X ae (σ.set i (some v)) H s'->Q () s')(hf:X.fn x=true\/X.env.scope.names.lookup x=some .local:=by first|exact .inl rfl|exact .inr rfl|assumption):wpAny M A (storeName X.env x u) Q E s:=
 iA I hN hi hx r (fun s' I' _=>h s' I') hf
theorem aA.Ek(I:aA X ae σ H s)(ho:s'.os=s.os)(u:Un (i0 X.stack) ch H H' s.heap s'.heap)(be:jk X.prog X.w H' s'.heap)(hg:AllBare s'.gens)(Bw:∀b∈ch,(b∈X.ex\/X.s₀.heap.objs.size<=b)/\b≠X.env.locals/\(∀x c,X.env.cells.lookup x=some c->c≠b)/\∀p∈X.pn++ae,p.1≠b):aA X ae σ H' s':=by
 obtain⟨h',g',d',t',o'⟩:=s';have e:o'=s.os:=ho;subst e;exact I.call (g':=g') (t':=t') (d':=d') u be hg Bw
end
abbrev XK:=Value->Option Addr->Hp->Prop
abbrev St:=List (Option V)
abbrev VK:=V->Hp->Prop
abbrev TE:=St->Hp->VK->Prop
abbrev TT:=St->Hp->(Bool->Hp->Prop)->Prop
abbrev TA:=St->Hp->(List V->Hp->Prop)->Prop
structure rG where
 nx:St->Hp->Prop
 rt:VK
 bk:St->Hp->Prop:=fun _ _=>False
 ct:St->Hp->Prop:=fun _ _=>False
abbrev TS:=rG->St->Hp->Prop
def EP(X:Cx)(ae:List (Addr×Obj))(σ:St)(Q:VK)(u:Value)(s':Shared):Prop:=∃v H',aA X ae σ H' s'/\aX v u/\Q v H'
def TP(X:Cx)(ae:List (Addr×Obj))(σ:St)(Q:Bool->Hp->Prop)(b:Bool)(s':Shared):Prop:=∃H',aA X ae σ H' s'/\Q b H'
def AP(X:Cx)(ae:List (Addr×Obj))(σ:St)(Q:List V->Hp->Prop)(us:List Value)(s':Shared):Prop:=∃vs H',aA X ae σ H' s'/\aL vs us/\Q vs H'
def SP(X:Cx)(ae:List (Addr×Obj))(D:rG)(f:Flow)(s':Shared):Prop:=
 match f with
 |.next=>∃σ' H',aA X ae σ' H' s'/\D.nx σ' H'
 |.brk=>∃σ' H',aA X ae σ' H' s'/\D.bk σ' H'
 |.cont=>∃σ' H',aA X ae σ' H' s'/\D.ct σ' H'
 |.ret u=>∃v σ' H',aA X ae σ' H' s'/\aX v u/\D.rt v H'
def PE(X:Cx)(e:Expr)(t:TE):Prop:=
 ∀ (ae:List (Addr×Obj)) (s:Shared) (σ:St) (H:Hp) (Q:VK),aA X ae σ H s->t σ H Q->wpAny (model X.prog X.w) X.A (eval e X.env) (EP X ae σ Q) X.xe s
def PT(X:Cx)(e:Expr)(t:TT):Prop:=
 ∀ (ae:List (Addr×Obj)) (s:Shared) (σ:St) (H:Hp) (Q:Bool->Hp->Prop),aA X ae σ H s->t σ H Q->wpAny (model X.prog X.w) X.A (isTrue e X.env (eval e X.env)) (TP X ae σ Q) X.xe s
def PW(X:Cx)(e:Expr)(t:TT):Prop:=
 ∀ (v4:Sem Value) (ae:List (Addr×Obj)) (s:Shared) (σ:St) (H:Hp) (Q:Bool->Hp->Prop),aA X ae σ H s->t σ H Q->wpAny (model X.prog X.w) X.A (isTrue e X.env v4) (TP X ae σ Q) X.xe s
theorem PW.pt(h:PW X e t):PT X e t:=h _
def PA(X:Cx)(es:List Expr)(t:TA):Prop:=
 ∀ (pos:Pos) (ae:List (Addr×Obj)) (s:Shared) (σ:St) (H:Hp) (Q:List V->Hp->Prop),aA X ae σ H s->t σ H Q->wpAny (model X.prog X.w) X.A (spliced (backTo pos (starEach es X.env))) (AP X ae σ Q) X.xe s
def PS(X:Cx)(st:Stmt)(t:TS):Prop:=
 ∀ (ae:List (Addr×Obj)) (s:Shared) (σ:St) (H:Hp) (D:rG),aA X ae σ H s->t D σ H->wpAny (model X.prog X.w) X.A (exec st X.env) (SP X ae D) X.xe s
def om(X:Cx)(st:List Stmt)(t:TS):Prop:=
 ∀ (ae:List (Addr×Obj)) (s:Shared) (σ:St) (H:Hp) (D:rG),aA X ae σ H s->t D σ H->wpAny (model X.prog X.w) X.A (execs st X.env) (SP X ae D) X.xe s
theorem bC(h:wpAny M A t Q E s)(hQ:∀a s,Q a s->Q' a s):wpAny M A t Q' E s:=eX h hQ fun _ _ x=>x
section
variable {X:Cx}
def cq(i:Nat):TE:=fun σ H Q=>∃v,σ[i]?=some (some v)/\Q v H
def tC(v:V):TE:=fun _ H Q=>Q v H
theorem Fh(hN:X.N[i]?=some x)(hv:Ir X.env.scope x)(hd:(x==("__debug__":Str))=false:=by decide)(lx:(x==("__classdict__":Str))=false:=by decide):PE X (.Name x pos) (cq i):=by
 intro ae s σ H Q I h;obtain⟨v,e,h⟩:=h;obtain⟨m,hn,hl⟩:=I.loc;obtain⟨u,r,l⟩:=hl i x v hN e hv;have cN:EP X ae σ Q u s:=⟨v,H,I,r,h⟩
 rcases l with ⟨hk,hm⟩|⟨hk,c,hc,v5⟩
 .exact kC (ue I.ok.kind hk hn hm cN) hd
 .rcases hk with hk|hk
  .exact kC (wpAny_loadName_cell I.ok.kind hk hc v5 cN) hd
  .exact kC (uq I.ok.kind hk hc v5 cN lx) hd
theorem au{i j pos}:PE X (.Constant (.int i) j pos) (tC (.int i)):=fun _ _ _ H _ I h=>wpAny_Constant_int ⟨.int i,H,I.tok _,⟨_,rfl⟩,h⟩
theorem eS{b j pos}:PE X (.Constant (.bool b) j pos) (tC (.bl b)):=fun _ _ _ H _ I h=>Constant_bool ⟨.bl b,H,I,rfl,h⟩
theorem dW{j pos}:PE X (.Constant .none j pos) (tC .bt):=fun _ _ _ H _ I h=>Constant_none ⟨.bt,H,I,rfl,h⟩
theorem kG{x j pos}:PE X (.Constant (.str x) j pos) (tC (.str x)):=fun _ _ _ H _ I h=>Calls.Constant_str ⟨.str x,H,I.tok _,⟨_,rfl⟩,h⟩
def Gl(X:Cx)(x:Str):Prop:=X.env.kindOf x=some .globalImplicit
theorem jI(I:aA X ae σ H s)(hg:Gl X x)(hm:X.mg x=some u)(h:Q u s)(hd:(x==("__debug__":Str))=false:=by decide):wpAny (model X.prog X.w) X.A (eval (.Name x pos) X.env) Q E s:=
 tQ I.ok.kind hg (Calls.loadGlobal_global (by rw[I.ok.glob];exact I.mod.glob.keeps I.bk) hm h) hd
theorem kI(I:aA X ae σ H s)(hg:Gl X x)(hm:X.mg x=none)(hv:bootBuiltins x=some u)(h:Q u s)(hn:x≠"__name__":=by decide)(hd:(x==("__debug__":Str))=false:=by decide):wpAny (model X.prog X.w) X.A (eval (.Name x pos) X.env) Q E s:=by
 obtain⟨mb,h1,h2⟩:=I.mod.blt;exact tQ I.ok.kind hg (Calls.loadGlobal_builtin (by rw[I.ok.glob];exact I.mod.glob.keeps I.bk) hm (by rw[I.ok.blt];exact h1.keeps I.bk) ((h2 x hn).trans hv) h) hd
theorem bv(hg:Gl X x)(hm:X.mg x=some u)(r:aX v u)(hd:(x==("__debug__":Str))=false:=by decide):PE X (.Name x pos) (tC v):=
 fun _ _ _ H _ I h=>jI I hg hm ⟨v,H,I,r,h⟩ hd
theorem fX(hg:Gl X x)(hm:X.mg x=none)(hv:bootBuiltins x=some u)(r:aX v u)(hn:x≠"__name__":=by decide)(hd:(x==("__debug__":Str))=false:=by decide):PE X (.Name x pos) (tC v):=
 fun _ _ _ H _ I h=>kI I hg hm hv ⟨v,H,I,r,h⟩ hn hd
variable {a b:Expr} {ta tb:TE} {pos:Pos}
def tB(t:TE):TT:=fun σ H Q=>t σ H fun x H1=>∃c,x=.bl c/\Q c H1
theorem cr(h:PE X e t)(he:∀v4,isTrue e X.env v4=(do let v <- v4;standAt e.pos;holding [v] (truthy v)):=by intro _;rfl):PT X e (tB t):=by
 intro ae s σ H Q I hw;refine isTrue_plain (bC (h ae s σ H _ I hw) fun v s1 ⟨x,H1,I1,r1,q1⟩=>?_) (he _);obtain⟨d,rfl,q⟩:=q1;cases r1;exact i_ ⟨H1,I1,q⟩
variable {tA Qv:TT} {oA:List Expr}
def R9(t u:TT):TT:=fun σ H Q=>t σ H fun c H1=>if c=true then Q true H1 else u σ H1 Q
def MS(t:TT):TT:=fun σ H Q=>t σ H fun c H1=>Q (!c) H1
theorem uK(ha:PT X a tA):PW X (.BoolOp .Or [a] pos) tA:=by
 intro wh ae s σ H Q I h;refine isTrue_or (bC (ha ae s σ H Q I h) fun c s1 e=>?_);cases c with
 |false=>exact isTrue_or_nil e
 |true=>exact e
theorem yV(ha:PT X a tA)(hb:PW X (.BoolOp .Or (b::oA) pos) Qv):PW X (.BoolOp .Or (a::b::oA) pos) (R9 tA Qv):=by
 intro wh ae s σ H Q I h;refine isTrue_or (bC (ha ae s σ H _ I h) fun c s1 ⟨H1,I1,q1⟩=>?_);cases c with
 |true=>exact⟨H1,I1,q1⟩
 |false=>exact hb wh ae s1 σ H1 Q I1 q1
theorem cz(ha:PT X a tA):PT X (.UnaryOp .Not a pos) (MS tA):=by
 intro ae s σ H Q I h;exact isTrue_not (ha ae s σ H (fun c H1=>Q (!c) H1) I h)
def Ix(ta tb:TE):TE:=fun σ H Q=>ta σ H fun x H1=>∃c,x=.bl c/\if c=true then tb σ H1 Q else Q (.bl false) H1
def Iy(ta:TE):TE:=fun σ H Q=>ta σ H fun x H1=>∃c,x=.bl c/\Q (.bl (!c)) H1
theorem kJ{op}(h:PE X a t):PE X (.BoolOp op [a] pos) t:=fun ae s σ H Q I hw=>BoolOp_one (h ae s σ H Q I hw)
theorem jm(ha:PE X a ta)(hb:PE X (.BoolOp .And (b::oA) pos) tb):PE X (.BoolOp .And (a::b::oA) pos) (Ix ta tb):=by
 intro ae s σ H Q I h;refine BoolOp_and (bC (ha ae s σ H _ I h) fun v s1 ⟨x,H1,I1,r1,q1⟩=>?_);obtain⟨c,rfl,q1⟩:=q1;cases r1;refine i_ ?_;cases c with
 |true=>exact hb ae s1 σ H1 Q I1 q1
 |false=>exact⟨.bl false,H1,I1,rfl,q1⟩
theorem Fj(ha:PE X a ta):PE X (.UnaryOp .Not a pos) (Iy ta):=by
 intro ae s σ H Q I h;refine UnaryOp_ (bC (ha ae s σ H _ I h) fun v s1 ⟨x,H1,I1,r1,q1⟩=>?_);obtain⟨c,rfl,q1⟩:=q1;cases r1;exact not_of (i_ ⟨.bl (!c),H1,I1,rfl,q1⟩)
def Qw(t:TT)(ta tb:TE):TE:=fun σ H Q=>t σ H fun c H1=>if c=true then ta σ H1 Q else tb σ H1 Q
theorem jJ(hc:PT X c tA)(ha:PE X a ta)(hb:PE X b tb):PE X (.IfExp c a b pos) (Qw tA ta tb):=by
 intro ae s σ H Q I h;refine wpAny_IfExp (bC (hc ae s σ H _ I h) fun d s1 ⟨H1,I1,q1⟩=>?_);cases d with
 |true=>exact ha ae s1 σ H1 Q I1 q1
 |false=>exact hb ae s1 σ H1 Q I1 q1
end
def bg(K:PySem.W.Frag)(H:Hp)(a:Addr)(xs:List V):Prop:=
 Rd H a (.lst xs)\/
  ∃ (o:Obj) (its:Array Value) (n:Nat),K.lookup a=some o/\o.cls=.type "list"/\o.dict=none/\o.data=.seq its n/\its.size<=sizeLine/\aL xs its.toList
def cu(K:PySem.W.Frag)(H:Hp)(a:Addr)(xs:List V):Prop:=
 Rd H a (.tup xs)\/
  ∃ (o:Obj) (its:Array Value) (n:Nat),K.lookup a=some o/\o.cls=.type "tuple"/\o.data=.seq its n/\its.size<=sizeLine/\aL xs its.toList
def MT:Value->Option V
 |.none=>some .bt
 |.bool b=>some (.bl b)
 |.int i _=>some (.int i)
 |.str x _=>some (.str x)
 |.bytes b _=>some (.yu b)
 |.float b _=>some (.Fc b)
 |.ref a=>some (.ref a)
 |.type n=>some (.ty n)
 |_=>none
theorem aX.abs(r:aX x u):MT u=some x:=by
 cases x with
 |bt=>cases r;rfl
 |bl _=>cases r;rfl
 |int _=>obtain⟨t,rfl⟩:=r;rfl
 |str _=>obtain⟨t,rfl⟩:=r;rfl
 |yu _=>obtain⟨t,rfl⟩:=r;rfl
 |Fc _=>obtain⟨t,rfl⟩:=r;rfl
 |ref _=>cases r;rfl
 |ty _=>cases r;rfl
theorem aX.inj(r:aX x u)(q:aX y u):x=y:=bA (r.abs.symm.trans q.abs)
theorem aL.inj:∀ {xs ys:List V} {us:List Value},aL xs us->aL ys us->xs=ys
 |_,_,_,.nil,.nil=>rfl
 |_,_,_,.cons r t,.cons r' t'=>by rw[r.inj r',aL.inj t t']
section
variable {X:Cx} {ae:List (Addr×Obj)} {σ:St} {H:Hp} {s:Shared} {a:Addr} {xs ys:List V}
theorem bg.of{K:PySem.W.Frag}(h:H a=some (.lst xs)):bg K H a xs:=.inl (.inl h)
theorem cu.of{K:PySem.W.Frag}(h:H a=some (.tup xs)):cu K H a xs:=.inl (.inl h)
theorem aA.list(I:aA X ae σ H s)(h:bg X.K H a xs):∃its:List Value,aL xs its/\PlainL s.heap a its.toArray/\xs.length<=sizeLine:=by
 rcases h with h|⟨o,its,n,hk,hc,hd,hs,hz,r⟩
 .obtain⟨z,its,n,r,e⟩:=h.ok I.be;exact⟨its,r,⟨_,n,e,rfl,rfl,rfl⟩,z⟩
 .refine⟨its.toList,r,⟨o,n,I.jl a o hk,hc,hd,by simpa using hs⟩,?_⟩;have e:=r.length;simp only[mr] at e;lia
theorem aA.tuple(I:aA X ae σ H s)(h:cu X.K H a xs):∃its:List Value,aL xs its/\IsTup s.heap a its.toArray/\xs.length<=sizeLine:=by
 rcases h with h|⟨o,its,n,hk,hc,hs,hz,r⟩
 .obtain⟨z,its,r,p⟩:=h.ok I.be;exact⟨its,r,p.tup,z⟩
 .refine⟨its.toList,r,⟨o,I.jl a o hk,hc,n,by simpa using hs⟩,?_⟩;have e:=r.length;simp only[mr] at e;lia
theorem aA.yW(I:aA X ae σ H s)(h:bg X.K H a xs)(h':bg X.K H a ys):xs=ys:=by
 obtain⟨its,r,⟨o,n,e,_,_,d⟩,_⟩:=I.list h;obtain⟨its',r',⟨o',n',e',_,_,d'⟩,_⟩:=I.list h';rw[e] at e';cases e';rw[d] at d';injection d' with d1 _;have:its=its':=by simpa using congrArg Array.toList d1
 subst this;exact r.inj r'
theorem aA.kK(I:aA X ae σ H s)(h:cu X.K H a xs)(h':cu X.K H a ys):xs=ys:=by
 obtain⟨its,r,⟨o,e,_,n,d⟩,_⟩:=I.tuple h;obtain⟨its',r',⟨o',e',_,n',d'⟩,_⟩:=I.tuple h';rw[e] at e';cases e';rw[d] at d';injection d' with d1 _;have:its=its':=by simpa using congrArg Array.toList d1
 subst this;exact r.inj r'
end
abbrev Cx.wish(X:Cx)(E:Value->Shared->Prop):Cx:={ X with xe:=E }
abbrev Cx.By(X:Cx):Cx:=X.wish fun _ _=>False
theorem Cx.Ok.wish{X:Cx}(ok:X.Ok)(E:Value->Shared->Prop):(X.wish E).Ok:=
 ⟨ok.mod,ok.kind,ok.glob,ok.blt,ok.above,ok.inj,ok.has,ok.Fe,ok.hd,ok.frames,ok.yv,ok.Iv,ok.bs,ok.xg,ok.kF,ok.xh,ok.g7,ok.yw⟩
theorem Cx.Ok.g9{X:Cx}{E:Value->Shared->Prop}(ok:(X.wish E).Ok):X.Ok:=
 ⟨ok.mod,ok.kind,ok.glob,ok.blt,ok.above,ok.inj,ok.has,ok.Fe,ok.hd,ok.frames,ok.yv,ok.Iv,ok.bs,ok.xg,ok.kF,ok.xh,ok.g7,ok.yw⟩
section
variable {X:Cx} {ae:List (Addr×Obj)} {σ:St} {H:Hp} {s:Shared} {E:Value->Shared->Prop}
theorem aA.wish(I:aA X ae σ H s)(E:Value->Shared->Prop):aA (X.wish E) ae σ H s:=⟨I.ok.wish E,I.os,I.bare,I.base,I.loc,I.cell,I.free,I.eJ,I.pin,I.be,I.len⟩
theorem aA.g9(I:aA (X.wish E) ae σ H s):aA X ae σ H s:=⟨I.ok.g9,I.os,I.bare,I.base,I.loc,I.cell,I.free,I.eJ,I.pin,I.be,I.len⟩
theorem SP.g9(h:SP (X.wish E) ae D f s'):SP X ae D f s':=by
 cases f with
 |next=>obtain⟨σ',H',I,q⟩:=h;exact⟨σ',H',I.g9,q⟩
 |brk=>obtain⟨σ',H',I,q⟩:=h;exact⟨σ',H',I.g9,q⟩
 |cont=>obtain⟨σ',H',I,q⟩:=h;exact⟨σ',H',I.g9,q⟩
 |ret u=>obtain⟨v,σ',H',I,r,q⟩:=h;exact⟨v,σ',H',I.g9,r,q⟩
theorem om.By{st:List Stmt}{t:TS}(h:om X.By st t):om X st t:=fun ae s σ H D I hw=>
 eX (h ae s σ H D (I.wish _) hw) (fun _ _ q=>q.g9) fun _ _ z=>False.elim z
end
section
variable {X:Cx} {st:Stmt} {oA:List Stmt} {t u:TS} {e:Expr} {te:TE} {pos:Pos}
def Iz:TS:=fun D σ H=>D.nx σ H
def IA(t u:TS):TS:=fun D σ H=>t { D with nx:=u D } σ H
theorem aN:om X [] Iz:=fun _ _ σ H _ I h=>mL ⟨σ,H,I,h⟩
theorem ah(h1:PS X st t)(h2:om X oA u):om X (st::oA) (IA t u):=by
 intro ae s σ H D I h;refine wpAny_execs_cons (bC (h1 ae s σ H { D with nx:=u D } I h) fun f s1 q=>?_);cases f with
 |next=>
  obtain⟨σ',H',I',q⟩:=q;exact h2 ae s1 σ' H' D I' q
 |ret v=>exact q
 |brk=>exact q
 |cont=>exact q
theorem ai(h1:PS X st t):om X [st] t:=by
 intro ae s σ H D I h;refine wpAny_execs_cons (bC (h1 ae s σ H D I h) fun f s1 q=>?_);cases f with
 |next=>exact mL q
 |ret v=>exact q
 |brk=>exact q
 |cont=>exact q
theorem aA.quiet(I:aA X ae σ H s):interactive X.env=false:=by simp[interactive,I.ok.kind]
def IC(te:TE):TS:=fun D σ H=>te σ H fun _ H1=>D.nx σ H1
theorem cH(he:PE X e te)(hs:swapsWith e none pos.line X.env=pure false:=by rfl):PS X (.Expr e pos) (IC te):=by
 intro ae s σ H D I h;exact wpAny_Expr_any (bC (he ae s σ H _ I h) fun v s1 ⟨x,H1,I1,r1,q1⟩=>⟨σ,H1,I1,q1⟩) I.quiet hs
def ID(te:TE):TS:=fun D σ H=>te σ H D.rt
theorem aG(he:PE X e te):PS X (.Return (some e) pos) (ID te):=by
 intro ae s σ H D I h;exact wpAny_Return_some (bC (he ae s σ H _ I h) fun v s1 ⟨x,H1,I1,r1,q1⟩=>⟨x,σ,H1,I1,r1,q1⟩)
def IE(c:TT)(t u:TS):TS:=fun D σ H=>c σ H fun b H1=>if b=true then t D σ H1 else u D σ H1
theorem bq(hc:PT X c tc)(ha:om X a t)(hb:om X b u):PS X (.If c a b pos) (IE tc t u):=by
 intro ae s σ H D I h;refine wpAny_If (bC (hc ae s σ H _ I h) fun d s1 ⟨H1,I1,q1⟩=>?_);cases d with
 |true=>exact ha ae s1 σ H1 D I1 q1
 |false=>exact hb ae s1 σ H1 D I1 q1
def Fk:TS:=fun _ _ _=>False
theorem cf:om X Vu Fk:=fun _ _ _ _ _ _ h=>h.elim
end
abbrev TG:=V->St->Hp->(St->Hp->Prop)->Prop
abbrev IF:=List V->St->Hp->(St->Hp->Prop)->Prop
def PG(X:Cx)(Fl:Expr)(t:TG):Prop:=
 ∀ (ae:List (Addr×Obj)) (s:Shared) (σ:St) (H:Hp) (v:V) (u:Value) (Q:St->Hp->Prop),aA X ae σ H s->aX v u->t v σ H Q->
  wpAny (model X.prog X.w) X.A (assign Fl X.env u) (fun _ s'=>∃σ' H',aA X ae σ' H' s'/\Q σ' H') X.xe s
def LX(X:Cx)(ts:List Expr)(t:IF):Prop:=
 ∀ (ae:List (Addr×Obj)) (s:Shared) (σ:St) (H:Hp) (vs:List V) (us:List Value) (Q:St->Hp->Prop),aA X ae σ H s->aL vs us->t vs σ H Q->
  wpAny (model X.prog X.w) X.A (assignInOrder ((assignEach ts X.env).map (·.2)) us) (fun _ s'=>∃σ' H',aA X ae σ' H' s'/\Q σ' H') X.xe s
abbrev BS:=V->V->V->Hp->(Hp->Prop)->Prop
def Fm(X:Cx)(t:BS):Prop:=
 ∀ (ae:List (Addr×Obj)) (s:Shared) (σ:St) (H:Hp) (o i v:V) (ov iv u:Value) (Q:Hp->Prop),aA X ae σ H s->aX o ov->aX i iv->aX v u->t o i v H Q->
  wpAny (model X.prog X.w) X.A (setItem ov iv u) (fun _ s'=>∃H',aA X ae σ H' s'/\Q H') X.xe s
abbrev IG:=V->V->Hp->VK->Prop
def II(X:Cx)(op:Operator)(t:IG):Prop:=
 ∀ (ae:List (Addr×Obj)) (s:Shared) (σ:St) (H:Hp) (x y:V) (v u:Value) (Q:VK),aA X ae σ H s->aX x v->aX y u->t x y H Q->
  wpAny (model X.prog X.w) X.A (inplaceOp op v u) (EP X ae σ Q) X.xe s
section
variable {X:Cx} {pos:Pos}
def cA(i:Nat):TG:=fun v σ H Q=>Q (σ.set i (some v)) H
theorem aH(hN:X.N.Nodup)(hi:X.N[i]?=some x)(hx:Iu X.env.scope x)(hf:X.fn x=true\/X.env.scope.names.lookup x=some .local:=by first|exact .inl rfl|exact .inr rfl|assumption):PG X (.Name x pos) (cA i):=by
 intro ae s σ H v u Q I r h;exact wpAny_assign_Name (g8 I hN hi hx r (fun s' I'=>⟨_,H,I',h⟩) hf)
def yX:IF:=fun vs σ H Q=>vs=[]/\Q σ H
def jK(t:TG)(u:IF):IF:=fun vs σ H Q=>∃v r,vs=v::r/\t v σ H fun σ' H'=>u r σ' H' Q
theorem fZ:LX X [] yX:=by
 intro ae s σ H vs us Q I r h;obtain⟨e,h⟩:=h;subst e;cases r;exact assignInOrder_nil ⟨σ,H,I,h⟩
theorem bT(h1:PG X e t)(h2:LX X es u)(hs:(assignEach (e::es) X.env).map (·.2)=assign e X.env::(assignEach es X.env).map (·.2):=by rfl):LX X (e::es) (jK t u):=by
 intro ae s σ H vs us Q I r h;obtain⟨v,vr,e1,h⟩:=h;subst e1;cases r with
 |cons r rr=>
  rw[hs];refine assignInOrder_cons (bC (h1 ae s σ H _ _ _ I r h) fun _ s1 ⟨σ1,H1,I1,q1⟩=>?_);exact h2 ae s1 σ1 H1 _ _ Q I1 rr q1
def yY(K:PySem.W.Frag)(n:Nat)(t:IF):TG:=fun v σ H Q=>∃a xs,v=.ref a/\cu K H a xs/\xs.length=n/\t xs σ H Q
theorem jn(hc:X.calm=true)(h:LX X es t)(hn:(assignEach es X.env).length=n:=by rfl)(iB:(assignEach es X.env).findIdx? (·.1)=none:=by rfl):PG X (.Tuple es k pos) (yY X.K n t):=by
 intro ae s σ H v u Q I r hw;obtain⟨a,xs,e1,hq,hl,hw⟩:=hw;subst e1;cases r;obtain⟨its,rv,ht,hz⟩:=I.tuple hq;refine assign_Tuple_tuple (I.ok.hd hc) ht (by simp[hn,<-hl,rv.length]) iB fun h' hx=>?_;have I1:aA X ae σ H { s with heap:=h' }:=I.kept (t':=s.toks) fun b o e=>hx b o (aT (a9 e)) e;exact h ae _ σ H xs _ Q I1 (by simpa using rv) hw
def MU(to ti:TE)(t:BS):TG:=fun v σ H Q=>to σ H fun o H1=>ti σ H1 fun i H2=>t o i v H2 fun H3=>Q σ H3
theorem qx(ho:PE X o to)(hi:PE X i ti)(hs:Fm X t)(ha:∀v,assign (.Subscript o i pos) X.env v=(do
   let ov <- holding [v] (eval o X.env)
   let iv <- holding [v,ov] (eval i X.env)
   standAt pos
   holding [v,ov,iv] (setItem ov iv v)
   release [v,ov,iv] []):=by intro _;rfl):PG X (.Subscript o i pos) (MU to ti t):=by
 intro ae s σ H v u Q I r h;rw[ha];refine ao (gQ (bC (ho ae s σ H _ I h) fun ov s1 ⟨x,H1,I1,r1,q1⟩=>?_));refine ao (gQ (bC (hi ae s1 σ H1 _ I1 q1) fun iv s2 ⟨y,H2,I2,r2,q2⟩=>?_));refine ao (ku (ao (gQ (bC (hs ae s2 σ H2 x y v ov iv u _ I2 r1 r2 r q2) fun _ s3 ⟨H3,I3,q3⟩=>?_))));exact wpAny_release ⟨σ,H3,I3,q3⟩
def xi(te:TE)(g:TG):TS:=fun D σ H=>te σ H fun x H1=>g x σ H1 D.nx
theorem m9(he:PE X e te)(hg:PG X tg g)(hs:swapsWithSole [tg] e pos.line X.env=pure false:=by rfl)(hw:swappedStores [tg] e X.env=pure none:=by rfl)(h1:(assignEach [tg] X.env).map (·.2)=[assign tg X.env]:=by rfl):PS X (.Assign [tg] e pos) (xi te g):=by
 intro ae s σ H D I h;refine wpAny_Assign_stores (bC (he ae s σ H _ I h) fun v s1 ⟨x,H1,I1,r1,q1⟩=>?_) hs hw;rw[h1];exact bC (hg ae s1 σ H1 x v _ I1 r1 q1) fun _ s2 q=>q
theorem aM(hN:X.N.Nodup)(hi:X.N[i]?=some x)(hx:Iu X.env.scope x)(he:PE X e te)(hs:swapsWith e (some (.Name x xj)) pos.line X.env=pure false:=by rfl)(hf:X.fn x=true\/X.env.scope.names.lookup x=some .local:=by first|exact .inl rfl|exact .inr rfl|assumption):
  PS X (.Assign [.Name x xj] e pos) (xi te (cA i)):=by
 intro ae s σ H D I h;refine wpAny_Assign_Name (bC (he ae s σ H _ I h) fun v s1 ⟨y,H1,I1,r1,q1⟩=>?_) hs;exact g8 I1 hN hi hx r1 (fun s2 I2=>⟨_,H1,I2,q1⟩) hf
def MV(i j:Nat)(ta:TA):TS:=fun D σ H=>ta σ H fun vs H1=>∃v w,vs=[v,w]/\D.nx ((σ.set i (some v)).set j (some w)) H1
theorem Fn{kt k2 HL}(hc:X.calm=true)(hN:X.N.Nodup)(hi:X.N[i]?=some x)(hj:X.N[j]?=some y)(R_:i≠j)(hx:X.env.scope.names.lookup x=some .local)(hy:X.env.scope.names.lookup y=some .local)(ha:PA X [a,b] ta)(hw:swappedStores [.Tuple [.Name x px,.Name y py] kt pt] (.Tuple [a,b] k2 HL) X.env=pure (some [x,y]))(hs:swapsWithSole [.Tuple [.Name x px,.Name y py] kt pt] (.Tuple [a,b] k2 HL) pos.line X.env=pure false:=by rfl):
  PS X (.Assign [.Tuple [.Name x px,.Name y py] kt pt] (.Tuple [a,b] k2 HL) pos) (MV i j ta):=by
 intro ae s σ H D I h;rw[exec_Assign_arm];refine ao (ku ?_);rw[hs];refine ao (wpAny_pure ?_);rw[al (by decide)];refine ao (Tuple_ (bC (ha _ ae s σ H _ I h) fun us s1 ⟨vs,H1,I1,r1,q1⟩=>?_));obtain⟨v,w,e1,q1⟩:=q1;subst e1;obtain⟨u1,u2,rfl,rv,Fo⟩:∃u1 u2,us=[u1,u2]/\aX v u1/\aX w u2:=by
  cases r1 with
  |cons p q=>
   cases q with
   |cons p' q'=>
    cases q';exact⟨_,_,rfl,p,p'⟩
 refine gN ?_ (by show 2<=sizeLine;decide);have I2:aA X ae σ H1 { s1 with heap:=s1.heap.push { cls:=.type "tuple",data:=.seq [u1,u2].toArray } }:=I1.kept (t':=s1.toks) fun b o e=>bf _ e;rw[hw];refine ao (wpAny_pure ?_);show wpAny (model X.prog X.w) X.A (do rule "assign.swapped-stores";let items <- unpackItems (.ref s1.heap.objs.size) 2 none;assignInOrder [fun v=>bindName X.env y v,fun v=>bindName X.env x v] items.reverse;pure Flow.next) _ _ _;refine ao (dS (ao (unpackItems_tuple (items:=#[u1,u2]) (I.ok.hd hc) (IsTup.new s1.heap _) fun h' uL=>?_)));have I3:=I2.kept (h':=h') (t':=s1.toks) fun b o e=>uL b o (aT (a9 e)) e;show wpAny _ _ (assignInOrder [fun v=>bindName X.env y v,fun v=>bindName X.env x v] [u2,u1] >>= fun _=>pure Flow.next) _ _ _;refine ao (assignInOrder_cons (wpAny_bindName (g8 I3 hN hj (.inl hy) Fo (fun s2 I4=>?_) (.inr hy))));refine assignInOrder_cons (wpAny_bindName (g8 I4 hN hi (.inl hx) rv (fun s3 I5=>assignInOrder_nil (wpAny_pure ?_)) (.inr hx)));rw[List.set_comm _ _ (cy R_)] at I5;exact⟨_,H1,I5,q1⟩
def MX(i:Nat)(te:TE)(ti:IG):TS:=fun D σ H=>∃x,σ[i]?=some (some x)/\te σ H fun y H1=>ti x y H1 fun z H2=>D.nx (σ.set i (some z)) H2
theorem kL(hN:X.N.Nodup)(hi:X.N[i]?=some x)(hx:Iu X.env.scope x)(he:PE X e te)(ho:II X op ti)(hf:X.fn x=true\/X.env.scope.names.lookup x=some .local:=by first|exact .inl rfl|exact .inr rfl|assumption):
  PS X (.AugAssign (.Name x xj) op e pos) (MX i te ti):=by
 intro ae s σ H D I h;obtain⟨v,e1,h⟩:=h;obtain⟨m,hn,hl⟩:=I.loc;have MZ:Ir X.env.scope x:=by rcases hx with k|k;exact .inl k;exact .inr (.inl k)
 obtain⟨u,r,l⟩:=hl i x v hi e1 MZ;refine wpAny_AugAssign_Name ?_;have go:wpAny (model X.prog X.w) X.A (eval e X.env) (fun w s₂=>wpAny (model X.prog X.w) X.A (inplaceOp op u w) (fun r s₃=>wpAny (model X.prog X.w) X.A (storeName X.env x r) (fun _=>SP X ae D .next) X.xe s₃) X.xe s₂) X.xe s:=by
  refine bC (he ae s σ H _ I h) fun w s1 ⟨y,H1,I1,r1,q1⟩=>?_;refine bC (ho ae s1 σ H1 v y u w _ I1 r r1 q1) fun z s2 ⟨zv,H2,I2,r2,q2⟩=>?_;exact g8 I2 hN hi hx r2 (fun s3 I3=>⟨_,H2,I3,q2⟩) hf
 rcases l with ⟨hk,hm⟩|⟨hk,c,hc,v5⟩
 .exact ue I.ok.kind hk hn hm go
 .rcases hk with hk|hk
  .exact wpAny_loadName_cell I.ok.kind hk hc v5 go
  .rcases hx with k|k
   .have:X.env.scope.names.lookup x=some .free:=hk;rw[k] at this;cases this
   .have:X.env.scope.names.lookup x=some .free:=hk;rw[k] at this;cases this
def IJ(to ti te:TE)(BU:V->V->Hp->VK->Prop)(LY:IG)(BV:BS):TS:=fun D σ H=>to σ H fun o H1=>ti σ H1 fun i H2=>BU o i H2 fun x H3=>te σ H3 fun y H4=>LY x y H4 fun z H5=>BV o i z H5 fun H6=>D.nx σ H6
def IK(X:Cx)(t:V->V->Hp->VK->Prop):Prop:=
 ∀ (ae:List (Addr×Obj)) (s:Shared) (σ:St) (H:Hp) (o i:V) (ov iv:Value) (Q:VK),aA X ae σ H s->aX o ov->aX i iv->t o i H Q->
  wpAny (model X.prog X.w) X.A (getItem ov iv) (EP X ae σ Q) X.xe s
theorem BW{o i e:Expr}{to ti te:TE}{BU:V->V->Hp->VK->Prop}{LY:IG}{BV:BS}{op:Operator}{yZ:Pos}(ho:PE X o to)(hi:PE X i ti)(hg:IK X BU)(he:PE X e te)(hp:II X op LY)(hs:Fm X BV)(ha:∀ov iv new,augStore i ov iv new=(do holding [new,ov,iv] (setItem ov iv new);release [new,ov,iv] [];pure .next):=by intros;rfl):PS X (.AugAssign (.Subscript o i yZ) op e pos) (IJ to ti te BU LY BV):=by
 intro ae s σ H D I h;refine wpAny_AugAssign_SubscriptAny (bC (ho ae s σ H _ I h) fun ov s1 ⟨x1,H1,I1,r1,q1⟩=>?_) ha;refine bC (hi ae s1 σ H1 _ I1 q1) fun iv s2 ⟨x2,H2,I2,r2,q2⟩=>?_;refine bC (hg ae s2 σ H2 x1 x2 ov iv _ I2 r1 r2 q2) fun mU s3 ⟨x3,H3,I3,r3,q3⟩=>?_;refine bC (he ae s3 σ H3 _ I3 q3) fun v s4 ⟨x4,H4,I4,r4,q4⟩=>?_;refine bC (hp ae s4 σ H4 x3 x4 mU v _ I4 r3 r4 q4) fun new s5 ⟨x5,H5,I5,r5,q5⟩=>?_;exact bC (hs ae s5 σ H5 x1 x2 x5 ov iv new _ I5 r1 r2 r5 q5) fun _ s6 ⟨H6,I6,q6⟩=>⟨σ,H6,I6,q6⟩
def Sa(f:Int->Int->Int):IG:=fun x y H Q=>∃i j,x=.int i/\y=.int j/\Q (.int (f i j)) H
theorem uM:II X .Add (Sa fun i j=>i+j):=by
 intro ae s σ H x y v u Q I r1 r2 h;obtain⟨i,j,e1,e2,q⟩:=h;subst e1;subst e2;obtain⟨t,rfl⟩:=r1;obtain⟨t',rfl⟩:=r2;exact iadd_int ⟨.int _,H,I.tok _,⟨_,rfl⟩,q⟩
def y0(c:TT)(tb:TS):TS:=fun D σ H=>∃W:Nat->St->Hp->Prop,(∃m,W m σ H)/\∀m σ H,W m σ H->
 c σ H fun b H1=>if b=true then ∃N:St->Hp->Prop,(∀σ' H',N σ' H'->∃m',m'<m/\W m' σ' H')/\tb { D with nx:=N,ct:=N,bk:=D.nx } σ H1 else D.nx σ H1
theorem y4(hp:PassesOwn (model X.prog X.w) X.A X.env X.xe)(hc:PT X c tc)(hb:om X body tb):PS X (.While c body [] pos) (y0 tc tb):=by
 intro ae s σ H D I h;obtain⟨W,⟨m0,w0⟩,y6⟩:=h;refine wpAny_While (codeAny_whileLoop (fun n s'=>∃σ' H',aA X ae σ' H' s'/\W n σ' H') ?_ m0 ⟨σ,H,I,w0⟩);rintro n s1 ⟨σ1,H1,I1,w1⟩;refine jd hp (bC (hc ae s1 σ1 H1 _ I1 (y6 n σ1 H1 w1)) fun b s2 ⟨H2,I2,q2⟩=>?_);cases b with
 |true=>
  obtain⟨N,hN,q2⟩:=q2;rw[ak rfl];refine jd hp (bC (hb ae s2 σ1 H2 _ I2 q2) fun f s3 q3=>?_);cases f with
  |next=>
   obtain⟨σ3,H3,I3,n3⟩:=q3;obtain⟨m',hm,w3⟩:=hN σ3 H3 n3;exact⟨m',hm,σ3,H3,I3,w3⟩
  |cont=>
   obtain⟨σ3,H3,I3,n3⟩:=q3;obtain⟨m',hm,w3⟩:=hN σ3 H3 n3;exact⟨m',hm,σ3,H3,I3,w3⟩
  |brk=>exact q3
  |ret v=>exact q3
 |false=>
  rw[al bE];exact mL ⟨σ1,H2,I2,q2⟩
end
structure It where
 go:Nat->Hp->Prop
 El:Nat->Hp->V->Hp->Prop
 stop:Nat->Hp->Prop
 BY:Around->Hp->Prop
def gC(X:Cx)(ae:List (Addr×Obj))(H:Hp)(b:Addr):Prop:=
 H b=none/\b≠X.env.locals/\b∉X.fs/\(b∈X.ex\/X.s₀.heap.objs.size<=b)/\(∀x c,X.env.cells.lookup x=some c->c≠b)/\∀p∈X.pn++ae,p.1≠b
theorem aA.y7(I:aA X ae σ H s)(hb:s.heap.objs.size<=b)(hn:H' b=none):gC X ae H' b:=by
 refine⟨hn,fQ (bp I.lt hb),I.ML hb,.inr (bb I.sz hb),fun x c e z=>?_,fun p hp z=>?_⟩
 .obtain⟨v,q⟩:=I.cell x c e;exact absurd (bp q.lt (by rw[z];exact hb)) (ft _)
 .exact absurd (bp (a9 (I.pin p hp).1) (by rw[z];exact hb)) (ft _)
structure uN(P:Program)(w:World)(K:PySem.W.Frag)(tg:Expr)(J:It)(fp:List Addr)(it:Addr)(tn:Nat->Heap->Prop):Prop where
 mem:it∈fp
 obj:∀i h,tn i h->∀b∈fp,∃o,h.get? b=some o/\∀v,o.data≠.cell v
 keep:∀i h h',tn i h->(∀b∈fp,∀o,h.get? b=some o->h'.get? b=some o)->tn i h'
 item:∀ (X:Cx),X.prog=P->X.w=w->X.K=K->∀ (i:Nat) (ae:List (Addr×Obj)) (s:Shared) (σ:St) (H:Hp) (E:Value->Shared->Prop),(X.calm=true\/J.BY X.A H)->aA X ae σ H s->(∀b∈fp,gC X ae H b)->tn i s.heap->J.go i H->
  wpAny (model P w) X.A (pyNext (.ref it)) (fun r s1=>∃u,r=some u/\
   wpAny (model P w) X.A (letOwnedTupleGo tg (.ref it) u) (fun _ s2=>∃x H',aA X ae σ H' s2/\aX x u/\J.El i H x H'/\tn (i+1) s2.heap/\∀b∈fp,H' b=none) E s1) E s
 done:∀ (X:Cx),X.prog=P->X.w=w->X.K=K->∀ (i:Nat) (ae:List (Addr×Obj)) (s:Shared) (σ:St) (H:Hp) (E:Value->Shared->Prop),(X.calm=true\/J.BY X.A H)->aA X ae σ H s->(∀b∈fp,gC X ae H b)->tn i s.heap->J.stop i H->
  wpAny (model P w) X.A (pyNext (.ref it)) (fun r s1=>r=none/\aA X ae σ H s1) E s
 self:∀ (A:Around) (i:Nat) (s:Shared) (Q:Value->Shared->Prop) (E:Value->Shared->Prop),tn i s.heap->Q (.ref it) s->wpAny (model P w) A (pyIter (.ref it)) Q E s
abbrev TI:=St->Hp->(It->Hp->Prop)->Prop
def Qx(X:Cx)(ae:List (Addr×Obj))(σ:St)(tg:Expr)(R:It->Hp->Prop)(IL:Value)(s2:Shared):Prop:=
 ∃ (it:Addr) (fp:List Addr) (tn:Nat->Heap->Prop) (J:It) (H':Hp),IL=.ref it/\aA X ae σ H' s2/\uN X.prog X.w X.K tg J fp it tn/\tn 0 s2.heap/\(∀b∈fp,gC X ae H' b)/\R J H'
def PI(X:Cx)(tg eY:Expr)(wi:TI):Prop:=
 ∀ (ae:List (Addr×Obj)) (s:Shared) (σ:St) (H:Hp) (R:It->Hp->Prop),aA X ae σ H s->wi σ H R->
  wpAny (model X.prog X.w) X.A (eval eY X.env) (fun v s1=>wpAny (model X.prog X.w) X.A (pyIter v) (Qx X ae σ tg R) X.xe s1) X.xe s
theorem y8(ho:s.heap.get? it=some o)(hc:o.cls=.type n)(hd:o.data=.fields vs)(hn:["enumerate","zip","dict_itemiterator","dict_reverseitemiterator","odict_iterator","itertools.zip_longest","itertools.pairwise"].contains n=false)(hQ:Q () s):wpAny M A (letOwnedTupleGo tg (.ref it) u) Q E s:=by
 unfold letOwnedTupleGo;cases tg <;> first
  |exact wpAny_pure hQ
  |(cases u <;> first
    |exact wpAny_pure hQ
    |(refine ao (wpAny_load ho ?_);rw[hc,hd];show wpAny M A (if (["enumerate","zip","dict_itemiterator","dict_reverseitemiterator","odict_iterator","itertools.zip_longest","itertools.pairwise"].contains n&&vs[0]?==some (rawInt _))=true then _ else _) Q E s;rw[al (by intro h;rw[hn,Bool.false_and] at h;cases h)];exact wpAny_pure hQ))
def BZ(K:PySem.W.Frag)(a:Addr):It:=
 ⟨fun i H=>∃xs x,bg K H a xs/\xs[i]?=some x,fun i H x H'=>H'=H/\∀xs,bg K H a xs->xs[i]?=some x,fun i H=>∃xs,bg K H a xs/\xs.length<=i,fun _ _=>False⟩
def IM(K:PySem.W.Frag)(a:Addr):It:=
 ⟨fun i H=>∃xs x,cu K H a xs/\xs[i]?=some x,fun i H x H'=>H'=H/\∀xs,cu K H a xs->xs[i]?=some x,fun i H=>∃xs,cu K H a xs/\xs.length<=i,fun _ _=>False⟩
def Bz(lo:Int)(n:Nat):It:=⟨fun i _=>i<n,fun i H x H'=>H'=H/\x=.int (lo+i),fun i _=>n<=i,fun A H=>A.handled=none\/∃p φ,A.handled=some (.ref p)/\H p=some (.ext φ)/\∀h,φ h->rE p h⟩
theorem xk{P:Program}{w:World}{K:PySem.W.Frag}{tg:Expr}(a it:Addr):uN P w K tg (BZ K a) [it] it (fun i h=>h.IsListIter it a i) where
 mem:=by simp
 obj:=fun i h st b hb=>by
  have e:b=it:=by simpa using hb
  subst e;obtain⟨o,e,c,d⟩:=st;exact⟨o,e,fun v z=>by rw[d] at z;cases z⟩
 keep:=fun i h h' st k=>st.at fun o e=>k it (by simp) o e
 item:=by
  intro X hP hw hK i ae s σ H E y9 I hf st hg;subst hP hw hK;have hc:X.calm=true:=y9.elim id fun z=>(show False from z).elim;obtain⟨xs,x,hq,hx⟩:=hg;obtain⟨its,rv,p,hz⟩:=I.list hq;obtain⟨u,hu,ru⟩:=rv.get hx;obtain⟨f0,f1,f2,f3,f4,f5⟩:=hf it (by simp);refine wpAny_pyNext_list_item st p.isList (x:=u) (by simpa using hu) fun h' aP sb=>?_;have I1:aA X ae σ H { s with heap:=h' }:=I.turned (t':=s.toks) (fun b o hb e=>(sb.2 b hb).trans e) f0 f1 f3 f4 f5;obtain⟨o,e,c,d⟩:=id aP;exact⟨u,rfl,y8 (s:={ s with heap:=h' }) e c d (by decide) ⟨x,H,I1,ru,⟨rfl,fun ys hy=>by rw[I.yW hy hq];exact hx⟩,aP,fun b hb=>(hf b hb).1⟩⟩
 done:=by
  intro X hP hw hK i ae s σ H E y9 I hf st hg;subst hP hw hK;have hc:X.calm=true:=y9.elim id fun z=>(show False from z).elim;obtain⟨xs,hq,hx⟩:=hg;obtain⟨its,rv,p,hz⟩:=I.list hq;obtain⟨f0,f1,f2,f3,f4,f5⟩:=hf it (by simp);have hl:=rv.length;exact wpAny_pyNext_list_end (I.ok.hd hc) st p.isList (by simp;lia) fun h' eb=>⟨rfl,I.turned (t':=s.toks) (fun b o hb e=>eb b o hb e) f0 f1 f3 f4 f5⟩
 self:=fun _ _ _ _ _ st h=>wpAny_pyIter_listiter st h
theorem uO{P:Program}{w:World}{K:PySem.W.Frag}{tg:Expr}(a it:Addr):uN P w K tg (IM K a) [it] it (fun i h=>h.IsTupleIter it a i) where
 mem:=by simp
 obj:=fun i h st b hb=>by
  have e:b=it:=by simpa using hb
  subst e;obtain⟨o,e,c,d⟩:=st;exact⟨o,e,fun v z=>by rw[d] at z;cases z⟩
 keep:=fun i h h' st k=>st.at fun o e=>k it (by simp) o e
 item:=by
  intro X hP hw hK i ae s σ H E y9 I hf st hg;subst hP hw hK;have hc:X.calm=true:=y9.elim id fun z=>(show False from z).elim;obtain⟨xs,x,hq,hx⟩:=hg;obtain⟨its,rv,p,hz⟩:=I.tuple hq;obtain⟨u,hu,ru⟩:=rv.get hx;obtain⟨f0,f1,f2,f3,f4,f5⟩:=hf it (by simp);refine wpAny_pyNext_tuple_item st (show s.heap.IsTuple a its.toArray from p) (x:=u) (by simpa using hu) fun h' aP sb=>?_;have I1:aA X ae σ H { s with heap:=h' }:=I.turned (t':=s.toks) (fun b o hb e=>(sb.2 b hb).trans e) f0 f1 f3 f4 f5;obtain⟨o,e,c,d⟩:=id aP;exact⟨u,rfl,y8 (s:={ s with heap:=h' }) e c d (by decide) ⟨x,H,I1,ru,⟨rfl,fun ys hy=>by rw[I.kK hy hq];exact hx⟩,aP,fun b hb=>(hf b hb).1⟩⟩
 done:=by
  intro X hP hw hK i ae s σ H E y9 I hf st hg;subst hP hw hK;have hc:X.calm=true:=y9.elim id fun z=>(show False from z).elim;obtain⟨xs,hq,hx⟩:=hg;obtain⟨its,rv,p,hz⟩:=I.tuple hq;obtain⟨f0,f1,f2,f3,f4,f5⟩:=hf it (by simp);have hl:=rv.length;exact wpAny_pyNext_tuple_end (I.ok.hd hc) st (show s.heap.IsTuple a its.toArray from p) (by simp;lia) fun h' eb=>⟨rfl,I.turned (t':=s.toks) (fun b o hb e=>eb b o hb e) f0 f1 f3 f4 f5⟩
 self:=fun _ _ _ _ _ st h=>wpAny_pyIter_tupleiter st h
theorem uP{P:Program}{w:World}{K:PySem.W.Frag}{tg:Expr}(it:Addr)(lo:Int)(n:Nat):uN P w K tg (Bz lo n) [it] it (fun i h=>IsRangeIter h it (lo+(i:Nat)*1) ((n:Int)-(i:Nat)) 1) where
 mem:=by simp
 obj:=fun i h st b hb=>by
  have e:b=it:=by simpa using hb
  subst e;exact⟨_,st,fun v z=>by
   have z':Data.fields _=Data.cell v:=z;cases z'⟩
 keep:=fun i h h' st k=>k it (by simp) _ st
 item:=by
  intro X hP hw hK i ae s σ H E hc I hf st hg;subst hP hw hK;obtain⟨f0,f1,f2,f3,f4,f5⟩:=hf it (by simp);refine wpAny_pyNext_range_item st (by have:i<n:=hg;lia) fun h' aP sb=>?_;have I1:aA X ae σ H { s with heap:=h',toks:=s.toks+1 }:=I.turned (fun b o hb e=>(sb.2 b hb).trans e) f0 f1 f3 f4 f5;have o5:IsRangeIter h' it (lo+((i+1:Nat):Int)*1) ((n:Int)-((i+1:Nat):Int)) 1:=by
   rw[show lo+((i+1:Nat):Int)*1=lo+(i:Int)*1+1 by lia,show (n:Int)-((i+1:Nat):Int)=(n:Int)-(i:Int)-1 by lia];exact aP
  exact⟨_,rfl,y8 (s:={ s with heap:=h',toks:=s.toks+1 }) (n:="range_iterator") o5 rfl rfl (by decide) ⟨.int (lo+i),H,I1,⟨s.toks,by rw[Int.mul_one]⟩,⟨rfl,rfl⟩,o5,fun b hb=>(hf b hb).1⟩⟩
 done:=by
  intro X hP hw hK i ae s σ H E hc I hf st hg;subst hP hw hK;obtain⟨f0,f1,f2,f3,f4,f5⟩:=hf it (by simp);have he:X.A.handled=none\/∃p φ,X.A.handled=some (.ref p)/\H p=some (.ext φ)/\∀h,φ h->rE p h:=hc.elim (fun z=>.inl (I.ok.hd z)) id;rcases he with hn|⟨p,φ,hp,hH,hφ⟩
  .exact wpAny_pyNext_range_end hn st (by have:n<=i:=hg;lia) fun h' eb=>⟨rfl,I.turned (t':=s.toks) (fun b o hb e=>eb b o hb e) f0 f1 f3 f4 f5⟩
  .exact uJ hp (hφ _ (I.be p _ hH).1) st (by have:n<=i:=hg;lia) fun h' eb=>⟨rfl,I.kept (t':=s.toks) eb⟩
 self:=fun _ _ _ _ _ st h=>wpAny_pyIter_rangeiter st h
section
variable {X:Cx} {tg:Expr}
def IN(K:PySem.W.Frag)(tl:TE):TI:=fun σ H R=>tl σ H fun x H1=>∃a,x=.ref a/\(∃xs,bg K H1 a xs)/\R (BZ K a) H1
def M0(K:PySem.W.Frag)(tl:TE):TI:=fun σ H R=>tl σ H fun x H1=>∃a,x=.ref a/\(∃xs,cu K H1 a xs)/\R (IM K a) H1
theorem cP{l:Expr}{tl:TE}(hl:PE X l tl):PI X tg l (IN X.K tl):=by
 intro ae s σ H R I h;refine bC (hl ae s σ H _ I h) fun v s1 ⟨x,H1,I1,r1,q1⟩=>?_;obtain⟨a,e,⟨xs,hq⟩,q⟩:=q1;subst e;cases r1;obtain⟨its,rv,p,hz⟩:=I1.list hq;refine uB p.isList ?_;refine⟨s1.heap.objs.size,[s1.heap.objs.size],_,_,H1,rfl,I1.kept (t':=s1.toks) fun b o e=>bf _ e,xk a _,⟨_,b_ _ rfl,rfl,rfl⟩,fun b hb=>?_,q⟩;have e:b=s1.heap.objs.size:=by simpa using hb
 subst e;exact I1.y7 (aK _) (I1.be.fresh (aK _))
theorem kM{l:Expr}{tl:TE}(hl:PE X l tl):PI X tg l (M0 X.K tl):=by
 intro ae s σ H R I h;refine bC (hl ae s σ H _ I h) fun v s1 ⟨x,H1,I1,r1,q1⟩=>?_;obtain⟨a,e,⟨xs,hq⟩,q⟩:=q1;subst e;cases r1;obtain⟨its,rv,p,hz⟩:=I1.tuple hq;refine uz (show s1.heap.IsTuple a its.toArray from p) ?_;refine⟨s1.heap.objs.size,[s1.heap.objs.size],_,_,H1,rfl,I1.kept (t':=s1.toks) fun b o e=>bf _ e,uO a _,⟨_,b_ _ rfl,rfl,rfl⟩,fun b hb=>?_,q⟩;have e:b=s1.heap.objs.size:=by simpa using hb
 subst e;exact I1.y7 (aK _) (I1.be.fresh (aK _))
theorem y_{ae:List (Addr×Obj)}{σ:St}{H:Hp}{s:Shared}{R:It->Hp->Prop}{E:Value->Shared->Prop}{lo hi:Int}{t u v:Tok}{tk:Nat}(I:aA X ae σ H s)(h1:-(2 ^ 62)<=lo)(h2:lo<2 ^ 62)(h3:-(2 ^ 62)<=hi)(h4:hi<2 ^ 62)(q:R (Bz lo (hi-lo).toNat) H):wpAny (model X.prog X.w) X.A (pyIter (.ref s.heap.objs.size)) (Qx X ae σ tg R) E { s with heap:=s.heap.push { cls:=.type "range",data:=.fields #[.int lo t,.int hi u,.int 1 v] },toks:=tk }:=by
 refine wpAny_pyIter_range (IsRange.new ..) (small_one h1 h2 h3 h4) ?_;have I1:aA X ae σ H { s with heap:=s.heap.push { cls:=.type "range",data:=.fields #[.int lo t,.int hi u,.int 1 v] },toks:=tk }:=I.kept fun b o e=>bf _ e;refine⟨(s.heap.push { cls:=.type "range",data:=.fields #[.int lo t,.int hi u,.int 1 v] }).objs.size,[(s.heap.push { cls:=.type "range",data:=.fields #[.int lo t,.int hi u,.int 1 v] }).objs.size],_,_,H,rfl,
  I1.kept (t':=tk) fun b o e=>bf _ e,uP _ lo (hi-lo).toNat,?_,fun b hb=>?_,q⟩
 .have e1:lo+((0:Nat):Int)*1=lo:=by simp
  have e2:(((hi-lo).toNat:Nat):Int)-((0:Nat):Int)=Builtin.Range.rangeSize lo hi 1:=by rw[rangeSize_one];split <;> lia
  show IsRangeIter _ _ (lo+((0:Nat):Int)*1) ((((hi-lo).toNat:Nat):Int)-((0:Nat):Int)) 1;rw[e1,e2];exact b_ _ rfl
 .have e:b=(s.heap.push { cls:=.type "range",data:=.fields #[.int lo t,.int hi u,.int 1 v] }).objs.size:=by simpa using hb
  subst e;exact I1.y7 (aK _) (I1.be.fresh (aK _))
def IP(ta:TA):TI:=fun σ H R=>ta σ H fun vs H1=>∃j:Int,vs=[.int j]/\-(2 ^ 62)<=j/\j<2 ^ 62/\R (Bz 0 j.toNat) H1
theorem bK{a:Expr}{ta:TA}{p pos:Pos}(hg:Gl X "range")(hm:X.mg "range"=none)(ha:PA X [a] ta)(hs:starEach [a] X.env=[(false,eval a X.env)]:=by rfl):PI X tg (.Call (.Name "range" p) [a] [] pos) (IP ta):=by
 intro ae s σ H R I h;refine Call_ (kI I hg hm boot_range (tD (bC (ha pos ae s σ H _ I h) fun us s1 ⟨vs,H1,I1,r1,q1⟩=>?_) hs rfl));obtain⟨j,e,q1,q2,q⟩:=q1;subst e;cases r1 with
 |cons r rr=>
  cases rr;obtain⟨t,rfl⟩:=r;exact call_range_1 (y_ I1 (by lia) (by lia) q1 q2 (by simpa using q))
def M1(wi:TI)(g:TG)(tb:TS):TS:=fun D σ H=>wi σ H fun J H1=>∃W:Nat->Nat->St->Hp->Prop,(∃m,W 0 m σ H1)/\∀i m σ H,W i m σ H->
 (J.stop i H/\D.nx σ H)\/(J.go i H/\∃N:St->Hp->Prop,(∀σ' H',N σ' H'->∃m',m'<m/\W (i+1) m' σ' H')/\∀x H',J.El i H x H'->g x σ H' fun σ2 H2=>tb { D with nx:=N,ct:=N,bk:=D.nx } σ2 H2)
def m_(fp:List Addr)(h:Heap):List (Addr×Obj):=fp.filterMap fun b=>(h.get? b).map fun o=>(b,o)
theorem f8(hb:b∈fp)(e:h.get? b=some o):(b,o)∈m_ fp h:=mv.mpr ⟨b,hb,by rw[e];rfl⟩
theorem xl(hp:p∈m_ fp h):p.1∈fp/\h.get? p.1=some p.2:=by
 obtain⟨b,hb,e⟩:=mv.mp hp;cases q:h.get? b with
 |none=>rw[q] at e;cases e
 |some o=>
  rw[q] at e;have e':(b,o)=p:=bA e;subst e';exact⟨hb,q⟩
theorem aA.pinned(I:aA X ae σ H s)(hf:∀b∈fp,gC X ae H b)(ho:∀b∈fp,∃o,s.heap.get? b=some o/\∀v,o.data≠.cell v):aA X (ae++m_ fp s.heap) σ H s:=
 I.vZ fun p hp=>(cJ.mp hp).elim (fun z=>I.pin p (iW _ z)) fun z=>by
  obtain⟨hb,e⟩:=xl z;obtain⟨f0,f1,f2,_⟩:=hf p.1 hb;obtain⟨o,e',d⟩:=ho p.1 hb;rw[e] at e';cases e';exact⟨e,f0,f1,f2,d⟩
theorem aA.jL(I:aA X (ae++pl) σ H s):aA X ae σ H s:=I.vZ fun p hp=>I.pin p (iW _ (iX _ hp))
theorem cg(hp:PassesOwn (model X.prog X.w) X.A X.env X.xe)(hc:X.calm=true)(hi:PI X tg eY wi)(hg:PG X tg g)(hb:om X body tb)(hs:∀x,foldedSetIterable eY X.env x=pure x:=by intro _;rfl):PS X (.For tg eY body [] pos) (M1 wi g tb):=by
 intro ae s σ H D I h;refine wpAny_For (bC (hi ae s σ H _ I h) fun v s1 h1=>bC h1 fun IL s2 h2=>?_) hs;obtain⟨it,fp,tn,J,H2,e,I2,T,o5,f2,W,⟨m0,w0⟩,y6⟩:=h2;subst e;have uQ:∀ {H':Hp},(∀b∈fp,H' b=none)->∀b∈fp,gC X ae H' b:=fun hn b hb=>⟨hn b hb,(f2 b hb).2⟩
 refine codeAny_forLoop_any (fun n s'=>∃i σ' H',aA X ae σ' H' s'/\tn i s'.heap/\(∀b∈fp,H' b=none)/\W i n σ' H') ?_ m0 ⟨0,σ,H2,I2,o5,fun b hb=>(f2 b hb).1,w0⟩;rintro n s3 ⟨i,σ3,H3,I3,uR,Fp,w3⟩;rcases y6 i n σ3 H3 w3 with ⟨stop,qn⟩|⟨go,N,hN,step⟩
 .refine jd hp (bC (T.done X rfl rfl rfl i ae s3 σ3 H3 X.xe (.inl hc) I3 (uQ Fp) uR stop) fun r s4 ⟨hr,I4⟩=>?_);subst hr;exact mL ⟨σ3,H3,I4,qn⟩
 .refine jd hp (bC (T.item X rfl rfl rfl i ae s3 σ3 H3 X.xe (.inl hc) I3 (uQ Fp) uR go) fun r s4 ⟨u,hr,h4⟩=>?_);subst hr;refine jd hp (bC h4 fun _ s5 ⟨x,H5,I5,r5,y5,rA,M2⟩=>?_);have M3:=I5.pinned (uQ M2) (T.obj _ _ rA);refine jd hp (bC (hg _ s5 σ3 H5 x u _ M3 r5 (step x H5 y5)) fun _ s6 ⟨σ6,H6,I6,q6⟩=>?_);refine jd hp (bC (hb _ s6 σ6 H6 _ I6 q6) fun f s7 q7=>?_);have again:∀ {σ7:St} {H7:Hp},aA X (ae++m_ fp s5.heap) σ7 H7 s7->N σ7 H7->∃m,m<n/\∃i σ' H',aA X ae σ' H' s7/\tn i s7.heap/\(∀b∈fp,H' b=none)/\W i m σ' H':=fun {σ7 H7} I7 n7=>by
   obtain⟨m',hm,w7⟩:=hN σ7 H7 n7;refine⟨m',hm,i+1,σ7,H7,I7.jL,T.keep _ _ _ rA fun b hb o e=>(I7.pin (b,o) (iW _ (iW _ (f8 hb e)))).1,fun b hb=>?_,w7⟩;obtain⟨o,e,d⟩:=T.obj _ _ rA b hb;exact(I7.pin (b,o) (iW _ (iW _ (f8 hb e)))).2.1
  cases f with
  |next=>obtain⟨σ7,H7,I7,n7⟩:=q7;exact again I7 n7
  |cont=>obtain⟨σ7,H7,I7,n7⟩:=q7;exact again I7 n7
  |brk=>obtain⟨σ7,H7,I7,q7⟩:=q7;exact⟨σ7,H7,I7.jL,q7⟩
  |ret v=>obtain⟨x7,σ7,H7,I7,r7,q7⟩:=q7;exact⟨x7,σ7,H7,I7.jL,r7,q7⟩
end
theorem g_{K:PySem.W.Frag}{a:Addr}{xs:List V}{g:TG}{tb:TS}{D:rG}{σ:St}{H:Hp}(Pv:Nat->St->Hp->Prop)(h0:Pv 0 σ H)(hl:∀i σ H,i<=xs.length->Pv i σ H->bg K H a xs)(hs:∀i x σ H,xs[i]?=some x->Pv i σ H->g x σ H fun σ2 H2=>tb { D with nx:=Pv (i+1),ct:=Pv (i+1),bk:=D.nx } σ2 H2)(hd:∀σ H,Pv xs.length σ H->D.nx σ H):
  ∃W:Nat->Nat->St->Hp->Prop,(∃m,W 0 m σ H)/\∀i m σ H,W i m σ H->
   ((BZ K a).stop i H/\D.nx σ H)\/((BZ K a).go i H/\∃N:St->Hp->Prop,(∀σ' H',N σ' H'->∃m',m'<m/\W (i+1) m' σ' H')/\∀x H',(BZ K a).El i H x H'->g x σ H' fun σ2 H2=>tb { D with nx:=N,ct:=N,bk:=D.nx } σ2 H2):=by
 refine⟨fun i m σ H=>m=xs.length-i/\i<=xs.length/\Pv i σ H,⟨xs.length,by simp,cK _,h0⟩,?_⟩;rintro i m σ H ⟨rfl,hi,p⟩;have q:=hl i σ H hi p;by_cases eE:i<xs.length
 .refine .inr ⟨⟨xs,xs[i],q,by simp[eE]⟩,Pv (i+1),fun σ' H' p'=>⟨xs.length-(i+1),by lia,rfl,eE,p'⟩,fun x H' y=>?_⟩;obtain⟨e,y⟩:=y;subst e;exact hs i x σ _ (y xs q) p
 .have e:i=xs.length:=by lia
  subst e;exact .inl ⟨⟨xs,q,aK _⟩,hd σ H p⟩
theorem iC{K:PySem.W.Frag}{a:Addr}{xs:List V}{g:TG}{tb:TS}{D:rG}{σ:St}{H:Hp}(Pv:Nat->St->Hp->Prop)(h0:Pv 0 σ H)(hl:∀i σ H,i<=xs.length->Pv i σ H->cu K H a xs)(hs:∀i x σ H,xs[i]?=some x->Pv i σ H->g x σ H fun σ2 H2=>tb { D with nx:=Pv (i+1),ct:=Pv (i+1),bk:=D.nx } σ2 H2)(hd:∀σ H,Pv xs.length σ H->D.nx σ H):
  ∃W:Nat->Nat->St->Hp->Prop,(∃m,W 0 m σ H)/\∀i m σ H,W i m σ H->
   ((IM K a).stop i H/\D.nx σ H)\/((IM K a).go i H/\∃N:St->Hp->Prop,(∀σ' H',N σ' H'->∃m',m'<m/\W (i+1) m' σ' H')/\∀x H',(IM K a).El i H x H'->g x σ H' fun σ2 H2=>tb { D with nx:=N,ct:=N,bk:=D.nx } σ2 H2):=by
 refine⟨fun i m σ H=>m=xs.length-i/\i<=xs.length/\Pv i σ H,⟨xs.length,by simp,cK _,h0⟩,?_⟩;rintro i m σ H ⟨rfl,hi,p⟩;have q:=hl i σ H hi p;by_cases eE:i<xs.length
 .refine .inr ⟨⟨xs,xs[i],q,by simp[eE]⟩,Pv (i+1),fun σ' H' p'=>⟨xs.length-(i+1),by lia,rfl,eE,p'⟩,fun x H' y=>?_⟩;obtain⟨e,y⟩:=y;subst e;exact hs i x σ _ (y xs q) p
 .have e:i=xs.length:=by lia
  subst e;exact .inl ⟨⟨xs,q,aK _⟩,hd σ H p⟩
theorem cT{lo:Int}{n:Nat}{g:TG}{tb:TS}{D:rG}{σ:St}{H:Hp}(Pv:Nat->St->Hp->Prop)(h0:Pv 0 σ H)(hs:∀i σ H,i<n->Pv i σ H->g (.int (lo+i)) σ H fun σ2 H2=>tb { D with nx:=Pv (i+1),ct:=Pv (i+1),bk:=D.nx } σ2 H2)(hd:∀σ H,Pv n σ H->D.nx σ H):
  ∃W:Nat->Nat->St->Hp->Prop,(∃m,W 0 m σ H)/\∀i m σ H,W i m σ H->
   ((Bz lo n).stop i H/\D.nx σ H)\/((Bz lo n).go i H/\∃N:St->Hp->Prop,(∀σ' H',N σ' H'->∃m',m'<m/\W (i+1) m' σ' H')/\∀x H',(Bz lo n).El i H x H'->g x σ H' fun σ2 H2=>tb { D with nx:=N,ct:=N,bk:=D.nx } σ2 H2):=by
 refine⟨fun i m σ H=>m=n-i/\i<=n/\Pv i σ H,⟨n,by simp,cK _,h0⟩,?_⟩;rintro i m σ H ⟨rfl,hi,p⟩;by_cases eE:i<n
 .refine .inr ⟨eE,Pv (i+1),fun σ' H' p'=>⟨n-(i+1),by lia,rfl,eE,p'⟩,fun x H' y=>?_⟩;obtain⟨e,y⟩:=y;subst e y;exact hs i σ _ eE p
 .have e:i=n:=by lia
  subst e;exact .inl ⟨aK _,hd σ H p⟩
theorem zc(Pv:St->Hp->Prop)(μ:St->Hp->Nat)(h0:Pv σ H)(hs:∀σ H,Pv σ H->c σ H fun b H1=>if b=true then tb { D with nx:=fun σ' H'=>Pv σ' H'/\μ σ' H'<μ σ H,ct:=fun σ' H'=>Pv σ' H'/\μ σ' H'<μ σ H,bk:=D.nx } σ H1 else D.nx σ H1)(mono:∀σ H Q Q',(∀b H1,Q b H1->Q' b H1)->c σ H Q->c σ H Q'):y0 c tb D σ H:=by
 refine⟨fun m σ H=>m=μ σ H/\Pv σ H,⟨_,rfl,h0⟩,?_⟩;rintro m σ H ⟨rfl,p⟩;refine mono σ H _ _ (fun b H1 q=>?_) (hs σ H p);cases b with
 |true=>exact⟨_,fun σ' H' ⟨p',l⟩=>⟨_,l,rfl,p'⟩,q⟩
 |false=>exact q
abbrev R2:=V->V->Hp->VK->Prop
def iQ(X:Cx)(f:Value->Value->Sem Value)(r:R2):Prop:=
 ∀ (ae:List (Addr×Obj)) (s:Shared) (σ:St) (H:Hp) (x y:V) (v u:Value) (Q:VK),aA X ae σ H s->aX x v->aX y u->r x y H Q->
  wpAny (model X.prog X.w) X.A (f v u) (EP X ae σ Q) X.xe s
def M4(X:Cx)(f:Value->Sem Value)(r:V->Hp->VK->Prop):Prop:=
 ∀ (ae:List (Addr×Obj)) (s:Shared) (σ:St) (H:Hp) (x:V) (v:Value) (Q:VK),aA X ae σ H s->aX x v->r x H Q->
  wpAny (model X.prog X.w) X.A (f v) (EP X ae σ Q) X.xe s
def eT(X:Cx)(f:Value)(r:List V->Hp->VK->Prop):Prop:=
 ∀ (ae:List (Addr×Obj)) (s:Shared) (σ:St) (H:Hp) (xs:List V) (us:List Value) (Q:VK),aA X ae σ H s->aL xs us->r xs H Q->
  wpAny (model X.prog X.w) X.A (call f us) (EP X ae σ Q) X.xe s
def uS(r:R2)(ta tb:TE):TE:=fun σ H Q=>ta σ H fun x H1=>tb σ H1 fun y H2=>r x y H2 Q
def M5(r:V->Hp->VK->Prop)(ta:TE):TE:=fun σ H Q=>ta σ H fun x H1=>r x H1 Q
def rI(C:Int->Int->Prop)(g:Int->Int->V):R2:=fun x y H Q=>∃i j,x=.int i/\y=.int j/\C i j/\Q (g i j) H
def Em(g:Int->Int->V):R2:=fun x y H Q=>∃i j,x=.int i/\y=.int j/\Q (g i j) H
def rU(g:Int->V):V->Hp->VK->Prop:=fun x H Q=>∃i,x=.int i/\Q (g i) H
section
variable {X:Cx} {a b c:Expr} {ta tb tc:TE} {pos:Pos}
theorem Fq(ha:PE X a ta)(hb:PE X b tb){ae:List (Addr×Obj)}{s:Shared}{σ:St}{H:Hp}{R:V->V->Hp->Prop}(I:aA X ae σ H s)(h:ta σ H fun x H1=>tb σ H1 fun y H2=>R x y H2){Q:Value->Shared->Prop}{f:Value->Value->Sem Value}(hf:∀v u s2 x y H2,aA X ae σ H2 s2->aX x v->aX y u->R x y H2->wpAny (model X.prog X.w) X.A (f v u) Q X.xe s2):
  wpAny (model X.prog X.w) X.A (eval a X.env) (fun v s₁=>wpAny (model X.prog X.w) X.A (eval b X.env) (fun u s₂=>wpAny (model X.prog X.w) X.A (f v u) Q X.xe s₂) X.xe s₁) X.xe s:=by
 refine bC (ha ae s σ H _ I h) fun v s1 ⟨x,H1,I1,r1,q1⟩=>?_;refine bC (hb ae s1 σ H1 _ I1 q1) fun u s2 ⟨y,H2,I2,r2,q2⟩=>?_;exact hf v u s2 x y H2 I2 r1 r2 q2
theorem aV{op:Operator}{r:R2}(ho:iQ X (binaryOp op) r)(ha:PE X a ta)(hb:PE X b tb):PE X (.BinOp a op b pos) (uS r ta tb):=by
 intro ae s σ H Q I h;exact wpAny_BinOp (Fq ha hb I h fun v u s2 x y H2 I2 rx ry q=>ho ae s2 σ H2 x y v u Q I2 rx ry q)
theorem o6(ho:M4 X (unaryOp op) r)(ha:PE X a ta):PE X (.UnaryOp op a pos) (M5 r ta):=by
 intro ae s σ H Q I h;exact UnaryOp_ (bC (ha ae s σ H _ I h) fun v s1 ⟨x,H1,I1,r1,q1⟩=>ho ae s1 σ H1 x v Q I1 r1 q1)
theorem HN{f:Value->Value->Sem Value}{C:Int->Int->Prop}{g:Int->Int->Int}(rule:∀ (i j:Int) (t u:Tok) (s:Shared) (Q:Value->Shared->Prop) (E:Value->Shared->Prop),C i j->Q (.int (g i j) s.toks) { s with toks:=s.toks+1 }->wpAny (model X.prog X.w) X.A (f (.int i t) (.int j u)) Q E s):
  iQ X f (rI C fun i j=>.int (g i j)):=by
 intro ae s σ H x y v u Q I rx ry h;obtain⟨i,j,rfl,rfl,hc,q⟩:=h;obtain⟨t,rfl⟩:=rx;obtain⟨t',rfl⟩:=ry;exact rule i j t t' s _ _ hc ⟨.int (g i j),H,I.tok _,⟨_,rfl⟩,q⟩
theorem IQ{f:Value->Value->Sem Value}{g:Int->Int->Int}(rule:∀ (i j:Int) (t u:Tok) (s:Shared) (Q:Value->Shared->Prop) (E:Value->Shared->Prop),Q (.int (g i j) s.toks) { s with toks:=s.toks+1 }->wpAny (model X.prog X.w) X.A (f (.int i t) (.int j u)) Q E s):
  iQ X f (Em fun i j=>.int (g i j)):=by
 intro ae s σ H x y v u Q I rx ry h;obtain⟨i,j,rfl,rfl,q⟩:=h;obtain⟨t,rfl⟩:=rx;obtain⟨t',rfl⟩:=ry;exact rule i j t t' s _ _ ⟨.int (g i j),H,I.tok _,⟨_,rfl⟩,q⟩
theorem Fs{f:Value->Value->Sem Value}{g:Int->Int->Bool}(rule:∀ (i j:Int) (t u:Tok) (s:Shared) (Q:Value->Shared->Prop) (E:Value->Shared->Prop),Q (.bool (g i j)) s->wpAny (model X.prog X.w) X.A (f (.int i t) (.int j u)) Q E s):
  iQ X f (Em fun i j=>.bl (g i j)):=by
 intro ae s σ H x y v u Q I rx ry h;obtain⟨i,j,rfl,rfl,q⟩:=h;obtain⟨t,rfl⟩:=rx;obtain⟨t',rfl⟩:=ry;exact rule i j t t' s _ _ ⟨.bl (g i j),H,I,rfl,q⟩
def Ft(i j:Int):Prop:=0<j/\j<1073741824
def M6(i j:Int):Prop:=0<=j/\j<=1000000/\i.natAbs<2 ^ 64
def zd(i j:Int):Prop:=(-(2 ^ 64)<i/\i<2 ^ 64)\/(-(2 ^ 64)<j/\j<2 ^ 64)
theorem zd.ok(h:zd i j):IntMulOk i j:=by
 rcases h with ⟨h1,h2⟩|⟨h1,h2⟩
 .exact .of_left (intBits_le_64 h1 h2)
 .exact .of_right (intBits_le_64 h1 h2)
theorem dX:iQ X (binaryOp .Add) (Em fun i j=>.int (i+j)):=IQ fun _ _ _ _ _ _ _ q=>add_int q
theorem kN:iQ X (binaryOp .Sub) (Em fun i j=>.int (i-j)):=IQ fun _ _ _ _ _ _ _ q=>sub_int q
theorem kO:iQ X (binaryOp .Mult) (rI zd fun i j=>.int (i*j)):=HN fun _ _ _ _ _ _ _ hc q=>mul_int q hc.ok
theorem lV:iQ X (binaryOp .FloorDiv) (rI Ft fun i j=>.int (i / j)):=HN fun i j _ _ _ _ _ hc q=>by
 have h1:(0:Int)<j:=hc.1;have h2:j<1073741824:=hc.2;exact floordiv_int (by lia) (by rw[pZ i (by lia)];exact q) (.inl (PyProof.noPylong_small (by lia)))
theorem hU:iQ X (binaryOp .Mod) (rI (fun _ j=>0<j) fun i j=>.int (i % j)):=HN fun i j _ _ _ _ _ hc q=>by
 have h1:(0:Int)<j:=hc;exact mod_int' (by lia) (by rw[tG i (by lia)];exact q)
theorem uT:iQ X (binaryOp .Pow) (rI M6 fun i j=>.int (i ^ j.toNat)):=HN fun _ _ _ _ _ _ _ hc q=>pow_int_small hc.1 hc.2.1 hc.2.2 q
theorem ze:iQ X (inplaceOp .FloorDiv) (rI Ft fun i j=>.int (i / j)):=HN fun i j _ _ _ _ _ hc q=>by
 have h1:(0:Int)<j:=hc.1;have h2:j<1073741824:=hc.2;exact ifloordiv_int (by lia) (by rw[pZ i (by lia)];exact q) (.inl (PyProof.noPylong_small (by lia)))
theorem Sb{f:Value->Sem Value}{g:Int->Int}(rule:∀ (i:Int) (t:Tok) (s:Shared) (Q:Value->Shared->Prop) (E:Value->Shared->Prop),Q (.int (g i) s.toks) { s with toks:=s.toks+1 }->wpAny (model X.prog X.w) X.A (f (.int i t)) Q E s):
  M4 X f (rU fun i=>.int (g i)):=by
 intro ae s σ H x v Q I rx h;obtain⟨i,rfl,q⟩:=h;obtain⟨t,rfl⟩:=rx;exact rule i t s _ _ ⟨.int (g i),H,I.tok _,⟨_,rfl⟩,q⟩
theorem kP:M4 X (unaryOp .USub) (rU fun i=>.int (-i)):=Sb fun _ _ _ _ _ q=>neg_int q
end
def Fu:V->V->Bool
 |.bt,.bt=>true|.bt,.int _=>true|.int _,.bt=>true|.bt,.bl _=>true|.bl _,.bt=>true|.bt,.str _=>true|.str _,.bt=>true
 |.int _,.int _=>true|.bl _,.bl _=>true|.str _,.str _=>true|.yu _,.yu _=>true
 |.int _,.str _=>true|.str _,.int _=>true|.bl _,.str _=>true|.str _,.bl _=>true
 |_,_=>false
def M7:R2:=fun x y H Q=>Fu x y=true/\Q (.bl (decide (x=y))) H
def Qy:R2:=fun x y H Q=>Fu x y=true/\Q (.bl (!decide (x=y))) H
theorem v6:decide (V.int i=V.int j)=(i==j):=by
 rw[jc];simp
theorem zf:decide (V.bl i=V.bl j)=(i==j):=by
 rw[jc];simp
theorem v7:decide (V.str i=V.str j)=(i==j):=by
 rw[jc];simp
theorem v8:decide (V.yu i=V.yu j)=(i.toList==j.toList):=by
 rw[jc];cases i;cases j;simp
section
variable {X:Cx} {a b c:Expr} {ta tb tc:TE} {pos:Pos}
theorem aW(I:aA X ae σ H s)(q:Q (.bl k) H)(e:k=k'):EP X ae σ Q (.bool k') s:=by
 subst e;exact⟨.bl k,H,I,rfl,q⟩
theorem ng:iQ X (compareOp .Eq) M7:=by
 intro ae s σ H x y v u Q I rx ry h;obtain⟨hs,q⟩:=h;cases x with
 |bt=>
  cases rx;cases y with
  |bt=>cases ry;exact PySem.EqNone.eq_none_none (aW I q (by simp))
  |bl j=>cases ry;exact PySem.EqNone.eq_none_bool (aW I q (by simp))
  |int j=>obtain⟨t',rfl⟩:=ry;exact PySem.EqNone.eq_none_int (aW I q (by simp))
  |str j=>obtain⟨t',rfl⟩:=ry;exact PySem.EqNone.eq_none_str (aW I q (by simp))
  |_=>exact absurd (show false=true from hs) bE
 |bl i=>
  cases rx;cases y with
  |bt=>cases ry;exact PySem.EqNone.eq_bool_none (aW I q (by simp))
  |bl j=>cases ry;exact eq_bool (aW I q zf)
  |str j=>obtain⟨t',rfl⟩:=ry;exact PySem.EqMixed.eq_bool_str (aW I q (by simp))
  |_=>exact absurd (show false=true from hs) bE
 |int i=>
  obtain⟨t,rfl⟩:=rx;cases y with
  |bt=>cases ry;exact PySem.EqNone.eq_int_none (aW I q (by simp))
  |int j=>obtain⟨t',rfl⟩:=ry;exact eq_int (aW I q v6)
  |str j=>obtain⟨t',rfl⟩:=ry;exact PySem.EqMixed.eq_int_str (aW I q (by simp))
  |_=>exact absurd (show false=true from hs) bE
 |str i=>
  obtain⟨t,rfl⟩:=rx;cases y with
  |bt=>cases ry;exact PySem.EqNone.eq_str_none (aW I q (by simp))
  |bl j=>cases ry;exact PySem.EqMixed.eq_str_bool (aW I q (by simp))
  |int j=>obtain⟨t',rfl⟩:=ry;exact PySem.EqMixed.eq_str_int (aW I q (by simp))
  |str j=>obtain⟨t',rfl⟩:=ry;exact eq_str (aW I q v7)
  |_=>exact absurd (show false=true from hs) bE
 |yu i=>
  obtain⟨t,rfl⟩:=rx;cases y with
  |yu j=>obtain⟨t',rfl⟩:=ry;exact PySem.W.eq_bytes (aW I q v8)
  |_=>exact absurd (show false=true from hs) bE
 |_=>cases y <;> exact absurd (show false=true from hs) bE
theorem nh:iQ X (compareOp .NotEq) Qy:=by
 intro ae s σ H x y v u Q I rx ry h;obtain⟨hs,q⟩:=h;cases x with
 |bt=>
  cases rx;cases y with
  |bt=>cases ry;exact PySem.EqNone.ne_none_none (aW I q (by simp))
  |bl j=>cases ry;exact PySem.EqNone.ne_none_bool (aW I q (by simp))
  |int j=>obtain⟨t',rfl⟩:=ry;exact PySem.EqNone.ne_none_int (aW I q (by simp))
  |str j=>obtain⟨t',rfl⟩:=ry;exact PySem.EqNone.ne_none_str (aW I q (by simp))
  |_=>exact absurd (show false=true from hs) bE
 |bl i=>
  cases rx;cases y with
  |bt=>cases ry;exact PySem.EqNone.ne_bool_none (aW I q (by simp))
  |bl j=>cases ry;exact ne_bool (aW I q (congrArg not zf))
  |str j=>obtain⟨t',rfl⟩:=ry;exact PySem.EqMixed.ne_bool_str (aW I q (by simp))
  |_=>exact absurd (show false=true from hs) bE
 |int i=>
  obtain⟨t,rfl⟩:=rx;cases y with
  |bt=>cases ry;exact PySem.EqNone.ne_int_none (aW I q (by simp))
  |int j=>obtain⟨t',rfl⟩:=ry;exact ne_int (aW I q (congrArg not v6))
  |str j=>obtain⟨t',rfl⟩:=ry;exact PySem.EqMixed.ne_int_str (aW I q (by simp))
  |_=>exact absurd (show false=true from hs) bE
 |str i=>
  obtain⟨t,rfl⟩:=rx;cases y with
  |bt=>cases ry;exact PySem.EqNone.ne_str_none (aW I q (by simp))
  |bl j=>cases ry;exact PySem.EqMixed.ne_str_bool (aW I q (by simp))
  |int j=>obtain⟨t',rfl⟩:=ry;exact PySem.EqMixed.ne_str_int (aW I q (by simp))
  |str j=>obtain⟨t',rfl⟩:=ry;exact ne_str (aW I q (congrArg not v7))
  |_=>exact absurd (show false=true from hs) bE
 |yu i=>
  obtain⟨t,rfl⟩:=rx;cases y with
  |yu j=>obtain⟨t',rfl⟩:=ry;exact PySem.W.ne_bytes (aW I q (congrArg not v8))
  |_=>exact absurd (show false=true from hs) bE
 |_=>cases y <;> exact absurd (show false=true from hs) bE
theorem o7:iQ X (compareOp .Lt) (Em fun i j=>.bl (decide (i<j))):=Fs fun _ _ _ _ _ _ _ q=>lt_int q
theorem zg:iQ X (compareOp .LtE) (Em fun i j=>.bl (decide (i<=j))):=Fs fun _ _ _ _ _ _ _ q=>le_int q
theorem zh:iQ X (compareOp .Gt) (Em fun i j=>.bl (decide (j<i))):=Fs fun _ _ _ _ _ _ _ q=>gt_int q
theorem uU:iQ X (compareOp .Is) (fun x y H Q=>y=.bt/\Q (.bl (decide (x=.bt))) H):=by
 intro ae s σ H x y v u Q I rx ry h;obtain⟨rfl,q⟩:=h;cases ry;refine is_none_gen (aW I q ?_);cases x <;> first
  |(cases rx;rfl)
  |(obtain⟨t,rfl⟩:=rx;rfl)
theorem B0:iQ X (compareOp .IsNot) (fun x y H Q=>y=.bt/\Q (.bl (!decide (x=.bt))) H):=by
 intro ae s σ H x y v u Q I rx ry h;obtain⟨rfl,q⟩:=h;cases ry;refine isnot_none_gen (aW I q ?_);cases x <;> first
  |(cases rx;rfl)
  |(obtain⟨t,rfl⟩:=rx;rfl)
theorem a7(b:Expr)(h:op≠.In:=by decide)(h2:op≠.NotIn:=by decide):behindInMarks op b=false:=by
 have e1:(op==CmpOp.In)=false:=by cases op <;> first|rfl|exact absurd rfl h
 have e2:(op==CmpOp.NotIn)=false:=by cases op <;> first|rfl|exact absurd rfl h2
 cases b <;> simp[behindInMarks,e1,e2]
theorem iD(ho:iQ X (compareOp op) r)(ha:PE X a ta)(hb:PE X b tb)(hm:behindInMarks op b=false):PE X (.Compare a [op] [b] pos) (uS r ta tb):=by
 intro ae s σ H Q I h;exact wpAny_Compare1 (Fq ha hb I h fun v u s2 x y H2 I2 rx ry q=>ho ae s2 σ H2 x y v u Q I2 rx ry q) hm
def o8(t:TE):TT:=fun σ H Q=>t σ H fun x H'=>∃k,x=.bl k/\Q k H'
theorem aR(ho:iQ X (compareOp op) r)(ha:PE X a ta)(hb:PE X b tb)(hm:behindInMarks op b=false):PT X (.Compare a [op] [b] pos) (o8 (uS r ta tb)):=by
 intro ae s σ H Q I h;refine wpAny_isTrue_Compare1 (bC (ha ae s σ H _ I h) fun v s1 ⟨x,H1,I1,r1,q1⟩=>bC (hb ae s1 σ H1 _ I1 q1) fun u s2 ⟨y,H2,I2,r2,q2⟩=>
  bC (ho ae s2 σ H2 x y v u _ I2 r1 r2 q2) fun c s3 ⟨z,H3,I3,r3,k,e,q3⟩=>?_) hm
 subst e;cases r3;exact i_ ⟨H3,I3,q3⟩
def zi(r r':R2)(ta tb tc:TE):TE:=fun σ H Q=>ta σ H fun x H1=>tb σ H1 fun y H2=>r x y H2 fun z H3=>∃k,z=.bl k/\
 (if k=true then tc σ H3 fun w' H4=>r' y w' H4 Q else Q (.bl false) H3)
theorem zj(ho:iQ X (compareOp op) r)(o4:iQ X (compareOp HP) r')(ha:PE X a ta)(hb:PE X b tb)(hc:PE X c tc)(hm:lastMarks [op,HP] [b,c]=false:=by with_unfolding_all rfl):PE X (.Compare a [op,HP] [b,c] pos) (zi r r' ta tb tc):=by
 intro ae s σ H Q I h;refine Compare_chain (bC (ha ae s σ H _ I h) fun v s1 ⟨x,H1,I1,r1,q1⟩=>chain_link (bC (hb ae s1 σ H1 _ I1 q1) fun u s2 ⟨y,H2,I2,r2,q2⟩=>
  bC (ho ae s2 σ H2 x y v u _ I2 r1 r2 q2) fun d s3 ⟨z,H3,I3,r3,k,e,q3⟩=>?_)) hm
 subst e;cases r3;refine i_ ?_;cases k with
 |false=>exact ite_ff ⟨.bl false,H3,I3,rfl,q3⟩
 |true=>exact ite_tt (chain_last (bC (hc ae s3 σ H3 _ I3 q3) fun w' s4 ⟨z',H4,I4,r4,q4⟩=>o4 ae s4 σ H4 y z' u w' Q I4 r2 r4 q4))
theorem zk{op HP:CmpOp}{r r':R2}(ho:iQ X (compareOp op) r)(o4:iQ X (compareOp HP) r')(ha:PE X a ta)(hb:PE X b tb)(hc:PE X c tc)(hm:lastMarks [op,HP] [b,c]=false:=by with_unfolding_all rfl):PT X (.Compare a [op,HP] [b,c] pos) (o8 (zi r r' ta tb tc)):=by
 intro ae s σ H Q I h;refine isTrue_chain (bC (ha ae s σ H _ I h) fun v s1 ⟨x,H1,I1,r1,q1⟩=>test_link (bC (hb ae s1 σ H1 _ I1 q1) fun u s2 ⟨y,H2,I2,r2,q2⟩=>
  bC (ho ae s2 σ H2 x y v u _ I2 r1 r2 q2) fun d s3 ⟨z,H3,I3,r3,k,e,q3⟩=>?_)) hm
 subst e;cases r3;refine i_ ?_;cases k with
 |false=>
  obtain⟨k',e',q'⟩:=q3;cases e';exact ite_ff ⟨H3,I3,q'⟩
 |true=>
  refine ite_tt (test_last (bC (hc ae s3 σ H3 _ I3 q3) fun w' s4 ⟨z',H4,I4,r4,q4⟩=>bC (o4 ae s4 σ H4 y z' u w' _ I4 r2 r4 q4) fun d' s5 ⟨z2,H5,I5,r5,k2,e2,q5⟩=>?_));subst e2;cases r5;exact i_ ⟨H5,I5,q5⟩
theorem ni:(sizeLine:Nat)<2 ^ 63:=by rw[gX];decide
theorem zm(r:aL [x] us):∃u,us=[u]/\aX x u:=by
 cases r with
 |cons r1 r2=>cases r2;exact⟨_,rfl,r1⟩
theorem zn(r:aL [x,y] us):∃u w',us=[u,w']/\aX x u/\aX y w':=by
 cases r with
 |cons r1 r2=>
  cases r2 with
  |cons r3 r4=>cases r4;exact⟨_,_,rfl,r1,r3⟩
theorem o9(hc:X.calm=true):eT X (.builtin "max") (fun xs H Q=>∃i j,xs=[.int i,.int j]/\Q (.int (if j > i then j else i)) H):=by
 intro ae s σ H xs us Q I r h;obtain⟨i,j,rfl,q⟩:=h;obtain⟨u,w',rfl,⟨t,rfl⟩,⟨t',rfl⟩⟩:=zn r;refine max_two_ints (I.ok.hd hc) fun h' tk k=>⟨_,H,I.kept k,?_,q⟩
 by_cases hj:j > i
 .rw[ak hj,ak hj];exact⟨_,rfl⟩
 .rw[al hj,al hj];exact⟨_,rfl⟩
theorem o_(hc:X.calm=true):eT X (.builtin "min") (fun xs H Q=>∃i j,xs=[.int i,.int j]/\Q (.int (if j<i then j else i)) H):=by
 intro ae s σ H xs us Q I r h;obtain⟨i,j,rfl,q⟩:=h;obtain⟨u,w',rfl,⟨t,rfl⟩,⟨t',rfl⟩⟩:=zn r;refine min_two_ints (I.ok.hd hc) fun h' tk k=>⟨_,H,I.kept k,?_,q⟩
 by_cases hj:j<i
 .rw[ak hj,ak hj];exact⟨_,rfl⟩
 .rw[al hj,al hj];exact⟨_,rfl⟩
end
structure uV(h:Heap)(x dx C:Addr)(mA:Str->Option Value):Prop where
 obj:h.get? x=some (PySem.W.instObj C dx)
 ns:h.Ns1 dx mA
 ne:dx≠x
theorem xm{h:Heap}{dx:Addr}{mA:Str->Option Value}(n:h.Ns1 dx mA):∃od,h.get? dx=some od/\∀name,PySem.W.lookIn name od=some (mA name):=by
 obtain⟨o,es,ep,ho,hd,hk,_,hm⟩:=n;refine⟨o,ho,fun name=>?_⟩;have e:=hm name;unfold nsFind findBy at e;rw[<-Array.find?_toList] at e;unfold PySem.W.lookIn;rw[hd];dsimp only;split
 .rename_i y q;rw[q] at e;exact congrArg some e
 .rename_i q;rw[q] at e;have a:es.toList.any (·.refKey)=false:=by
   rw[uj];intro y hy;obtain⟨z,t,oB⟩:=hk y (Array.mem_toList_iff.mp hy);simp[DictEntry.refKey,oB]
  have a':¬ es.toList.any (·.refKey)=true:=by rw[a];exact bE
  rw[al a'];exact congrArg some e
theorem uV.look(I:uV h x dx C mA):∃od,PySem.W.InstAt h x (PySem.W.instObj C dx) C (some od)/\∀name,PySem.W.lookIn name od=some (mA name):=
 let ⟨od,ho,hl⟩:=xm I.ns
 ⟨od,⟨I.obj,rfl,rfl,ho⟩,hl⟩
section
variable {prog:Program} {w:World} {A:Around} {E:Value->Shared->Prop} {s:Shared} {K:PySem.W.Frag} {x dx C f:Addr} {mA:Str->Option Value} {name:Str} {v:Value}
theorem B1(X:K.In s.heap)(I:uV s.heap x dx C mA)(hg:PySem.W.plainGet K C name=true)(hh:PySem.W.hasDictIn K C=true)(ha:PySem.W.findIn K (.ref C) name=some none)(hv:mA name=some v)(Fv:PySem.W.handedIn v=true)(h:Q v { s with toks:=s.toks+1 }):
  wpAny (model prog w) A (getAttr (.ref x) name B3) Q E s:=by
 obtain⟨od,J,hl⟩:=I.look;exact PySem.W.get_value X J (t_ hg).1 (PySem.W.findObj_own hh ha rfl (by rw[hl,hv])) Fv h
theorem zo(X:K.In s.heap)(I:uV s.heap x dx C mA)(hg:PySem.W.plainGet K C name=true)(hf:PySem.W.findIn K (.ref C) name=some (some (.ref f)))(ht:PySem.W.isFn K (.ref f)=true)(hv:mA name=none)(h:Q (.ref f,[.ref x]) s):
  wpAny (model prog w) A (getMethod (.ref x) name pl) Q E s:=by
 obtain⟨od,J,hl⟩:=I.look;exact PySem.W.method_fn X J (t_ hg).1 (t_ hg).2 hf (eH.mp ht) (by show (PySem.W.lookIn name od).map (·.isSome)=some false;rw[hl,hv];rfl) h
theorem B4(X:K.In s.heap)(I:uV s.heap x dx C mA)(hs:PySem.W.findIn K (.ref C) "__setattr__"=some (some (.builtin "object.__setattr__")))(hp:PySem.W.plainOver K C=true)(ht:PySem.W.takerIn K C name=some none)(hh:PySem.W.hasDictIn K C=true)(hw:PySem.Within mA ns)(j_:ns.length<=sizeLine)(h:∀h',uV h' x dx C (fun y=>if y=name then some v else mA y)->Heap.SameBut dx s.heap h'->Q () { s with heap:=h',toks:=s.toks+2 }):
  wpAny (model prog w) A (setAttr (.ref x) name v) Q E s:=by
 obtain⟨od,J,hl⟩:=I.look;refine PySem.W.set_plain X J hs (PySem.W.osa_open (s:={ s with toks:=s.toks+1 }) (r:=none) X J hp ht fun b=>?_);obtain⟨cd,hc,Eg⟩:=PySem.W.any_some hh;have hx:s.heap.get? x=some ⟨.ref C,some dx,.plain,#[]⟩:=I.obj;refine ao (wpAny_pure (ao (ao (wpAny_loadPart hx (ao (PySem.W.Looks.here (s:={ s with toks:=s.toks+1 }) (PySem.W.looks_clsIn X hc) ?_))))));rw[Eg];refine wpAny_pure (a:=some dx) (ao (wpAny_pure (ao ?_)));refine wpAny_nsSet1 (s:={ s with toks:=s.toks+1 }) I.ns fun h' HQ uW=>?_;obtain⟨oD,Vv,Vw,Sc,IR,B5⟩:=HQ.count (PySem.Within.cons name v hw);refine ao (wpAny_lookBehind Sc (by rw[IR];exact pastItsLine_dict (bb B5 (by rw[cI];lia))) ?_);exact wpAny_pure (h _ ⟨(uW.2 _ (cy I.ne)).trans I.obj,HQ,I.ne⟩ uW)
theorem zq(X:K.In s.heap)(hm:PySem.W.makesIn K C=true)(hi:PySem.W.findIn K (.ref C) "__init__"=some (some (.ref f)))(hf:PySem.W.typeIn K (.ref f)=some (.type "function"))(h:codeAny (model prog w) (A.under (.builtin "type.__call__" ⟨.ref C::vs,kw⟩)) (.call (.ref f) ⟨.ref (s.heap.objs.size+1)::vs,kw⟩) (PySem.W.InitBack (s.heap.objs.size+1) R)
   { s with heap:=(s.heap.push PySem.W.emptyDict).push (PySem.W.instObj C s.heap.objs.size) }):
  codeAny (model prog w) A (.call (.ref C) ⟨vs,kw⟩) R s:=by
 obtain⟨hh,g,d,t,os⟩:=s;exact PySem.W.make_core (PySem.W.makes_of X hm) (PySem.W.looks_findIn X hi) (fun self=>PySem.W.bind_fn X self hf) (.inl rfl) h
end
def bU(f:Str)(v:V):List (Str×V)->List (Str×V)
 |[]=>[(f,v)]
 |(g,x)::r=>if g=f then (g,v)::r else (g,x)::bU f v r
theorem aJ(f g:Str)(v:V):∀fs:List (Str×V),(bU f v fs).lookup g=if g=f then some v else fs.lookup g
 |[]=>by
  show List.lookup g [(f,v)]=_;by_cases h:g=f
  .have hb:(g==f)=true:=eH.mpr h;simp only[List.lookup,hb,ak h]
  .have hb:(g==f)=false:=ka.mpr h;simp only[List.lookup,hb,al h]
 |(k,x)::r=>by
  have ih:=aJ f g v r;rw[show bU f v ((k,x)::r)=(if k=f then (k,v)::r else (k,x)::bU f v r) from rfl];by_cases hk:k=f
  .rw[ak hk];by_cases h:g=k
   .have hb:(g==k)=true:=eH.mpr h;simp only[List.lookup,hb,ak (h.trans hk)]
   .have hb:(g==k)=false:=ka.mpr h;simp only[List.lookup,hb,al (fun e:g=f=>h (e.trans hk.symm))]
  .rw[al hk];by_cases h:g=k
   .have hb:(g==k)=true:=eH.mpr h;simp only[List.lookup,hb,al (fun e:g=f=>hk (h.symm.trans e))]
   .have hb:(g==k)=false:=ka.mpr h;simp only[List.lookup,hb];exact ih
theorem kQ(f:Str)(v:V):∀fs:List (Str×V),f∈(bU f v fs).map (·.1)/\∀g,g∈fs.map (·.1)->g∈(bU f v fs).map (·.1)
 |[]=>⟨by simp[bU],fun g h=>by simp at h⟩
 |(k,x)::r=>by
  obtain⟨i1,i2⟩:=kQ f v r;rw[show bU f v ((k,x)::r)=(if k=f then (k,v)::r else (k,x)::bU f v r) from rfl];by_cases hk:k=f
  .rw[ak hk];subst hk;exact⟨by simp,fun g h=>by simpa using h⟩
  .rw[al hk];refine⟨?_,fun g h=>?_⟩
   .rw[fN];exact bD _ i1
   .rw[fN] at h |-;rcases a_.mp h with e|e
    .exact a_.mpr (.inl e)
    .exact bD _ (i2 g e)
theorem cF(f:Str)(v:V):∀fs:List (Str×V),(bU f v fs).length<=fs.length+1
 |[]=>by simp[bU]
 |(k,x)::r=>by
  have ih:=cF f v r;rw[show bU f v ((k,x)::r)=(if k=f then (k,v)::r else (k,x)::bU f v r) from rfl];by_cases hk:k=f
  .rw[ak hk,cI,cI];lia
  .rw[al hk,cI,cI];lia
theorem oy.some_of(r:oy (some v) o):∃u,o=some u/\aX v u:=by
 cases o with
 |none=>exact(show False from r).elim
 |some u=>exact⟨u,rfl,r⟩
theorem oy.none_of(r:oy none o):o=none:=by
 cases o with
 |none=>rfl
 |some u=>exact(show False from r).elim
theorem xn(r:aX v u):PySem.W.handedIn u=true:=by
 cases v with
 |bt=>cases (show u=Value.none from r);rfl
 |bl b=>cases (show u=Value.bool b from r);rfl
 |int i=>obtain⟨t,e⟩:=(show ∃t,u=Value.int i t from r);cases e;rfl
 |str x=>obtain⟨t,e⟩:=(show ∃t,u=Value.str x t from r);cases e;rfl
 |yu b=>obtain⟨t,e⟩:=(show ∃t,u=Value.bytes b t from r);cases e;rfl
 |Fc b=>obtain⟨t,e⟩:=(show ∃t,u=Value.float b t from r);cases e;rfl
 |ref a=>cases (show u=Value.ref a from r);rfl
 |ty n=>cases (show u=Value.type n from r);rfl
section
variable {P:Program} {w:World} {H H':Hp} {h h':Heap} {a C dx:Addr} {fs R8:List (Str×V)}
theorem lW(be:jk P w H h)(e:H a=some (.ins C dx fs)):∃mA,uV h a dx C mA/\(∀f,oy (fs.lookup f) (mA f))/\PySem.Within mA (fs.map (·.1))/\fs.length<=1000/\H dx=some (.own a):=by
 obtain⟨d,z,ne,ob,mA,n,r,q⟩:=(show b8 P w H h a (.ins C dx fs) from be a _ e)
 exact⟨mA,⟨ob,n,ne⟩,r,q,z,d⟩
end
structure xo(K:PySem.W.Frag)(C:Addr):Prop where
 pg:PySem.W.plainGet K C Str.empty=true
 hd:PySem.W.hasDictIn K C=true
 po:PySem.W.plainOver K C=true
 sa:PySem.W.findIn K (.ref C) "__setattr__"=some (some (.builtin "object.__setattr__"))
theorem xo.get{K:PySem.W.Frag}{C:Addr}(c:xo K C)(f:Str):PySem.W.plainGet K C f=true:=c.pg
def dY(K:PySem.W.Frag)(C:Addr)(f:Str):Prop:=PySem.W.findIn K (.ref C) f=some none
theorem dY.IS{K:PySem.W.Frag}{C:Addr}{f:Str}(n:dY K C f):PySem.W.takerIn K C f=some none:=by
 unfold PySem.W.takerIn;rw[show PySem.W.findIn K (.ref C) f=some none from n];rfl
structure zu(K:PySem.W.Frag)(C:Addr)(m:Str)(f:Addr):Prop where
 at_:PySem.W.findIn K (.ref C) m=some (some (.ref f))
 fn:PySem.W.isFn K (.ref f)=true
 kp:PySem.W.keepIn K (.ref f)=true
section
variable {X:Cx} {ae:List (Addr×Obj)} {σ:St} {H:Hp} {s:Shared} {a C dx:Addr} {fs:List (Str×V)} {f:Str} {v:V} {A:Around} {E:Value->Shared->Prop}
theorem uX(I:aA X ae σ H s)(e:H a=some (.ins C dx fs))(c:xo X.K C)(n:dY X.K C f)(l:fs.lookup f=some v)(h:∀u s',aA X ae σ H s'->aX v u->Q u s'):wpAny (model X.prog X.w) A (getAttr (.ref a) f b) Q E s:=by
 obtain⟨mA,O,r,_,_,_⟩:=lW I.be e;obtain⟨u,hu,ru⟩:=oy.some_of (v:=v) (o:=mA f) (by rw[<-l];exact r f);exact B1 I.jl O (c.get f) c.hd n hu (xn ru) (h u _ (I.tok _) ru)
theorem jo(I:aA X ae σ H s)(e:H a=some (.ins C dx fs))(c:xo X.K C)(k:zu X.K C m g)(l:fs.lookup m=none)(h:Q (.ref g,[.ref a]) s):wpAny (model X.prog X.w) A (getMethod (.ref a) m pl) Q E s:=by
 obtain⟨mA,O,r,_,_,_⟩:=lW I.be e;have hn:mA m=none:=oy.none_of (by rw[<-l];exact r m);exact zo I.jl O (c.get m) k.at_ k.fn hn h
theorem uY(I:aA X ae σ H s)(e:H a=some (.ins C dx fs))(c:xo X.K C)(n:dY X.K C f)(hl:fs.length<1000)(ry:aX y u)(h:∀s',aA X ae σ (upd H a (.ins C dx (bU f y fs))) s'->Q () s'):wpAny (model X.prog X.w) A (setAttr (.ref a) f u) Q E s:=by
 obtain⟨mA,O,r,wi,_,ho⟩:=lW I.be e;have hz:(fs.map (·.1)).length<=sizeLine:=by rw[bJ,gX];lia
 refine B4 I.jl O c.sa c.po n.IS c.hd wi hz fun h' O' sb=>h _ ?_;have hd:∃o,h'.get? dx=some o:=let ⟨o,_,_,e',_⟩:=O'.ns;⟨o,e'⟩;refine I.write (x:=a) (e:=dx) (by rw[e];exact True.intro) (.inr ho) (fun b q hb z=>(sb.2 b hb).trans z) hd ?_;refine⟨by rw[ap O.ne];exact ho,?_,O.ne,O'.obj,_,O'.ns,fun g=>?_,fun g hg=>?_⟩
 .have:=cF f y fs;lia
 .show oy ((bU f y fs).lookup g) (if g=f then some u else mA g);rw[aJ];by_cases q:g=f
  .rw[ak q,ak q];exact ry
  .rw[al q,al q];exact r g
 .by_cases q:g=f
  .rw[q];exact(kQ f y fs).1
  .refine(kQ f y fs).2 g (wi g fun z=>hg ?_);show (if g=f then some u else mA g)=none;rw[al q];exact z
theorem aA.made(I:aA X ae σ H s):aA X ae σ (upd (upd H s.heap.objs.size (.own (s.heap.objs.size+1))) (s.heap.objs.size+1) (.ins C s.heap.objs.size []))
  { s with heap:=(s.heap.push PySem.W.emptyDict).push (PySem.W.instObj C s.heap.objs.size) }:=by
 have e1:(s.heap.push PySem.W.emptyDict).get? s.heap.objs.size=some PySem.W.emptyDict:=b_ s.heap rfl;have e2:((s.heap.push PySem.W.emptyDict).push (PySem.W.instObj C s.heap.objs.size)).get? (s.heap.objs.size+1)=some (PySem.W.instObj C s.heap.objs.size):=by
  have:=b_ (s.heap.push PySem.W.emptyDict) (o:=PySem.W.instObj C s.heap.objs.size) rfl;rwa [gP] at this
 have e3:(s.heap.push PySem.W.emptyDict).Ns s.heap.objs.size (fun _=>none):=⟨PySem.W.emptyDict,#[],_,e1,rfl,(fun e he=>absurd he (by simp)),fun _=>rfl⟩
 have I1:=I.laid (a:=s.heap.objs.size) (o:=.own (s.heap.objs.size+1)) (h':=s.heap.push PySem.W.emptyDict) (t':=s.toks) (fun b u q=>bf _ q) (aK _) ⟨_,e1⟩;refine I1.laid (a:=s.heap.objs.size+1) (o:=.ins C s.heap.objs.size []) (t':=s.toks) (fun b u q=>bf _ q) (qp (gP _ _)) ?_;have ne:s.heap.objs.size≠s.heap.objs.size+1:=aT (ja _);refine⟨by rw[ap ne,ag],cK _,ne,e2,fun _=>none,(Heap.Ns1.of_empty e3).at fun o q=>bf _ q,fun _=>True.intro,fun y hy=>absurd rfl hy⟩
theorem B6(hb:attributeBase e f env (eval e env)=eval e env)(h:wpAny (model prog w) A (eval e env) (fun o s₁=>wpAny (model prog w) A (getAttr o f true) Q E s₁) E s):wpAny (model prog w) A (eval (.Attribute e f pos) env) Q E s:=
 Attribute_any_ h (by rw[arm_eval_Attribute,hb])
end
def IT(K:PySem.W.Frag)(ta:TE)(f:Str):TE:=fun σ H Q=>ta σ H fun x H1=>∃a C dx fs v,x=.ref a/\H1 a=some (.ins C dx fs)/\xo K C/\dY K C f/\fs.lookup f=some v/\Q v H1
def M8(K:PySem.W.Frag)(ta tv:TE)(f:Str):TS:=fun D σ H=>tv σ H fun y H1=>ta σ H1 fun x H2=>∃a C dx fs,x=.ref a/\H2 a=some (.ins C dx fs)/\xo K C/\dY K C f/\fs.length<1000/\
 D.nx σ (upd H2 a (.ins C dx (bU f y fs)))
section
variable {X:Cx} {o e value:Expr} {f:Str} {pos xj yZ:Pos} {ta tv:TE}
theorem eZ(he:PE X e ta)(hb:attributeBase e f X.env (eval e X.env)=eval e X.env):PE X (.Attribute e f pos) (IT X.K ta f):=by
 intro ae s σ H Q I h;refine B6 hb (bC (he ae s σ H _ I h) fun u s1 ⟨x,H1,I1,rx,a,C,dx,fs,v,ex,ea,c,n,l,q⟩=>?_);subst ex;obtain rfl:u=Value.ref a:=rx;exact uX I1 ea c n l fun u' s2 I2 ru=>⟨v,H1,I2,ru,q⟩
theorem kR(ha:PE X o ta)(hv:PE X value tv)(hs:swapsWith value (some (.Attribute o f xj)) pos.line X.env=pure false):PS X (.Assign [.Attribute o f xj] value pos) (M8 X.K ta tv f):=by
 intro ae s σ H D I h;refine plainObj_wpAny_Assign_Attribute (bC (hv ae s σ H _ I h) fun u s1 ⟨y,H1,I1,ry,q⟩=>bC (ha ae s1 σ H1 _ I1 q) fun ov s2 ⟨x,H2,I2,rx,a,C,dx,fs,ex,ea,c,n,l,q2⟩=>?_) hs;subst ex;obtain rfl:ov=Value.ref a:=rx;exact uY I2 ea c n l ry fun s3 I3=>⟨σ,_,I3,q2⟩
end
section
variable {X:Cx} {ae:List (Addr×Obj)} {σ:St} {H:Hp} {s:Shared} {A:Around} {E:Value->Shared->Prop} {Q:Value->Shared->Prop} {c:Value} {b:Bool}
inductive kS (K:PySem.W.Frag) (H:Hp):V->Value->Prop where
 |bt:kS K H .bt (.type "NoneType")
 |bl (x:Bool):kS K H (.bl x) (.type "bool")
 |int (i:Int):kS K H (.int i) (.type "int")
 |str (x:Str):kS K H (.str x) (.type "str")
 |Fc (x:UInt64):kS K H (.Fc x) (.type "float")
 |lst {a:Addr} {xs:List V} (e:H a=some (.lst xs)):kS K H (.ref a) (.type "list")
 |o3 {a:Addr} {o:Obj} {xs:List V} (e:H a=some (.o3 o (.lst xs))):kS K H (.ref a) (.type "list")
 |tup {a:Addr} {xs:List V} (e:H a=some (.tup xs)):kS K H (.ref a) (.type "tuple")
 |dK {a:Addr} {jH:List (ow×V)} (e:H a=some (.dK jH)):kS K H (.ref a) (.type "dict")
 |dT {a:Addr} {jH:List (List ow×V)} (e:H a=some (.dT jH)):kS K H (.ref a) (.type "dict")
 |ins {a C dx:Addr} {fs:List (Str×V)} (e:H a=some (.ins C dx fs)) (cl:xo K C) (ha:PySem.W.findIn K (.ref C) "__class__"=some (some (.builtin "object.__class__")))
   (hn:PySem.W.specialIn K (.builtin "object.__class__") "__get__"=some (some (.builtin "getset_descriptor.__get__"))) (M9:PySem.W.takesIn K (.builtin "object.__class__")=some true)
   (hm:PySem.W.mroIn K C (.type "object")=some true):kS K H (.ref a) (.ref C)
theorem pb(I:aA X ae σ H s)(rx:aX x u)(ty:kS X.K H x t)(e:PySem.W.kitOne X.K t c=some b)(h:∀tk,Q (.bool b) { s with toks:=tk }):
  wpAny (model X.prog X.w) A (call (.builtin "isinstance") [u,c]) Q E s:=by
 cases ty with
 |bt=>cases (show u=Value.none from rx);exact fm PySem.W.kitx_none I.jl True.intro e (fun z=>nomatch z) h
 |bl y=>cases (show u=Value.bool y from rx);exact fm PySem.W.kitx_bool I.jl True.intro e (fun z=>nomatch z) h
 |int i=>obtain⟨t,q⟩:=(show ∃t,u=Value.int i t from rx);cases q;exact fm PySem.W.kitx_int I.jl True.intro e (fun z=>nomatch z) h
 |str y=>obtain⟨t,q⟩:=(show ∃t,u=Value.str y t from rx);cases q;exact fm PySem.W.kitx_str I.jl True.intro e (fun z=>nomatch z) h
 |Fc y=>obtain⟨t,q⟩:=(show ∃t,u=Value.float y t from rx);cases q;exact fm PySem.W.kitx_float I.jl True.intro e (fun z=>nomatch z) h
 |@lst a xs ea=>
  cases (show u=Value.ref a from rx);obtain⟨_,_,n,_,h1⟩:=(show b8 X.prog X.w H s.heap a (.lst xs) from I.be a _ ea)
  exact fm PySem.W.kitx_list I.jl ⟨_,h1,rfl⟩ e (fun z=>nomatch z) h
 |@o3 a ob xs ea=>
  cases (show u=Value.ref a from rx);obtain⟨_,_,_,n,_,h1⟩:=(show b8 X.prog X.w H s.heap a (.o3 ob (.lst xs)) from I.be a _ ea)
  exact fm PySem.W.kitx_list I.jl ⟨_,h1,rfl⟩ e (fun z=>nomatch z) h
 |@tup a xs ea=>
  cases (show u=Value.ref a from rx);obtain⟨_,_,_,p⟩:=(show b8 X.prog X.w H s.heap a (.tup xs) from I.be a _ ea)
  obtain⟨o,h1,h2,_⟩:=p;exact fm PySem.W.kitx_tuple I.jl ⟨o,h1,h2⟩ e (fun z=>nomatch z) h
 |@dK a jH ea=>
  cases (show u=Value.ref a from rx);obtain⟨_,_,vs,_,p⟩:=(show b8 X.prog X.w H s.heap a (.dK jH) from I.be a _ ea)
  obtain⟨o,es,ep,h1,h2,_⟩:=p;exact fm PySem.W.kitx_dict I.jl ⟨o,h1,h2.1⟩ e (fun z=>nomatch z) h
 |@dT a jH ea=>
  cases (show u=Value.ref a from rx);obtain⟨_,_,xs,_,o,es,ep,h1,h2,_⟩:=(show b8 X.prog X.w H s.heap a (.dT jH) from I.be a _ ea)
  exact fm PySem.W.kitx_dict I.jl ⟨o,h1,h2.1⟩ e (fun z=>nomatch z) h
 |@ins a C dx fs ea cl ha hn M9 hm=>
  cases (show u=Value.ref a from rx);obtain⟨mA,O,_⟩:=lW I.be ea;obtain⟨od,J,_⟩:=O.look;exact fm (PySem.W.kitx_own (cl.get _) cl.hd ha hn M9 hm) I.jl J e (fun z=>nomatch z) h
end
structure bh(k:Nat)(A:Around):Prop where
 hd:A.handled=none
 dp:A.depth+3*k+5<recursionLimit
 un:A.units+16*k+200<cLine
 gd:A.guards=some []
theorem bh.mono(r:bh k A)(h:j<=k):bh j A:=⟨r.hd,by have:=r.dp;lia,by have:=r.un;lia,r.gd⟩
theorem bh.deeper(r:bh (k+1) A)(env:Env):bh k (A.deeper env):=
 ⟨r.hd,by have:=r.dp;show A.depth+1+3*k+5<_;lia,by have:=r.un;show A.units+3+16*k+200<_;lia,r.gd⟩
theorem uZ{A:Around}{C:Addr}{us:List Value}{kw:List (Str×Value)}:(A.under (.builtin "type.__call__" ⟨.ref C::us,kw⟩)).depth=A.depth+1:=by
 first|rfl|simp[Around.under,Code.weight,Code.isCreation,Code.isGuard,Code.isCaller,Code.frames,Code.isFrame,guardIds]
theorem u5{A:Around}{C:Addr}{us:List Value}{kw:List (Str×Value)}:(A.under (.builtin "type.__call__" ⟨.ref C::us,kw⟩)).units=A.units+1:=by
 first|rfl|simp[Around.under,Code.cUnits,Code.frames,Code.isFrame]
theorem bh.make(r:bh (k+1) A)(C:Addr)(us:List Value)(kw:List (Str×Value)):bh k (A.under (.builtin "type.__call__" ⟨.ref C::us,kw⟩)):=
 ⟨r.hd,by have:=r.dp;rw[uZ];lia,by have:=r.un;rw[u5];lia,r.gd⟩
theorem bh.depth(r:bh k A):A.depth<recursionLimit:=by have:=r.dp;lia
theorem bh.u(r:bh k A)(h:n<=200:=by decide):A.units+n<cLine:=by have:=r.un;lia
def gD:TA:=fun _ H Q=>Q [] H
def ci(ta:TE)(tr:TA):TA:=fun σ H Q=>ta σ H fun x H1=>tr σ H1 fun xs H2=>Q (x::xs) H2
section
variable {X:Cx} {e:Expr} {es:List Expr} {te:TE} {t:TA} {pos:Pos}
theorem af:PA X [] gD:=fun _ _ _ _ H Q I h=>Calls.spliced_nil ⟨[],H,I,.nil,h⟩
theorem aa(ha:PE X e te)(hr:PA X es t)(hs:starEach (e::es) X.env=(false,eval e X.env)::starEach es X.env:=by rfl):PA X (e::es) (ci te t):=by
 intro pos ae s σ H Q I h;rw[hs];show wpAny _ _ (spliced ((false,eval e X.env)::backTo pos (starEach es X.env))) _ _ s;refine Calls.spliced_cons (bC (ha ae s σ H _ I h) fun u s1 ⟨x,H1,I1,r1,q1⟩=>?_);exact bC (hr pos ae s1 σ H1 _ I1 q1) fun us s2 ⟨xs,H2,I2,r2,q2⟩=>⟨x::xs,H2,I2,.cons r1 r2,q2⟩
def Fw(t:TA):TE:=fun σ H Q=>t σ H fun xs H1=>xs.length<=sizeLine/\∀p,H1 p=none->Q (.ref p) (upd H1 p (.tup xs))
def Fx(t:TA):TE:=fun σ H Q=>t σ H fun xs H1=>xs.length<=sizeLine/\∀p,H1 p=none->Q (.ref p) (upd H1 p (.lst xs))
theorem hV{x1}(h:PA X es t):PE X (.Tuple es x1 pos) (Fw t):=by
 intro ae s σ H Q I hq;refine wpAny_Tuple_spliced (bC (h pos ae s σ H _ I hq) fun us s1 ⟨xs,H1,I1,r,z,q⟩=>⟨by rw[<-r.length];exact z,?_⟩);have hf:H1 s1.heap.objs.size=none:=I1.be.fresh (aK _);refine⟨.ref s1.heap.objs.size,upd H1 s1.heap.objs.size (.tup xs),I1.laid (t':=s1.toks) (fun b u e=>bf _ e) (aK _) ?_,rfl,q _ hf⟩;exact⟨z,us,r,⟨_,b_ _ rfl,rfl,_,rfl,rfl⟩⟩
theorem bZ(h:PA X es t):PE X (.List es pos) (Fx t):=by
 intro ae s σ H Q I hq;refine wpAny_List_spliced (bC (h pos ae s σ H _ I hq) fun us s1 ⟨xs,H1,I1,r,z,q⟩=>⟨by rw[<-r.length];exact z,?_⟩);have hf:H1 s1.heap.objs.size=none:=I1.be.fresh (aK _);refine⟨.ref s1.heap.objs.size,upd H1 s1.heap.objs.size (.lst xs),I1.laid (t':=s1.toks) (fun b u e=>bf _ e) (aK _) ?_,rfl,q _ hf⟩;exact⟨z,us,0,r,b_ _ rfl⟩
end
abbrev Sp:=List V->Hp->VK->XK->Prop
abbrev lX:=List Env->Hp->Shared->XK->Value->Shared->Prop
structure qy(P:Program)(w:World)(K:PySem.W.Frag)(mg:Str->Option Value)(base:Heap)(A:Around)(outer:List Env)(s:Shared)(H:Hp):Prop where
 frames:A.frames=some outer
 mod:Mod K mg base
 bs:∀b o,base.get? b=some o->s.heap.get? b=some o/\H b=none
 xg:base.objs.size<=s.heap.objs.size
 g7:s.heap.FunFrames base outer
 yw:∀b∈i0 outer,H b=none
 be:jk P w H s.heap
 bare:AllBare s.gens
def CE(outer:List Env)(P:Program)(w:World)(H:Hp)(s:Shared)(Q:VK)(u:Value)(s':Shared):Prop:=
 ∃v H',s'.os=s.os/\AllBare s'.gens/\Un (i0 outer) [] H H' s.heap s'.heap/\jk P w H' s'.heap/\aX v u/\Q v H'
def CR(CX:lX)(outer:List Env)(P:Program)(w:World)(H:Hp)(s:Shared)(Q:VK)(E:XK)(r:Result)(s':Shared):Prop:=
 match r with
 |.ok (.ret u)=>CE outer P w H s Q u s'
 |.ok _=>False
 |.error e=>CX outer H s E e s'
structure aU(P:Program)(w:World)(K:PySem.W.Frag)(mg:Str->Option Value)(base:Heap)(CX:lX)(k:Nat)(f:Addr)(fd:FuncData)(ps:List Str)(sp:Sp):Prop where
 len:∀vs H Q E,sp vs H Q E->vs.length=ps.length
 run:∀ (A:Around) (outer:List Env) (s:Shared) (H:Hp) (args:Args) (us:List Value) (vs:List V) (Q:VK) (E:XK),bh k A->qy P w K mg base A outer s H->BindsTo s fd args (ps.zip us)->aL vs us->sp vs H Q E->
  codeAny (model P w) A (.call (.ref f) args) (CR CX outer P w H s Q E) s
theorem qy.make{P:Program}{w:World}{K:PySem.W.Frag}{mg:Str->Option Value}{base:Heap}{A:Around}{outer:List Env}{s:Shared}{H:Hp}(e:qy P w K mg base A outer s H)(C:Addr)(us:List Value)(kw:List (Str×Value)):
  qy P w K mg base (A.under (.builtin "type.__call__" ⟨.ref C::us,kw⟩)) outer s H:=⟨by first|exact e.frames|(simpa [Around.under,Code.envs,Code.isFrame,pushEnvs] using e.frames),e.mod,e.bs,e.xg,e.g7,e.yw,e.be,e.bare⟩
section
variable {X:Cx} {ae:List (Addr×Obj)} {σ:St} {H:Hp} {s s':Shared}
theorem aA.B7(I:aA X ae σ H s):qy X.prog X.w X.K X.mg X.base X.A X.stack s H:=
 ⟨I.ok.frames,I.ok.mod,I.bs,bb I.ok.xg I.sz,I.stack,I.qw,I.be,I.bare⟩
theorem aA.after(I:aA X ae σ H s)(h:CE X.stack X.prog X.w H s Q u s'):EP X ae σ Q u s':=by
 obtain⟨v,H',os,bare,un,be,r,q⟩:=h;obtain⟨hh,g,d,t,Qz⟩:=s';obtain rfl:Qz=s.os:=os;exact⟨v,H',I.call (h':=hh) (g':=g) (d':=d) (t':=t) (ch:=[]) un be bare (fun b z=>absurd z (by simp)),r,q⟩
end
def nj(sp:Sp)(f9:List V)(E:XK)(t:TA):TE:=fun σ H Q=>t σ H fun vs H1=>sp (vs++f9) H1 Q E
def En(C:Addr)(m:Str)(sp:Sp)(f9:List V)(E:XK)(ta:TE)(t:TA):TE:=fun σ H Q=>ta σ H fun x H1=>∃a dx fs,x=.ref a/\H1 a=some (.ins C dx fs)/\fs.lookup m=none/\
 t σ H1 fun vs H2=>sp (x::(vs++f9)) H2 Q E
def IU(C:Addr)(sp:Sp)(f9:List V)(E:XK)(t:TA):TE:=fun σ H Q=>t σ H fun vs H1=>∀x dx,H1 x=none->H1 dx=none->dx≠x->
 sp (.ref x::(vs++f9)) (upd (upd H1 dx (.own x)) x (.ins C dx [])) (fun v H2=>v=.bt/\Q (.ref x) H2) E
def dN(K:PySem.W.Frag)(fd:FuncData)(ps:List Str)(ds:List Value):Prop:=
 ∀ (s:Shared) (us:List Value),K.In s.heap->(us++ds).length=ps.length->BindsTo s fd ⟨us,[]⟩ (ps.zip (us++ds))
theorem dN.all{K:PySem.W.Frag}{fd:FuncData}{ps:List Str}(h:∀us:List Value,us.length=ps.length->bindArgs fd ⟨us,[]⟩=pure (ps.zip us)):dN K fd ps []:=fun s us _ hl=>by
 rw[qi] at hl |-;exact .of_eq (h us hl)
def dZ(CX:lX)(X:Cx)(E:XK):Prop:=∀ (ae:List (Addr×Obj)) (σ:St) (H:Hp) (s:Shared) (e:Value) (s':Shared),aA X ae σ H s->CX X.stack H s E e s'->X.xe e s'
section
variable {X:Cx} {CX:lX} {k:Nat} {f C:Addr} {fd:FuncData} {ps:List Str} {sp:Sp} {f9:List V} {ds:List Value} {E:XK} {x m:Str} {p pos iR:Pos} {e o:Expr} {es:List Expr} {ta:TE} {t:TA}
theorem u6(F:aU X.prog X.w X.K X.mg X.base CX k f fd ps sp)(hr:bh k X.A)(hb:dN X.K fd ps ds)(hd:aL f9 ds)(hx:dZ CX X E)(I:aA X ae σ H s)(r:aL vs us)(h:sp (vs++f9) H Q E):wpAny (model X.prog X.w) X.A (call (.ref f) us) (EP X ae σ Q) X.xe s:=by
 have r2:aL (vs++f9) (us++ds):=r.append hd;have hl:(us++ds).length=ps.length:=by rw[<-r2.length];exact F.len _ _ _ _ h
 refine kB (gT (F.run X.A X.stack s H ⟨us,[]⟩ (us++ds) (vs++f9) Q E hr I.B7 (hb s us I.jl hl) r2 h) fun r s' hq=>?_);cases r with
 |error e=>exact hx ae σ H s e s' I hq
 |ok fl=>
  cases fl with
  |ret u=>exact I.after hq
  |next=>exact False.elim hq
  |brk=>exact False.elim hq
  |cont=>exact False.elim hq
theorem B8(F:aU X.prog X.w X.K X.mg X.base CX k f fd ps sp)(hr:bh k X.A)(hg:Gl X x)(hm:X.mg x=some (.ref f))(hk:PySem.W.keepIn X.K (.ref f)=true)(hb:dN X.K fd ps ds)(hd:aL f9 ds)(hx:dZ CX X E)(ha:PA X (e::es) t)(oC:(x==("__debug__":Str))=false:=by decide)(he:starEach (e::es) X.env=(false,eval e X.env)::starEach es X.env:=by rfl)(lT:(backTo pos (starEach es X.env)).any (·.1)=false:=by rfl):
  PE X (.Call (.Name x p) (e::es) [] pos) (nj sp f9 E t):=by
 intro ae s σ H Q I h;refine kj (jI I hg hm ?_ oC);refine mC (h₀:=X.base) I.ok.mod.Bv hk (bC (ha pos ae s σ H _ I h) fun us s1 ⟨vs,H1,I1,r,q⟩=>⟨I1.jl,?_⟩) he lT;exact u6 F hr hb hd hx I1 r q
theorem cX(he:PE X o ta)(c:xo X.K C)(hm:zu X.K C m f)(F:aU X.prog X.w X.K X.mg X.base CX k f fd ps sp)(hr:bh k X.A)(hb:dN X.K fd ps ds)(hd:aL f9 ds)(hx:dZ CX X E)(ha:PA X (e::es) t)(iB:starEach (e::es) X.env=(false,eval e X.env)::starEach es X.env:=by rfl)(lT:(backTo pos (starEach es X.env)).any (·.1)=false:=by rfl)(ht:eval (.Call (.Attribute o m iR) (e::es) [] pos) X.env=(do
   let ov <- eval o X.env
   standAt iR.atName
   let (f,first) <- holding [ov] (getMethod ov m pl)
   callWith pos f first (backTo pos (starEach (e::es) X.env)) (backToKw pos (keywordEach [] X.env))):=by rfl):
  PE X (.Call (.Attribute o m iR) (e::es) [] pos) (En C m sp f9 E ta t):=by
 intro ae s σ H Q I h;refine tV (pl:=pl) (bC (he ae s σ H _ I h) fun u s1 ⟨x,H1,I1,rx,a,dx,fs,ex,ea,l,q⟩=>?_) ht;subst ex;obtain rfl:u=Value.ref a:=rx;refine jo I1 ea c hm l ?_;refine mC (first:=[.ref a]) (h₀:=X.base) I.ok.mod.Bv hm.kp (bC (ha pos ae s1 σ H1 _ I1 q) fun us s2 ⟨vs,H2,I2,r,q2⟩=>⟨I2.jl,?_⟩) iB lT;exact u6 (us:=.ref a::us) (vs:=.ref a::vs) F hr hb hd hx I2 (.cons rfl r) q2
theorem rH{pl:Sem Bool}(he:PE X o ta)(c:xo X.K C)(hm:zu X.K C m f)(F:aU X.prog X.w X.K X.mg X.base CX k f fd ps sp)(hr:bh k X.A)(hb:dN X.K fd ps ds)(hd:aL f9 ds)(hx:dZ CX X E)(ht:eval (.Call (.Attribute o m iR) [] [] pos) X.env=(do
   let ov <- eval o X.env
   standAt iR.atName
   let (f,first) <- holding [ov] (getMethod ov m pl)
   callWith pos f first (backTo pos (starEach [] X.env)) (backToKw pos (keywordEach [] X.env))):=by rfl):
  PE X (.Call (.Attribute o m iR) [] [] pos) (En C m sp f9 E ta gD):=by
 intro ae s σ H Q I h;refine tV (pl:=pl) (bC (he ae s σ H _ I h) fun u s1 ⟨x,H1,I1,rx,a,dx,fs,ex,ea,l,q⟩=>?_) ht;subst ex;obtain rfl:u=Value.ref a:=rx;refine jo I1 ea c hm l ?_;exact PySem.W.callWith_K0 (first:=[.ref a]) I1.jl hm.kp (u6 (us:=[.ref a]) (vs:=[.ref a]) F hr hb hd hx I1 (.cons rfl .nil) q)
structure Mk(K:PySem.W.Frag)(C f:Addr):Prop where
 makes:PySem.W.makesIn K C=true
 init:PySem.W.findIn K (.ref C) "__init__"=some (some (.ref f))
 fn:PySem.W.isFn K (.ref f)=true
 kp:PySem.W.keepIn K (.ref C)=true
theorem zw(M:Mk X.K C f)(F:aU X.prog X.w X.K X.mg X.base CX k f fd ps sp)(hr:bh (k+1) X.A)(hb:dN X.K fd ps ds)(hd:aL f9 ds)(hx:dZ CX X E)(I:aA X ae σ H s)(r:aL vs us)(h:∀x dx,H x=none->H dx=none->dx≠x->sp (.ref x::(vs++f9)) (upd (upd H dx (.own x)) x (.ins C dx [])) (fun v H2=>v=.bt/\Q (.ref x) H2) E):
  wpAny (model X.prog X.w) X.A (call (.ref C) us) (EP X ae σ Q) X.xe s:=by
 have hq:=h (s.heap.objs.size+1) s.heap.objs.size (I.be.fresh (Nat.le_succ _)) (I.be.fresh (aK _)) (aT (ja _));have I2:=aA.made (C:=C) I;have r2:aL (V.ref (s.heap.objs.size+1)::(vs++f9)) (Value.ref (s.heap.objs.size+1)::(us++ds)):=.cons rfl (r.append hd);have hl:(Value.ref (s.heap.objs.size+1)::us++ds).length=ps.length:=by
  have e:=r2.length;rw[F.len _ _ _ _ hq] at e;exact e.symm
 refine kB (zq (f:=f) I.jl M.makes M.init (eH.mp M.fn) (gT (F.run _ X.stack _ _ ⟨Value.ref (s.heap.objs.size+1)::us,[]⟩ (Value.ref (s.heap.objs.size+1)::(us++ds)) _ _ E (hr.make C us [])
  (I2.B7.make C us []) (hb _ (Value.ref (s.heap.objs.size+1)::us) I2.jl hl) r2 hq) fun r s' Fy=>?_))
 cases r with
 |error e=>exact hx ae σ _ _ e s' I2 Fy
 |ok fl=>
  cases fl with
  |ret u=>
   obtain⟨v,H',I3,rv,ev,q3⟩:=I2.after Fy;subst ev;exact⟨rv,⟨V.ref (s.heap.objs.size+1),H',I3,rfl,q3⟩⟩
  |next=>exact False.elim Fy
  |brk=>exact False.elim Fy
  |cont=>exact False.elim Fy
theorem v9(M:Mk X.K C f)(F:aU X.prog X.w X.K X.mg X.base CX k f fd ps sp)(hr:bh (k+1) X.A)(hg:Gl X x)(hm:X.mg x=some (.ref C))(hb:dN X.K fd ps ds)(hd:aL f9 ds)(hx:dZ CX X E)(ha:PA X (e::es) t)(oC:(x==("__debug__":Str))=false:=by decide)(he:starEach (e::es) X.env=(false,eval e X.env)::starEach es X.env:=by rfl)(lT:(backTo pos (starEach es X.env)).any (·.1)=false:=by rfl):
  PE X (.Call (.Name x p) (e::es) [] pos) (IU C sp f9 E t):=by
 intro ae s σ H Q I h;refine kj (jI I hg hm ?_ oC);refine mC (h₀:=X.base) I.ok.mod.Bv M.kp (bC (ha pos ae s σ H _ I h) fun us s1 ⟨vs,H1,I1,r,q⟩=>⟨I1.jl,?_⟩) he lT;exact zw M F hr hb hd hx I1 r q
end
def PK(X:Cx)(zx:List Keyword)(t:TA):Prop:=
 ∀ (pos:Pos) (ae:List (Addr×Obj)) (s:Shared) (σ:St) (H:Hp) (Q:List V->Hp->Prop),aA X ae σ H s->t σ H Q->wpAny (model X.prog X.w) X.A (evalAll ((backToKw pos (keywordEach zx X.env)).map (·.2))) (AP X ae σ Q) X.xe s
section
variable {X:Cx} {CX:lX} {k:Nat} {f C:Addr} {fd:FuncData} {ps ks:List Str} {sp:Sp} {E:XK} {x m:Str} {p pos iR M_:Pos} {e o:Expr} {es:List Expr} {zx:List Keyword} {te ta:TE} {t tk:TA} {nm:Option Str}
theorem Fz:PK X [] gD:=fun _ _ _ _ H Q I h=>wpAny_evalAll_nil ⟨[],H,I,.nil,h⟩
theorem B9(ha:PE X e te)(hr:PK X zx t):PK X (⟨nm,e,M_⟩::zx) (ci te t):=by
 intro pos ae s σ H Q I h;show wpAny _ _ (evalAll ((do let v <- eval e X.env;standAt pos;pure v)::(backToKw pos (keywordEach zx X.env)).map (·.2))) _ _ s;refine wpAny_evalAll_cons (ao (bC (ha ae s σ H _ I h) fun u s1 ⟨x,H1,I1,r1,q1⟩=>ao (ku (wpAny_pure ?_))));exact bC (hr pos ae s1 σ H1 _ I1 q1) fun us s2 ⟨xs,H2,I2,r2,q2⟩=>⟨x::xs,H2,I2,.cons r1 r2,q2⟩
variable {g:List Value->List Value->List Value} {gV:List V->List V->List V}
end
structure aw(N P:List Str)(sc:Scope):Prop where
 kind:sc.kind=.function
 co:sc.isCoroutine=false
 gen:sc.isGenerator=false
 nd:N.Nodup
 pre:N.take P.length=P
 par:∀x∈P,sc.names.lookup x=some .local\/sc.names.lookup x=some .cell
 zy:∀y∈sc.names,y.2≠.free
theorem pc{kindOf:Str->Option NameKind}{x:Str}:∀ {binds:List (Str×Value)} {m:Str->Option Value},(∀v,(x,v)∉binds)->bindL kindOf binds m x=m x
 |[],_,_=>rfl
 |(n,v)::r,m,h=>by
  unfold bindL;rw[pc fun w hw=>h w (bD _ hw)];split
  .have:x≠n:=by rintro rfl;exact h v b9
   simp[this]
  .rfl
theorem pe{kindOf:Str->Option NameKind}{x:Str}:∀ {binds:List (Str×Value)} {m:Str->Option Value},(∀v,(x,v)∉binds)->bindC kindOf binds m x=m x
 |[],_,_=>rfl
 |(n,v)::r,m,h=>by
  unfold bindC;rw[pe fun w hw=>h w (bD _ hw)];split
  .rfl
  .have:x≠n:=by rintro rfl;exact h v b9
   simp[this]
theorem kU{kindOf:Str->Option NameKind}{x:Str}{v:Value}:∀ {P:List Str} {vs:List Value} {i:Nat} {m:Str->Option Value},P.Nodup->P[i]?=some x->vs[i]?=some v->kindOf x=some .local->
  bindL kindOf (P.zip vs) m x=some v
 |[],_,_,_,_,h,_,_=>by simp at h
 |_::_,[],_,_,_,_,h,_=>by simp at h
 |p::P,w::vs,0,m,nd,h1,h2,hk=>by
  simp at h1 h2;subst h1;subst h2;show bindL kindOf ((p,w)::P.zip vs) m p=_;unfold bindL;rw[pc fun v hv=>(gv.mp nd).1 (kq hv).1,ak hk];simp
 |p::P,w::vs,i+1,m,nd,h1,h2,hk=>by
  show bindL kindOf ((p,w)::P.zip vs) m x=_;unfold bindL;exact kU (i:=i) (gv.mp nd).2 (by simpa using h1) (by simpa using h2) hk
theorem kW{kindOf:Str->Option NameKind}{x:Str}{v:Value}:∀ {P:List Str} {vs:List Value} {i:Nat} {m:Str->Option Value},P.Nodup->P[i]?=some x->vs[i]?=some v->kindOf x≠some .local->
  bindC kindOf (P.zip vs) m x=some v
 |[],_,_,_,_,h,_,_=>by simp at h
 |_::_,[],_,_,_,_,h,_=>by simp at h
 |p::P,w::vs,0,m,nd,h1,h2,hk=>by
  simp at h1 h2;subst h1;subst h2;show bindC kindOf ((p,w)::P.zip vs) m p=_;unfold bindC;rw[pe fun v hv=>(gv.mp nd).1 (kq hv).1,al hk];simp
 |p::P,w::vs,i+1,m,nd,h1,h2,hk=>by
  show bindC kindOf ((p,w)::P.zip vs) m x=_;unfold bindC;exact kW (i:=i) (gv.mp nd).2 (by simpa using h1) (by simpa using h2) hk
def start(N:List Str)(vs:List V):St:=vs.map some++List.replicate (N.length-vs.length) none
def fu(CX:lX)(P:Program)(w:World)(K:PySem.W.Frag)(mg:Str->Option Value)(base:Heap)(N:List Str)(qual:Str)(scope:Scope)(f:Addr)(cd:Value)(A:Around)(outer:List Env)(s:Shared)(H:Hp)(E:XK):Cx where
 prog:=P
 w:=w
 K:=K
 mg:=mg
 base:=base
 A:=A.deeper (envOfC qual scope s.heap.objs.size f cd)
 N:=N
 s₀:=s
 H₀:=H
 env:=envOfC qual scope s.heap.objs.size f cd
 outer:=outer
 stack:=envOfC qual scope s.heap.objs.size f cd::outer
 ex:=[]
 calm:=true
 fn:=fun _=>true
 pn:=[]
 xe:=fun e s'=>wpAny (model P w) (A.deeper (envOfC qual scope s.heap.objs.size f cd)) (leaving (envOfC qual scope s.heap.objs.size f cd) e) (fun _ B_=>CX outer H s E e B_) (fun e' B_=>CX outer H s E e' B_) s'
theorem jM{sc:Scope}{n:Nat}{x:Str}(h:sc.names.lookup x=some .cell):∃c,(cellsFrom n sc.names []).lookup x=some c:=by
 have q:=tR sc.names n [] (.inl h);exact tK.mp q
theorem xp{CX:lX}{P:Program}{w:World}{K:PySem.W.Frag}{mg:Str->Option Value}{base:Heap}{N ps:List Str}{qual:Str}{scope:Scope}{f:Addr}{cd:Value}{A:Around}{outer:List Env}{s s1:Shared}{H:Hp}{E:XK}{us:List Value}{vs:List V}(S:aw N ps scope)(hd:A.handled=none)(e0:qy P w K mg base A outer s H)(hl:vs.length=ps.length)(r:aL vs us)(x:InCallC s s.heap.objs.size (bindL (envOfC qual scope s.heap.objs.size f cd).kindOf (ps.zip us) fun _=>none) (cellsFrom (s.heap.objs.size+1) scope.names []) (bindC (envOfC qual scope s.heap.objs.size f cd).kindOf (ps.zip us) fun _=>none) s1):
  aA (fu CX P w K mg base N qual scope f cd A outer s H E) [] (start N vs) H s1:=by
 have lT:ps.length<=N.length:=by have:=congrArg List.length S.pre;rw[iY] at this;lia
 obtain⟨h1,tk,rfl,hk⟩:=x.done;have BB:∀b:Addr,b∉(fu CX P w K mg base N qual scope f cd A outer s H E).ex:=fun b z=>absurd (show b∈([]:List Addr) from z) (by simp);refine⟨⟨e0.mod,S.kind,rfl,rfl,aK _,fun y z c h1 h2=>?_,fun y hy=>?_,fun y c _ h=>?_,fun _=>hd,Around.frames_deeper e0.frames,.inr ⟨rfl,rfl⟩,fun b z=>absurd z (BB b),e0.bs,e0.xg,fun b _ _=>BB b,fun b z=>absurd z (BB b),e0.g7,e0.yw⟩,
  rfl,e0.bare,Un.kept hk,⟨_,x.toInCall.ns,fun i y v h1 h2 h3=>?_⟩,fun y c h=>⟨_,x.cell y c h⟩,e0.be.fresh (aK _),fun y c h=>?_,fun p hp=>absurd (show p∈([]:List (Addr×Obj)) from hp) (by simp),e0.be.kept hk,?_⟩
 .exact name_of_addr x.apart (fh h1) (fh h2)
 .have hy:scope.names.lookup y=some .cell\/scope.names.lookup y=some .free:=hy;rcases hy with hy|hy
  .exact jM hy
  .exact absurd rfl (S.zy _ (fh hy))
 .exact fR (x.above y c (fh h))
 .have hi:i<vs.length:=by
   unfold start at h2;by_cases hi:i<vs.length
   .exact hi
   .rw[pY (by simpa using hi)] at h2;rw[tP] at h2;split at h2 <;> cases h2
  have ha:vs[i]?=some v:=by
   unfold start at h2;rw[oQ (by simpa using hi),bQ] at h2;cases e:vs[i]? with
   |none=>rw[e] at h2;cases h2
   |some a=>rw[e] at h2;cases h2;rfl
  obtain⟨u,hu,rv⟩:=r.get ha;have hp:ps[i]?=some y:=by
   rw[<-S.pre,yO (by lia)];exact h1
  have IW:ps.Nodup:=by rw[<-S.pre];exact S.nd.sublist (List.take_sublist _ _)
  refine⟨u,rv,?_⟩;rcases S.par y (cD hp) with k|k
  .exact .inl ⟨k,kU IW hp hu k⟩
  .obtain⟨c,e⟩:=jM (n:=s.heap.objs.size+1) k;refine .inr ⟨.inl k,c,e,?_⟩;have q:=x.cell y c e;rw[kW IW hp hu (by show scope.names.lookup y≠_;rw[k];decide)] at q;exact q
 .exact e0.be.fresh (fR (x.above y c (fh h)))
 .unfold start;show _=N.length;rw[gK,bJ,mq];lia
theorem zz{CX:lX}{P:Program}{w:World}{K:PySem.W.Frag}{mg:Str->Option Value}{base:Heap}{k:Nat}{f:Addr}{name qual:Str}{params:Arguments}{body:List Stmt}{scope:Scope}{dV kV iE pm bX ct oc:Value}{an od:Option Addr}{pf:Array (Option Value)}{N ps:List Str}{sp:Sp}(lk:K.lookup f=some ⟨oc,od,.func (PySem.W.fnOf name qual params body scope dV kV iE pm an bX ct),pf⟩)(lx:PySem.W.codeIn K bX qual=true)(S:aw N ps scope)(len:∀vs H Q E,sp vs H Q E->vs.length=ps.length)(hX:∀ (A:Around) (outer:List Env) (s:Shared) (H:Hp) (vs:List V) (Q:VK) (E:XK),bh k (A.deeper (envOfC qual scope s.heap.objs.size f bX))->sp vs H Q E->
   ∃t,om (fu CX P w K mg base N qual scope f bX A outer s H E) body t/\t { nx:=fun _ H'=>Q .bt H',rt:=Q } (start N vs) H):
  aU P w K mg base CX (k+1) f (PySem.W.fnOf name qual params body scope dV kV iE pm an bX ct) ps sp:=by
 refine⟨len,fun A outer s H args us vs Q E hr e0 hb r rJ=>?_⟩;have hl:=len _ _ _ _ rJ;have KX:K.In s.heap:=e0.mod.Bv.keeps fun b o e=>(e0.bs b o e).1;have Na:s.heap.NoLimit:=e0.mod.nolimit.keeps fun b o e=>(e0.bs b o e).1;have zA:∀y∈ps.zip us,scope.names.lookup y.1=some .local\/(scope.names.lookup y.1=some .cell/\((cellsFrom (s.heap.objs.size+1) scope.names []).lookup y.1).isSome=true):=fun ⟨n,v⟩ hy=>by
  rcases S.par n (kq hy).1 with q|q
  .exact .inl q
  .exact .inr ⟨q,tR _ _ _ (.inl q)⟩
 refine codeAny_call_function hr.depth (KX _ _ lk) rfl S.co S.gen rfl (PySem.W.codeRec_of KX lx) (hb _ _ _ _ ?_);refine wpAny_newFunctionEnv_cells S.kind zA fun env he s1 x=>?_;subst he;refine⟨Na.keeps x.toInCall.keep,codeAny_func ?_⟩;obtain⟨t,ht,hq⟩:=hX A outer s H vs Q E (hr.deeper _) rJ;have I:aA (fu CX P w K mg base N qual scope f bX A outer s H E) [] (start N vs) H s1:=xp S hr.hd e0 hl r x;refine eX (ht [] s1 (start N vs) H _ I hq) (fun fl s' hs=>?_) fun e s' hs=>hs;have cN:∀ {σ':St} {H':Hp} {v:V} {u:Value},aA (fu CX P w K mg base N qual scope f bX A outer s H E) [] σ' H' s'->aX v u->Q v H'->CE outer P w H s Q u s':=
  fun {σ' H' v u} J rv q=>⟨v,H',J.os,J.bare,J.base,J.be,rv,q⟩
 cases fl with
 |ret u=>
  obtain⟨v,σ',H',J,rv,q⟩:=hs;exact cN J rv q
 |next=>
  obtain⟨σ',H',J,q⟩:=hs;exact cN (v:=V.bt) (u:=Value.none) J rfl q
 |brk=>
  obtain⟨_,_,_,q⟩:=hs;exact False.elim q
 |cont=>
  obtain⟨_,_,_,q⟩:=hs;exact False.elim q
section
variable {X:Cx} {x:Str} {p pos:Pos} {e:Expr} {es:List Expr} {t:TA} {id T:String} {r:List V->Hp->VK->Prop}
def Nb(r:List V->Hp->VK->Prop)(t:TA):TE:=fun σ H Q=>t σ H fun vs H1=>r vs H1 Q
theorem az(hc:eT X (.builtin id) r)(hg:Gl X x)(hm:X.mg x=none)(hv:bootBuiltins x=some (.builtin id))(ha:PA X (e::es) t)(hn:x≠"__name__":=by decide)(oC:(x==("__debug__":Str))=false:=by decide)(he:starEach (e::es) X.env=(false,eval e X.env)::starEach es X.env:=by rfl)(lT:(backTo pos (starEach es X.env)).any (·.1)=false:=by rfl):PE X (.Call (.Name x p) (e::es) [] pos) (Nb r t):=by
 intro ae s σ H Q I h;refine kj (kI I hg hm hv ?_ hn oC);exact PyProof.Rows.callWith_builtin1 (bC (ha pos ae s σ H _ I h) fun us s1 ⟨vs,H1,I1,r1,q1⟩=>hc ae s1 σ H1 vs us Q I1 r1 q1) he lT
theorem dq(hc:eT X (.type T) r)(hg:Gl X x)(hm:X.mg x=none)(hv:bootBuiltins x=some (.type T))(ha:PA X (e::es) t)(hn:x≠"__name__":=by decide)(oC:(x==("__debug__":Str))=false:=by decide)(he:starEach (e::es) X.env=(false,eval e X.env)::starEach es X.env:=by rfl)(lT:(backTo pos (starEach es X.env)).any (·.1)=false:=by rfl):PE X (.Call (.Name x p) (e::es) [] pos) (Nb r t):=by
 intro ae s σ H Q I h;refine kj (kI I hg hm hv ?_ hn oC);exact tD (bC (ha pos ae s σ H _ I h) fun us s1 ⟨vs,H1,I1,r1,q1⟩=>hc ae s1 σ H1 vs us Q I1 r1 q1) he lT
end
end L2
namespace HT
open PySem PyProof.Rows
section
open PySem.SeqAt
open PySem.AutoSeq1 (wpAny_loadPart')
open PySem.MeetsSeq PySem.MeetsSeq2 PySem.MeetsSeq3
end
section
variable {prog:Program} {w:World} {A:Around} {E:Value->Shared->Prop} {s:Shared}
def dB(n d:Nat):Option Int->Nat
 |none=>d
 |some v=>if v<0 then (v+(n:Int)).toNat else min v.toNat n
theorem FA(n d:Nat)(hd:d<=n)(o:Option Int):dB n d o<=n:=by
 cases o with
 |none=>exact hd
 |some v=>
  show (if v<0 then (v+(n:Int)).toNat else min v.toNat n)<=n;by_cases hv:v<0
  .rw[ak hv];lia
  .rw[al hv];exact Nat.min_le_right _ _
theorem v_(v:Int)(n d:Nat):(if v<0 then max (v+(n:Int)) 0 else min v (n:Int))=((dB n d (some v):Nat):Int):=by
 show (if v<0 then max (v+(n:Int)) 0 else min v (n:Int))=(((if v<0 then (v+(n:Int)).toNat else min v.toNat n):Nat):Int);by_cases hv:v<0
 .simp only[ak hv];lia
 .simp only[al hv];lia
theorem u7(lo hi:Option Int)(n:Nat):Builtin.Slice.sliceAdjust lo hi 1 (n:Int)=(((dB n 0 lo:Nat):Int),((dB n n hi:Nat):Int)):=by
 have h1:¬ ((1:Int)<0):=by lia
 unfold Builtin.Slice.sliceAdjust;simp only[h1,fT];refine jg ?_ ?_
 .cases lo with
  |none=>rfl
  |some v=>exact v_ v n 0
 .cases hi with
  |none=>rfl
  |some v=>exact v_ v n n
theorem u8(i j:Nat):Builtin.Slice.slicePlaces (i:Int) (j:Int) 1=j-i:=by
 unfold Builtin.Slice.slicePlaces;have h1:(1:Int) > 0:=by lia
 simp only[h1,if_true,Int.ediv_one];split <;> lia
theorem nk(p:IsPart v o)(h:Q o s):wpAny (model prog w) A (Builtin.Slice.slicePartIndex v) Q E s:=by
 cases p with
 |none=>exact slicePart_none h
 |int i t=>exact slicePart_int h
theorem fv{sl:Addr}{vl vu:Value}{lo hi:Option Int}{n:Nat}{Q:Int×Int×Nat->Shared->Prop}(hs:s.heap.IsSliceOf sl vl vu .none)(pl:IsPart vl lo)(pu:IsPart vu hi)(h:Q (((dB n 0 lo:Nat):Int),1,dB n n hi-dB n 0 lo) s):wpAny (model prog w) A (Builtin.Slice.sliceApplied (.ref sl) (pure (n:Int))) Q E s:=by
 obtain⟨os,yx,LZ,IX⟩:=id hs;unfold Builtin.Slice.sliceApplied Builtin.Slice.sliceFields;refine ao (ao (cE yx IX (x:=vl) rfl (ao (cE yx IX (x:=vu) rfl (ao (cE yx IX (x:=.none) rfl (wpAny_pure ?_)))))));refine ao (slicePart_none ?_);show wpAny _ _ (if ((1:Int)==0)=true then _ else _) _ _ s;rw[al (by decide)];refine ao (nk pl (ao (nk pu (ao (wpAny_pure ?_)))));show wpAny _ _ (match Builtin.Slice.sliceAdjust lo hi 1 (n:Int) with|(lo,hi)=>pure (lo,(1:Int),Builtin.Slice.slicePlaces lo hi 1)) _ _ s;rw[u7 lo hi n];show wpAny _ _ (pure (((dB n 0 lo:Nat):Int),(1:Int),Builtin.Slice.slicePlaces ((dB n 0 lo:Nat):Int) ((dB n n hi:Nat):Int) 1)) _ _ s;rw[u8];exact wpAny_pure h
theorem zB(xs:Array Value)(i k:Nat):((List.range k).filterMap fun (m:Nat)=>xs[((i:Int)+(m:Int)*1).toNat]?).toArray=((xs.toList.drop i).take k).toArray:=by
 have e:(fun (m:Nat)=>xs[((i:Int)+(m:Int)*1).toNat]?)=fun m=>xs[i+m]?:=by
  funext m;have:((i:Int)+(m:Int)*1).toNat=i+m:=by lia
  rw[this]
 rw[e];have:=pick_run xs i k;rw[List.filterMap_map] at this;have e2:((fun x=>xs[x]?) ∘ fun x=>i+x)=fun m=>xs[i+m]?:=rfl;rw[e2] at this;rw[this]
theorem jN{t sl:Addr}{items:Array Value}{vl vu:Value}{lo hi:Option Int}{Q:Value->Shared->Prop}(ht:IsTup s.heap t items)(hs:s.heap.IsSliceOf sl vl vu .none)(pl:IsPart vl lo)(pu:IsPart vu hi)(hw:¬ (dB items.size 0 lo=0/\dB items.size items.size hi=items.size))(h:Q (.ref s.heap.objs.size) { s with heap:=s.heap.push { cls:=.type "tuple",data:=.seq ((items.toList.drop (dB items.size 0 lo)).take (dB items.size items.size hi-dB items.size 0 lo)).toArray } })(j_:items.size<=sizeLine):wpAny (model prog w) A (getItem (.ref t) (.ref sl)) Q E s:=by
 have wa:sizeOk (.seq ((items.toList.drop (dB items.size 0 lo)).take (dB items.size items.size hi-dB items.size 0 lo)).toArray):=by
  show ((items.toList.drop (dB items.size 0 lo)).take (dB items.size items.size hi-dB items.size 0 lo)).toArray.size<=sizeLine;rw[ce,iY,List.length_drop,mr];lia
 have hj:dB items.size items.size hi<=items.size:=FA _ _ (aK _) hi;obtain⟨os,yx,LZ,IX⟩:=id hs;have Nc:s.TypeIs (.ref sl) "slice":=⟨os,yx,LZ⟩
 unfold getItem;try with_reducible refine gQ ?_
 first|refine ao (wpAny_pure ?_)|skip
 refine ao (wpAny_sequenceKey ht.typeIs (by decide) ?_);refine ao (ml (name:=Str.ofString "__getitem__") ht.typeIs oO
  (lw oO ht.typeIs entry_tuple_getitem ?_ (args_tuple_getitem _ _)))
 show wpAny _ _ (Builtin.Tuple.tupleItemsOf (.ref t) >>= _) _ _ s;refine ao (tupleItemsOf_ ht ?_);refine ao (wpAny_typeOf Nc ?_);rw[ak (by decide)];refine ao (fv hs pl pu ?_);have zC:¬ ((((dB items.size 0 lo:Nat):Int)==0&&(1:Int)==1&&(dB items.size items.size hi-dB items.size 0 lo)==items.size)=true):=by
  intro q;rw[gu,gu] at q;have q1:((dB items.size 0 lo:Nat):Int)=0:=eq_of_beq q.1.1;have q2:dB items.size items.size hi-dB items.size 0 lo=items.size:=eq_of_beq q.2;exact hw ⟨by lia,by lia⟩
 show wpAny _ _ (if (((dB items.size 0 lo:Nat):Int)==0&&(1:Int)==1&&(dB items.size items.size hi-dB items.size 0 lo)==items.size)=true then _ else _) _ _ s;rw[al zC,zB];first
  |exact ao (m:=Builtin.Tuple.tupleExact _) (gN (wpAny_pure ⟨_,rfl,wpAny_pure h⟩) wa)
  |exact ao (m:=Builtin.Tuple.tupleExact _) (gN (ao (wpAny_pure (wpAny_pure ⟨_,rfl,wpAny_pure h⟩))) wa)
  |exact ao (ao (m:=Builtin.Tuple.tupleExact _) (gN (wpAny_pure (wpAny_pure ⟨_,rfl,wpAny_pure h⟩)) wa))
  |exact ao (ao (m:=Builtin.Tuple.tupleExact _) (gN (wpAny_pure ⟨_,rfl,wpAny_pure h⟩) wa))
end
end HT
namespace L2
open PySem PySem.Spec PyProof.Rows
abbrev TO:=St->Hp->(Option Int->Hp->Prop)->Prop
def PO(X:Cx)(e:Option Expr)(t:TO):Prop:=
 ∀ (ae:List (Addr×Obj)) (s:Shared) (σ:St) (H:Hp) (Q:Option Int->Hp->Prop),aA X ae σ H s->t σ H Q->
  wpAny (model X.prog X.w) X.A (evalPart e X.env) (fun u s'=>∃o H',aA X ae σ H' s'/\IsPart u o/\Q o H') X.xe s
def wb:TO:=fun _ H Q=>Q none H
def Eo(t:TE):TO:=fun σ H Q=>t σ H fun x H1=>∃i,x=.int i/\Q (some i) H1
section
variable {X:Cx} {e:Expr} {te:TE} {lo hi:Option Expr} {tl th:TO} {pos p2:Pos}
theorem Ca:PO X none wb:=by
 intro ae s σ H Q I h;rw[evalPart_none];exact wpAny_pure ⟨none,H,I,.none,h⟩
theorem Cb(h:PE X e te):PO X (some e) (Eo te):=by
 intro ae s σ H Q I hw;rw[evalPart_some];refine bC (h ae s σ H _ I hw) fun u s1 ⟨x,H1,I1,r1,q1⟩=>?_;obtain⟨i,rfl,q⟩:=q1;obtain⟨t,rfl⟩:=r1;exact⟨some i,H1,I1,.int i t,q⟩
def Nd(X:Cx)(r:V->Option Int->Option Int->Hp->VK->Prop):Prop:=
 ∀ (ae:List (Addr×Obj)) (s:Shared) (σ:St) (H:Hp) (x:V) (v vl vu:Value) (lo hi:Option Int) (sl:Addr) (Q:VK),aA X ae σ H s->aX x v->s.heap.IsSliceOf sl vl vu .none->IsPart vl lo->IsPart vu hi->r x lo hi H Q->
  ∃T id,typeLookup (.type T) "__getitem__"=pure (some (.builtin id))/\s.TypeIs v T/\wpAny (model X.prog X.w) X.A (getItem v (.ref sl)) (EP X ae σ Q) X.xe s
def QA(r:V->Option Int->Option Int->Hp->VK->Prop)(te:TE)(tl th:TO):TE:=fun σ H Q=>te σ H fun x H1=>tl σ H1 fun l H2=>th σ H2 fun u H3=>r x l u H3 Q
theorem zD(hr:Nd X r)(he:PE X e te)(hl:PO X lo tl)(hu:PO X hi th):PE X (.Subscript e (.Slice lo hi none p2) pos) (QA r te tl th):=by
 intro ae s σ H Q I h;refine Subscript_ (bC (he ae s σ H _ I h) fun v s1 ⟨x,H1,I1,r1,q1⟩=>?_);refine wpAny_Slice (bC (hl ae s1 σ H1 _ I1 q1) fun vl s2 ⟨l,H2,I2,pl,q2⟩=>bC (hu ae s2 σ H2 _ I2 q2) fun vu s3 ⟨u,H3,I3,pu,q3⟩=>?_);rw[evalPart_none];refine wpAny_pure ?_;have I4:aA X ae σ H3 { s3 with heap:=s3.heap.push { cls:=.type "slice",data:=.fields #[vl,vu,.none] } }:=I3.kept (t':=s3.toks) fun b ob q=>bf _ q;obtain⟨T,id,hT,ht,hg⟩:=hr ae { s3 with heap:=s3.heap.push { cls:=.type "slice",data:=.fields #[vl,vu,.none] } } σ H3 x v vl vu l u s3.heap.objs.size Q I4 r1 (Heap.IsSliceOf.new ..) pl pu q3;show wpAny (model X.prog X.w) X.A (subscriptTail e (.Slice lo hi none p2) v (.ref s3.heap.objs.size)) (EP X ae σ Q) X.xe { s3 with heap:=s3.heap.push { cls:=.type "slice",data:=.fields #[vl,vu,.none] } };exact tail_any (ops:=[.ref s3.heap.objs.size,v]) ht hT hg (by with_unfolding_all rfl)
def qz(xs:List V)(lo hi:Option Int):List V:=(xs.drop (HT.dB xs.length 0 lo)).take (HT.dB xs.length xs.length hi-HT.dB xs.length 0 lo)
theorem rK(xs:List V)(lo hi:Option Int):(qz xs lo hi).length<=xs.length:=by
 unfold qz;rw[iY,List.length_drop];lia
def Nf(K:PySem.W.Frag):V->Option Int->Option Int->Hp->VK->Prop:=fun x lo hi H Q=>∃a xs,x=.ref a/\cu K H a xs/\
 ¬ (HT.dB xs.length 0 lo=0/\HT.dB xs.length xs.length hi=xs.length)/\∀p,H p=none->Q (.ref p) (upd H p (.tup (qz xs lo hi)))
theorem FB:Nd X (Nf X.K):=by
 intro ae s σ H x v vl vu lo hi sl Q I rx hs pl pu h;obtain⟨a,xs,rfl,hx,hw,q⟩:=h;cases rx;obtain⟨its,r,ht,hz⟩:=I.tuple hx;have dt:its.toArray.size=xs.length:=by rw[ce];exact r.length.symm
 refine⟨"tuple",_,oO.lookup,ht.typeIs,?_⟩;refine HT.jN ht hs pl pu (by rw[dt];exact hw) ?_ (by rw[dt];exact hz);rw[dt];refine⟨.ref s.heap.objs.size,_,I.laid (t':=s.toks) (o:=.tup (qz xs lo hi)) (fun b ob q=>bf _ q) (aK _) ?_,rfl,q _ (I.be.fresh (aK _))⟩;exact⟨bb (rK xs lo hi) hz,_,(r.drop (HT.dB xs.length 0 lo)).take (HT.dB xs.length xs.length hi-HT.dB xs.length 0 lo),jj.new _ _⟩
end
def yy(n:Nat)(i:Int):Option Nat:=if 0<=i then (if i<n then some i.toNat else none) else if -(n:Int)<=i then some (i+n).toNat else none
def zE{α:Type}(xs:List α)(i:Int):Option α:=(yy xs.length i).bind fun j=>xs[j]?
theorem wc(h:yy n i=some j):seqIndex? i n=some j/\j<n/\-(n:Int)<=i/\i<n:=by
 unfold yy at h;by_cases h0:0<=i
 .rw[ak h0] at h;by_cases h1:i<n
  .rw[ak h1] at h;have e:i.toNat=j:=bA h;exact⟨by rw[seqIndex_of h0 h1,e],by lia,by lia,h1⟩
  .rw[al h1] at h;cases h
 .rw[al h0] at h;by_cases h1:-(n:Int)<=i
  .rw[ak h1] at h;have e:(i+n).toNat=j:=bA h;exact⟨by rw[seqIndex_neg (by lia) h1,e],by lia,h1,by lia⟩
  .rw[al h1] at h;cases h
theorem wd(h:zE xs i=some v):∃j,seqIndex? i xs.length=some j/\xs[j]?=some v/\j<xs.length/\-(xs.length:Int)<=i/\i<xs.length:=by
 unfold zE at h;cases e:yy xs.length i with
 |none=>rw[e] at h;cases h
 |some j=>
  rw[e] at h;obtain⟨h1,h2,h3,h4⟩:=wc e;exact⟨j,h1,h,h2,h3,h4⟩
theorem aO{α:Type}{xs:List α}{j:Nat}{v:α}(h:xs[j]?=some v):zE xs (j:Int)=some v:=by
 have hj:j<xs.length:=(cC.mp h).1;have e:yy xs.length (j:Int)=some j:=by
  unfold yy;rw[ak (by lia),ak (by lia)];simp
 unfold zE;rw[e];exact h
theorem zF(xs:List α)(v:α):zE (xs++[v]) (-1)=some v:=by
 have hl:(xs++[v]).length=xs.length+1:=by simp
 have e:yy (xs++[v]).length (-1)=some xs.length:=by
  unfold yy;rw[hl,al (by decide),ak (by lia)];congr 1;lia
 unfold zE;rw[e];show (xs++[v])[xs.length]?=some v;simp
def Cd(b:Expr):Prop:=∀o i,subscripted b false o i=operate [o,i] (getItem o i)
def Ng(X:Cx)(r:R2):Prop:=
 ∀ (value slice:Expr) (ae:List (Addr×Obj)) (s:Shared) (σ:St) (H:Hp) (x y:V) (v u:Value) (Q:VK),aA X ae σ H s->aX x v->aX y u->r x y H Q->
  subscripted slice false v u=operate [v,u] (getItem v u)->wpAny (model X.prog X.w) X.A (subscriptTail value slice v u) (EP X ae σ Q) X.xe s
def Se(X:Cx)(id:String)(r:V->List V->Hp->VK->Prop):Prop:=
 ∀ (ae:List (Addr×Obj)) (s:Shared) (σ:St) (H:Hp) (x:V) (xs:List V) (v:Value) (us:List Value) (Q:VK),aA X ae σ H s->aX x v->aL xs us->r x xs H Q->
  wpAny (model X.prog X.w) X.A (call (.builtin id) (v::us)) (EP X ae σ Q) X.xe s
section
variable {X:Cx} {a b:Expr} {ta tb:TE} {pos:Pos}
theorem bu(hr:Ng X r)(ha:PE X a ta)(hb:PE X b tb)(hs:Cd b):PE X (.Subscript a b pos) (uS r ta tb):=by
 intro ae s σ H Q I h;exact Subscript_ (Fq ha hb I h fun v u s2 x y H2 I2 rx ry q=>hr a b ae s2 σ H2 x y v u Q I2 rx ry q (hs _ _))
def Ce(K:PySem.W.Frag):R2:=fun x y H Q=>∃p xs i v,x=.ref p/\y=.int i/\bg K H p xs/\zE xs i=some v/\Q v H
def Nh(K:PySem.W.Frag):R2:=fun x y H Q=>∃p xs i v,x=.ref p/\y=.int i/\cu K H p xs/\zE xs i=some v/\Q v H
theorem bi:Ng X (Ce X.K):=by
 intro value slice ae s σ H x y v u Q I rx ry h hs;obtain⟨p,xs,i,z,rfl,rfl,hq,he,q⟩:=h;cases rx;obtain⟨t,rfl⟩:=ry;obtain⟨its,r,pl,hz⟩:=I.list hq;obtain⟨j,h1,h2,h3,h4,h5⟩:=wd he;obtain⟨w,ew,Fo⟩:=r.get h2;have hl:=r.length;have hn:=ni;have cN:EP X ae σ Q w s:=⟨z,H,I,Fo,q⟩
 by_cases h0:0<=i
 .have hj:i.toNat=j:=by
   rw[seqIndex_of h0 h5] at h1;exact bA h1
  exact item_listR pl.isList h0 (by lia) (by rw[hj];simpa using ew) cN hs
 .have hj:(i+(its.toArray.size:Int)).toNat=j:=by
   rw[seqIndex_neg (by lia) h4] at h1;rw[ce,<-hl];exact bA h1
  exact subscriptTail_builtinR (x:=w) pl.isList.typeIs slot_list_getitem.lookup
   (wpAny_getItem_list_neg (Q:=fun r s'=>r=w/\EP X ae σ Q r s') pl.isList (by lia) (by rw[ce] <;> lia) (by lia) (by rw[hj];simpa using ew) ⟨rfl,cN⟩) hs
theorem d0:Ng X (Nh X.K):=by
 intro value slice ae s σ H x y v u Q I rx ry h hs;obtain⟨p,xs,i,z,rfl,rfl,hq,he,q⟩:=h;cases rx;obtain⟨t,rfl⟩:=ry;obtain⟨its,r,pl,hz⟩:=I.tuple hq;obtain⟨j,h1,h2,h3,h4,h5⟩:=wd he;obtain⟨w,ew,Fo⟩:=r.get h2;have hl:=r.length;have hn:=ni;have cN:EP X ae σ Q w s:=⟨z,H,I,Fo,q⟩
 exact subscriptTail_builtinR (x:=w) pl.typeIs slot_tuple_getitem.lookup
  (getItem_tuple (j:=j) (Q:=fun r s'=>r=w/\EP X ae σ Q r s') pl (by lia) (by lia) (by rw[ce,<-hl];exact h1) (by simpa using ew) ⟨rfl,cN⟩) hs
theorem u9(its:List Value)(n j:Nat)(u:Value):Obj.mapSeq (·.setIfInBounds j u) { cls:=.type "list",data:=.seq its.toArray n }={ cls:=.type "list",data:=.seq (its.set j u).toArray n }:=by
 simp[Obj.mapSeq]
theorem aA.lst(I:aA X ae σ H s)(h:H p=some (.lst xs)):
  ∃ (its:List Value) (n:Nat),aL xs its/\s.heap.get? p=some { cls:=.type "list",data:=.seq its.toArray n }/\xs.length<=sizeLine:=by
 obtain⟨z,its,n,r,e⟩:=I.be p _ h;exact⟨its,n,r,e,z⟩
theorem aA.FE{ae:List (Addr×Obj)}{σ:St}{H:Hp}{s:Shared}{p:Addr}{xs ys:List V}{its its':List Value}{n n':Nat}{f:Obj->Obj}(I:aA X ae σ H s)(h:H p=some (.lst xs))(ho:s.heap.get? p=some { cls:=.type "list",data:=.seq its.toArray n })(hf:f { cls:=.type "list",data:=.seq its.toArray n }={ cls:=.type "list",data:=.seq its'.toArray n' })(r:aL ys its')(hz:ys.length<=sizeLine)(t:Nat):
  aA X ae σ (upd H p (.lst ys)) { s with heap:=s.heap.update p f,toks:=t }:=by
 have e:(s.heap.update p f).get? p=some { cls:=.type "list",data:=.seq its'.toArray n' }:=by
  rw[mB f ho (by rw[hf] <;> rfl),hf]
 refine I.write (x:=p) (e:=p) (by rw[h];trivial) (.inl rfl) (fun b u hb q=>(mz _ _ (cy hb)).trans q) ⟨_,e⟩ ?_;exact⟨hz,its',n',r,e⟩
def IY:V->V->V->Hp->(Hp->Prop)->Prop:=fun o i v H Q=>∃p xs k j,o=.ref p/\i=.int k/\H p=some (.lst xs)/\yy xs.length k=some j/\Q (upd H p (.lst (xs.set j v)))
theorem hZ:Fm X IY:=by
 intro ae s σ H o i v ov iv u Q I ro ri rv h;obtain⟨p,xs,k,j,rfl,rfl,hp,hj,q⟩:=h;cases ro;obtain⟨t,rfl⟩:=ri;obtain⟨its,n,r,ho,hz⟩:=I.lst hp;obtain⟨h1,h2,h3,h4⟩:=wc hj;have hl:=r.length;have hn:=ni;have I':aA X ae σ (upd H p (.lst (xs.set j v))) { s with heap:=s.heap.update p (Obj.mapSeq (·.setIfInBounds j u)) }:=
  I.FE hp ho (u9 its n j u) (r.set rv j) (by rw[qf];exact hz) s.toks
 by_cases h0:0<=k
 .have hk:k.toNat=j:=by
   rw[seqIndex_of h0 h4] at h1;exact bA h1
  exact PySem.W.ki_setAt ho h0 (by lia) (by rw[ce,<-hl];exact h4) (by rw[hk];exact⟨_,I',q⟩)
 .have hk:(k+(its.toArray.size:Int)).toNat=j:=by
   rw[seqIndex_neg (by lia) h3] at h1;rw[ce,<-hl];exact bA h1
  exact PySem.W.ki_setBack ho (by lia) (by rw[ce,<-hl];exact h3) (by lia) (by rw[hk];exact⟨_,I',q⟩)
def h_:V->Bool
 |.bt=>true
 |.bl _=>true
 |.int _=>true
 |.str _=>true
 |_=>false
def zG:V->V->Bool
 |.bt,.bt=>true
 |.bl a,.bl b=>a==b
 |.bl a,.int b=>(if a then 1 else 0)==b
 |.int a,.bl b=>a==(if b then 1 else 0)
 |.int a,.int b=>a==b
 |.str a,.str b=>a==b
 |_,_=>false
theorem u_(ry:aX y u)(rx:aX x v)(fy:h_ y=true)(fx:h_ x=true):SeqAt.EqAt A s u v (zG y x):=by
 cases y with
 |bt=>
  cases ry;cases x with
  |bt=>cases rx;exact SeqAt.EqAt.same _
  |bl b=>cases rx;exact SeqAt.EqAt.none_bool b
  |int b=>obtain⟨t,rfl⟩:=rx;exact SeqAt.EqAt.none_int b t
  |str b=>obtain⟨t,rfl⟩:=rx;exact SeqAt.EqAt.none_str b t
  |_=>exact absurd (show false=true from fx) bE
 |bl a=>
  cases ry;cases x with
  |bt=>cases rx;exact SeqAt.EqAt.bool_none a
  |bl b=>cases rx;exact SeqAt.EqAt.bool_bool a b
  |int b=>obtain⟨t,rfl⟩:=rx;exact SeqAt.EqAt.bool_int a b t
  |str b=>obtain⟨t,rfl⟩:=rx;exact SeqAt.EqAt.bool_str a b t
  |_=>exact absurd (show false=true from fx) bE
 |int a=>
  obtain⟨t',rfl⟩:=ry;cases x with
  |bt=>cases rx;exact SeqAt.EqAt.int_none a t'
  |bl b=>cases rx;exact SeqAt.EqAt.int_bool a t' b
  |int b=>obtain⟨t,rfl⟩:=rx;exact SeqAt.EqAt.int_int a t' b t
  |str b=>obtain⟨t,rfl⟩:=rx;exact SeqAt.EqAt.int_str a t' b t
  |_=>exact absurd (show false=true from fx) bE
 |str a=>
  obtain⟨t',rfl⟩:=ry;cases x with
  |bt=>cases rx;exact SeqAt.EqAt.str_none a t'
  |bl b=>cases rx;exact SeqAt.EqAt.str_bool a t' b
  |int b=>obtain⟨t,rfl⟩:=rx;exact SeqAt.EqAt.str_int a t' b t
  |str b=>obtain⟨t,rfl⟩:=rx;exact SeqAt.EqAt.str_str a t' b t
  |_=>exact absurd (show false=true from fx) bE
 |_=>exact absurd (show false=true from fy) bE
def Cf(x:V)(u:Value):Bool:=match u with
 |.none=>zG .bt x
 |.bool b=>zG (.bl b) x
 |.int i _=>zG (.int i) x
 |.str z _=>zG (.str z) x
 |_=>false
theorem zH(r:aX y u)(f:h_ y=true):Cf x u=zG y x:=by
 cases y with
 |bt=>cases r;rfl
 |bl b=>cases r;rfl
 |int i=>obtain⟨t,rfl⟩:=r;rfl
 |str z=>obtain⟨t,rfl⟩:=r;rfl
 |_=>exact absurd (show false=true from f) bE
theorem qA:∀ {xs:List V} {us:List Value},aL xs us->xs.all h_=true->us.any (Cf x)=xs.any fun y=>zG y x
 |_,_,.nil,_=>rfl
 |y::xs,u::us,.cons r t,f=>by
  rw[uH,gu] at f;rw[ql,ql,zH r f.1,qA t f.2]
theorem nn(rx:aX x v)(fx:h_ x=true):∀ {xs:List V} {us:List Value},aL xs us->xs.all h_=true->∀u∈us,SeqAt.EqAt A s u v (Cf x u)
 |_,_,.nil,_=>fun u hu=>by cases hu
 |y::xs,u::us,.cons r t,f=>fun u' hu=>by
  rw[uH,gu] at f;rcases a_.mp hu with rfl|hu
  .rw[zH r f.1];exact u_ r rx f.1 fx
  .exact nn rx fx t f.2 u' hu
def we(x:V)(xs:List V):Bool:=xs.any fun y=>zG y x
def QB(K:PySem.W.Frag)(neg:Bool):R2:=fun x y H Q=>∃p xs,y=.ref p/\(bg K H p xs\/cu K H p xs)/\h_ x=true/\xs.all h_=true/\Q (.bl (if neg then !we x xs else we x xs)) H
theorem iF:iQ X (compareOp .In) (QB X.K false):=by
 intro ae s σ H x y v u Q I rx ry h;obtain⟨p,xs,rfl,hq,fx,fs,q⟩:=h;cases ry;rcases hq with hq|hq
 .obtain⟨its,r,pl,hz⟩:=I.list hq;refine SeqAt.in_listAt (Cf x) pl.isList (fun w hw=>nn rx fx r fs w (by simpa using hw)) ⟨.bl _,H,I,rfl,?_⟩;rw[show its.toArray.any (Cf x)=its.any (Cf x) by simp,qA r fs];exact q
 .obtain⟨its,r,pl,hz⟩:=I.tuple hq;refine SeqAt.in_tupleAt (Cf x) pl (fun w hw=>nn rx fx r fs w (by simpa using hw)) ⟨.bl _,H,I,rfl,?_⟩;rw[show its.toArray.any (Cf x)=its.any (Cf x) by simp,qA r fs];exact q
theorem aQ:eT X (.builtin "len") (fun xs H Q=>∃p ys,xs=[.ref p]/\(bg X.K H p ys\/cu X.K H p ys)/\Q (.int ys.length) H):=by
 intro ae s σ H xs us Q I r h;obtain⟨p,ys,rfl,hq,q⟩:=h;obtain⟨u,rfl,rx⟩:=zm r;cases rx;have hn:=ni;rcases hq with hq|hq
 .obtain⟨its,r',pl,hz⟩:=I.list hq;have dt:=r'.length;exact Calls.call_len_list pl.isList (by simp only[ce] <;> lia) ⟨.int ys.length,H,I.tok _,⟨s.toks+1,by rw[ce,dt]⟩,q⟩
 .obtain⟨its,r',pl,hz⟩:=I.tuple hq;have dt:=r'.length;exact len_tuple pl (by simp only[ce] <;> lia) ⟨.int ys.length,H,I.tok _,⟨s.toks+1,by rw[ce,dt]⟩,q⟩
theorem jO:eT X (.type "list") (fun xs H Q=>∃p ys,xs=[.ref p]/\(bg X.K H p ys\/cu X.K H p ys)/\∀l,H l=none->Q (.ref l) (upd H l (.lst ys))):=by
 intro ae s σ H xs us Q I r h;obtain⟨p,ys,rfl,hq,q⟩:=h;obtain⟨u,rfl,rx⟩:=zm r;cases rx;have cN:∀ (its:List Value),aL ys its->ys.length<=sizeLine->∀ (h':Heap) (c':Nat),(∀b o',s.heap.get? b=some o'->h'.get? b=some o')->
   h'.get? s.heap.objs.size=some { cls:=.type "list",dict:=none,data:=.seq its.toArray c',slots:=#[] }->EP X ae σ Q (.ref s.heap.objs.size) { s with heap:=h' }:=fun its r' hz h' c' kp e=>
  ⟨.ref s.heap.objs.size,_,I.laid (t':=s.toks) kp (aK _) (show b8 X.prog X.w _ h' _ (.lst ys) from ⟨hz,its,c',r',e⟩),rfl,q _ (I.be.fresh (aK _))⟩
 rcases hq with hq|hq
 .obtain⟨its,r',pl,hz⟩:=I.list hq;have dt:=r'.length;obtain⟨o,ho,hc,n,hd⟩:=pl.isList;exact call_list_seq p (.inl rfl) ho hc hd (fun h' c' kp e=>cN its r' hz h' c' kp e) (by simp only[ce] <;> lia)
 .obtain⟨its,r',pl,hz⟩:=I.tuple hq;have dt:=r'.length;obtain⟨o,ho,hc,n,hd⟩:=pl;exact call_list_seq p (.inr rfl) ho hc hd (fun h' c' kp e=>cN its r' hz h' c' kp e) (by simp only[ce] <;> lia)
theorem dC:eT X (.type "tuple") (fun xs H Q=>∃p ys,xs=[.ref p]/\((bg X.K H p ys/\∀l,H l=none->Q (.ref l) (upd H l (.tup ys)))\/(cu X.K H p ys/\Q (.ref p) H))):=by
 intro ae s σ H xs us Q I r h;obtain⟨p,ys,rfl,h⟩:=h;obtain⟨u,rfl,rx⟩:=zm r;cases rx;rcases h with ⟨hq,q⟩|⟨hq,q⟩
 .obtain⟨its,r',pl,hz⟩:=I.list hq;have dt:=r'.length;refine call_tuple_list pl.isList (fun h' kp=>?_) (by simp only[ce] <;> lia);have I1:aA X ae σ H { s with heap:=h' }:=I.kept (t':=s.toks) kp;have I2:aA X ae σ (upd H h'.objs.size (.tup ys)) { s with heap:=h'.push { cls:=.type "tuple",data:=.seq its.toArray } }:=
   I1.laid (t':=s.toks) (fun b o e=>bf _ e) (aK _) (show b8 X.prog X.w _ _ _ (.tup ys) from ⟨hz,its,r',jj.new _ _⟩)
  exact⟨.ref h'.objs.size,_,I2,rfl,q _ (I1.be.fresh (aK _))⟩
 .obtain⟨its,r',pl,hz⟩:=I.tuple hq;exact call_tuple_same pl ⟨.ref p,H,I,rfl,q⟩
def QC(K:PySem.W.Frag)(T:String)(x:V)(H:Hp):Prop:=match x with
 |.str _=>T="str"
 |.int _=>T="int"
 |.ref p=>(T="list"/\∃xs,bg K H p xs)\/(T="tuple"/\∃o,K.lookup p=some o/\o.cls=.type "tuple"/\o.dict=none)\/
   (T="dict"/\((∃jH,H p=some (.dK jH))\/∃jH,H p=some (.dT jH)))\/(T="set"/\∃S n,H p=some (.set S n))
 |_=>False
theorem FF(I:aA X ae σ H s)(r:aX x v)(ty:QC X.K T x H):
  s.TypeIs v T/\∀a,v=.ref a->∃ob,s.heap.get? a=some ob/\ob.dict=none:=by
 cases x with
 |str z=>
  obtain⟨t,rfl⟩:=r;cases (show T="str" from ty);exact⟨typeIs_str s z t,fun _ e=>nomatch e⟩
 |int i=>
  obtain⟨t,rfl⟩:=r;cases (show T="int" from ty);exact⟨typeIs_int s i t,fun _ e=>nomatch e⟩
 |ref p=>
  cases r;rcases ty with ⟨rfl,xs,hq⟩|⟨rfl,o,hk,hc,hd⟩|⟨rfl,hk⟩|⟨rfl,S,n,hk⟩
  .obtain⟨its,_,pl,_⟩:=I.list hq;refine⟨pl.isList.typeIs,fun a e=>?_⟩;cases e;obtain⟨o,n,e,c,hd,_⟩:=pl;exact⟨o,e,hd⟩
  .refine⟨⟨o,I.jl p o hk,hc⟩,fun a e=>?_⟩;cases e;exact⟨o,I.jl _ o hk,hd⟩
  .have z:∃o,s.heap.get? p=some o/\o.ExactDict:=by
    rcases hk with ⟨jH,hk⟩|⟨jH,hk⟩
    .obtain⟨_,_,_,_,o,_,_,e,ex,_⟩:=I.be p _ hk;exact⟨o,e,ex⟩
    .obtain⟨_,_,_,_,o,_,_,e,ex,_⟩:=I.be p _ hk;exact⟨o,e,ex⟩
   obtain⟨o,e,ex⟩:=z;refine⟨⟨o,e,ex.1⟩,fun a e2=>?_⟩;cases e2;exact⟨o,e,ex.2.1⟩
  .obtain⟨o,_,_,_,e,ex,_⟩:=I.be p _ hk;refine⟨⟨o,e,ex.1⟩,fun a e2=>?_⟩;cases e2;exact⟨o,e,ex.2.1⟩
 |_=>exact False.elim ty
def Sf(K:PySem.W.Frag)(T:String)(r:V->List V->Hp->VK->Prop)(to:TE)(t:TA):TE:=fun σ H Q=>to σ H fun x H1=>QC K T x H1/\t σ H1 fun xs H2=>r x xs H2 Q
variable {o e:Expr} {es:List Expr} {to:TE} {t:TA} {name:Str} {iR lG:Pos} {T id:String} {r:V->List V->Hp->VK->Prop}
theorem nq(pa:PlainAttrs T)(slot:Slot T name id)(Sg:typeOf (.builtin id)=pure (.type "method_descriptor"))(hm:Se X id r)(ho:PE X o to)(ha:PA X (e::es) t)(IZ:attributeBase o name X.env (eval o X.env)=eval o X.env:=by rfl)(Ni:((backTo lG (starEach (e::es) X.env)).all (fun x=>!x.1)&&(backToKw lG (keywordEach [] X.env)).all (fun x=>x.1.isSome)
   && decide ((e::es).length+([]:List Keyword).length+(if ([]:List Keyword).isEmpty then 0 else 1)<30))=true:=by rfl)(I0:(iR.endLine==lG.line)=true:=by rfl)(hs:starEach (e::es) X.env=(false,eval e X.env)::starEach es X.env:=by rfl)(va:(backTo lG (starEach es X.env)).any (·.1)=false:=by rfl):
  PE X (.Call (.Attribute o name iR) (e::es) [] lG) (Sf X.K T r to t):=by
 intro ae s σ H Q I h;refine wpAny_Call_method_late IZ Ni I0 rfl (bC (ho ae s σ H _ I h) fun v s1 ⟨x,H1,I1,r1,ty,q1⟩=>?_);obtain⟨h1,h2⟩:=FF I1 r1 ty;refine⟨T,id,pa,slot,Sg,h1,h2,?_⟩;have hA:=ha lG ae s1 σ H1 _ I1 q1;rw[hs] at hA |-;refine Calls.callWith_builtin (by show (false||(backTo lG (starEach es X.env)).any (·.1))=false;rw[va] <;> rfl) (Calls.evalArgs_plain ?_);exact bC hA fun us s2 ⟨vs,H2,I2,r2,q2⟩=>hm ae s2 σ H2 x vs v us Q I2 r1 r2 q2
end
def Sh(X:Cx)(id:String)(r:V->List V->Hp->VK->Prop):Prop:=
 ∀ (ae:List (Addr×Obj)) (s:Shared) (σ:St) (H:Hp) (x:V) (xs:List V) (v:Value) (us:List Value) (Q:VK),aA X ae σ H s->aX x v->aL xs us->r x xs H Q->
  wpAny (model X.prog X.w) X.A (call (.builtin id) (v::us)) (EP X ae σ Q) X.xe s
theorem aL.one{x:V}{us:List Value}(h:aL [x] us):∃u,us=[u]/\aX x u:=by
 cases h with
 |cons r h=>cases h;exact⟨_,rfl,r⟩
theorem aL.two{x y:V}{us:List Value}(h:aL [x,y] us):∃u v,us=[u,v]/\aX x u/\aX y v:=by
 cases h with
 |cons r h=>
  cases h with
  |cons q h=>cases h;exact⟨_,_,rfl,r,q⟩
section
variable {X:Cx} {ae:List (Addr×Obj)} {σ:St} {H:Hp} {s:Shared} {l b:Addr} {xs ys zs:List V}
theorem aA.Nj{its its':List Value}{n:Nat}{f:Array Value->Array Value}{t':Nat}(I:aA X ae σ H s)(hH:H l=some (.lst xs))(e:s.heap.get? l=some { cls:=.type "list",data:=.seq its.toArray n })(hf:f its.toArray=its'.toArray)(hv:aL ys its')(hz:ys.length<=sizeLine):
  aA X ae σ (upd H l (.lst ys)) { s with heap:=s.heap.update l (Obj.mapSeq f),toks:=t' }:=by
 have q:=PySem.IsL.update e f;rw[hf] at q;refine I.write (x:=l) (e:=l) (by rw[hH];exact trivial) (.inl rfl) (fun b' u hb hu=>(mz s.heap (Obj.mapSeq f) (cy hb)).trans hu) ⟨_,q⟩ ?_;exact⟨hz,its',_,hv,q⟩
theorem aA.I_(I:aA X ae σ H s)(hv:aL ys its)(hz:ys.length<=sizeLine):
  aA X ae σ (upd H s.heap.objs.size (.lst ys)) { s with heap:=s.heap.push { cls:=.type "list",data:=.seq its.toArray },toks:=t' }:=
 I.laid (fun _ _ q=>bf _ q) (aK _) ⟨hz,its,0,hv,b_ _ rfl⟩
theorem aA.fresh(I:aA X ae σ H s):H s.heap.objs.size=none:=I.be.fresh (aK _)
theorem aA.FG(I:aA X ae σ H s)(hH:H l=some (.lst xs)):xs.length<=sizeLine/\∃ (its:List Value) (n:Nat),aL xs its/\xs.length=its.length/\s.heap.get? l=some { cls:=.type "list",data:=.seq its.toArray n }:=by
 obtain⟨z,its,n,r,e⟩:=I.be l _ hH;exact⟨z,its,n,r,r.length,e⟩
end
section
variable {X:Cx}
def Cg:V->List V->Hp->VK->Prop:=fun x vs H Q=>∃l xs y,x=.ref l/\vs=[y]/\H l=some (.lst xs)/\xs.length<sizeLine/\Q .bt (upd H l (.lst (xs++[y])))
theorem cU:Sh X "list.append" Cg:=by
 intro ae s σ H x vs v us Q I rx rv h;obtain⟨l,xs,y,rfl,rfl,hH,hz,q⟩:=h;cases rx;obtain⟨u,rfl,ru⟩:=rv.one;obtain⟨z,its,n,r,hl,e⟩:=I.FG hH;refine call_meets F.slot_list_append ⟨_,e,rfl⟩ F.entry_list_append (F.args_list_append_2 _ _) (PySem.list_append l its.toArray n u (by rw[ce];lia)) ⟨e,?_⟩;refine⟨.bt,_,I.Nj (its':=its++[u]) hH e (by simp) (r.append (.cons ru .nil)) ?_,rfl,q⟩;rw[gK,List.length_singleton];lia
def Ja:R2:=fun x y H Q=>∃l b xs zs,x=.ref l/\y=.ref b/\H l=some (.lst xs)/\H b=some (.lst zs)/\xs.length+zs.length<=sizeLine/\∀p,H p=none->Q (.ref p) (upd H p (.lst (xs++zs)))
theorem vb:iQ X (binaryOp .Add) Ja:=by
 intro ae s σ H x y v u Q I rx ry h;obtain⟨l,b,xs,zs,rfl,rfl,hH,hB,hz,q⟩:=h;cases rx;cases ry;obtain⟨z,its,n,r,hl,e⟩:=I.FG hH;obtain⟨z2,Ch,n2,r2,Jb,e2⟩:=I.FG hB;refine PySem.P.add_list e e2 ?_ (by rw[ce,ce];lia);have ea:its.toArray++Ch.toArray=(its++Ch).toArray:=by simp
 rw[ea];exact⟨.ref _,_,I.I_ (t':=s.toks) (r.append r2) (by rw[gK];lia),rfl,q _ I.fresh⟩
end
section
variable {prog:Program} {w:World} {A:Around} {E:Value->Shared->Prop} {s:Shared}
end
section
variable {X:Cx}
end
end L2
namespace QD
open PySem PySem.W PySem.Calls PyProof.Rows
theorem lH:∀ (ns:List Int) (vs:List Value),WellAll P h vs (ns.map WData.int)->IntsAre vs ns:=by
 intro ns;induction ns with
 |nil=>
  intro vs w;rw[List.map_nil] at w;cases w;exact .nil
 |cons n ns ih=>
  intro vs w;rw[fN] at w;cases w with
  |cons a b=>
   cases a;exact .cons _ _ (ih _ b)
theorem xq{l:OpenLaw}{n:Nat}(hn:l.most=some n){P:Params}{h:Heap}{args:List WData}{zI:List Value}(Ci:l.row.toRowW.claim.pre args=true)(Nk:WellAll P h zI args):
  ∃a vs ns,zI=[Value.ref a]/\args=[WData.list (ns.map WData.int)]/\h.get? a=some { cls:=.type "list",data:=.seq vs.toArray }/\IntsAre vs ns/\ns.length<=n:=by
 have Si:WShape.hasAll [] args [.list .int]=true:=(pre_splitW Ci).1;have hc:l.pre.holds [] { args:=args }=true:=(pre_splitW Ci).2;obtain⟨d,r,rfl,h1,h2⟩:=hasAllW_cons Si;obtain rfl:=hasAllW_nil h2;obtain⟨xs,rfl,h3⟩:=hasW_list h1;obtain⟨ns,rfl⟩:=items_int h3;have dt:ns.length<=n:=by
  unfold OpenLaw.pre at hc;have h4:(WTm.not (.lt (.lit (.int (n:Int))) (.len (.arg 0)))).holds [] { args:=[.list (ns.map .int)] }=true:=by
   have h4:=(holds_andW hc).1;rw[hn] at h4;exact h4
  have h5:=condW_of h4 (w_not (w_lt w_lit (w_len_list (w_arg rfl))));rw[bJ] at h5;refine Nat.le_of_not_lt fun q=>?_;have q':(n:Int)<((ns.length:Nat):Int):=by lia
  first
   |(rw[bj q'] at h5;exact absurd h5 (by decide))
   |(simp at h5;lia)
 cases Nk with
 |cons w1 w2=>
  cases w2;cases w1 with
  |list ho rL=>exact⟨_,_,ns,rfl,rfl,ho,lH ns _ rL,dt⟩
theorem xr(l:OpenLaw)(args:List WData):l.row.toRowW.claim.post args (.bool true) args=true:=
 postW_of (r:=l.row.toRowW) (X:=(true==true))
  (show WShape.has [] (.bool true) .bool=true by first|rfl|decide|simp[WShape.has,WShape.arms,WShape.armsAll])
  (show (WTm.eq .res (.lit (.bool true))).value [] { args:=args,res:=some (.bool true),after:=args }=some (.bool (true==true)) from w_eq_bool (w_res rfl) w_lit) rfl
theorem rM{l:OpenLaw}{n:Nat}{q:Program}{ph:List Str}{XP:(Str->Option Value)->Heap->Prop}{YP:World->Heap->Prop}{d:DefRec}(hn:l.most=some n)(Jc:d.params.defaults=[])(call:∀ (w:World) (s₀ s₁:Shared) (mg mb:Str->Option Value) (fa:Addr) (o:Obj) (pm cd iE:Value) (a:Addr) (vs:List Value) (ns:List Int),
   Ground q ph [] XP w s₀ mg mb s₁.heap->YP w s₁.heap->
   s₁.heap.get? fa=some o->o.data=.func (docDef d.name d.params d.body d.scope pm cd iE)->s₁.heap.CodeRec cd d.name->mg d.name=some (.ref fa)->
   s₁.heap.get? a=some { cls:=.type "list",data:=.seq vs.toArray }->IntsAre vs ns->ns.length<=n->s₁.gens=#[]->
   codeAny (model l.prog w) callerA (.call (.ref fa) ⟨[.ref a],[]⟩) (fun r s'=>r=.ok (.ret (.bool true))/\OldK s₁.heap s'.heap/\s'.os=s₁.os/\AllBare s'.gens) s₁):
  WalkO q ph XP YP l.row.toRowW d [] (fun f vs=>PySem.call f vs):=by
 intro w s₀ s₁ mg mb G Y fa o pm cd iE dV kV ho hd lx hD Jd hg args zI as Ci Sj Vx Nk L3;obtain rfl:dV=.none:=Dflts.none hD Jc;obtain rfl:kV=.none:=Dflts.noKw hD;obtain⟨a,vs,ns,rfl,rfl,FH,zJ,dt⟩:=xq hn Ci Nk;refine enter_call (gT (call w s₀ s₁ mg mb fa o pm cd iE a vs ns G Y ho (fd_plain hd) lx Jd FH zJ dt hg) fun r s' hq=>?_);obtain⟨rfl,h2,h3,h4⟩:=hq;exact⟨.inl ⟨.bool true,.bool true,[],rfl,fun _=>rfl,.bool true,xr l _,fun _=>⟨List.Pairwise.nil,fun _ hm=>(nomatch hm)⟩⟩,h2,h3,h4⟩
section
variable {prog:Program} {w:World} {A:Around} {E:Value->Shared->Prop} {s:Shared} {K:Frag}
end
end QD
namespace L2
open PySem PySem.Spec PyProof.Rows
theorem pi:∀ {vs:List Value} {ns:List Int},IntsAre vs ns->aL (ns.map V.int) vs
 |_,_,.nil=>.nil
 |_,_,.cons n t h=>.cons ⟨t,rfl⟩ (pi h)
def dD(s:Stmt)(j:Nat):Stmt:=match s with
 |.ClassDef _ _ _ body _ _ _ _ _ _ _=>body.getD j (.Pass ⟨0,0,0,0⟩)
 |_=>.Pass ⟨0,0,0,0⟩
def bV(s:Stmt):Arguments:=match s with
 |.FunctionDef _ a _ _ _ _ _ _ _ _=>a
 |_=>{ posonlyargs:=[],args:=[],vararg:=none,kwonlyargs:=[],kw_defaults:=[],kwarg:=none,defaults:=[] }
def aY(s:Stmt):List Stmt:=match s with
 |.FunctionDef _ _ b _ _ _ _ _ _ _=>b
 |_=>[]
def aj(s:Stmt):Scope:=match s with
 |.FunctionDef _ _ _ _ _ _ sc _ _ _=>sc
 |_=>{ kind:=.function,names:=[],isGenerator:=false,isCoroutine:=false }
abbrev aZ:lX:=fun _ _ _ _ _ _=>False
abbrev E0:XK:=fun _ _ _=>False
theorem aF:dZ aZ X E0:=fun _ _ _ _ _ _ _ h=>h.elim
structure dE(K:PySem.W.Frag)(x qual:Str)(st:Stmt)(f:Addr)(fd:FuncData):Prop where
 ex:∃ (oc:Value) (od:Option Addr) (kV iE pm:Value) (an:Option Addr) (bX ct:Value) (pf:Array (Option Value)),
  fd=PySem.W.fnOf x qual (bV st) (aY st) (aj st) .none kV iE pm an bX ct/\K.lookup f=some ⟨oc,od,.func fd,pf⟩/\PySem.W.codeIn K bX qual=true
 kp:PySem.W.keepIn K (.ref f)=true
section
variable {P:Program} {w:World} {K:PySem.W.Frag} {mg:Str->Option Value} {base:Heap}
theorem dE.ok{x qual:Str}{st:Stmt}{f:Addr}{fd:FuncData}{N ps:List Str}{k:Nat}{sp:Sp}(F:dE K x qual st f fd)(S:aw N ps (aj st))(len:∀vs H Q E,sp vs H Q E->vs.length=ps.length)(hX:∀ (bX:Value) (A:Around) (outer:List Env) (s:Shared) (H:Hp) (vs:List V) (Q:VK) (E:XK),bh k (A.deeper (envOfC qual (aj st) s.heap.objs.size f bX))->sp vs H Q E->
   ∃t,om (fu aZ P w K mg base N qual (aj st) f bX A outer s H E).By (aY st) t/\t { nx:=fun _ H'=>Q .bt H',rt:=Q } (start N vs) H):aU P w K mg base aZ (k+1) f fd ps sp:=by
 obtain⟨oc,od,kV,iE,pm,an,bX,ct,pf,rfl,lk,lx⟩:=F.ex;refine zz lk lx S len fun A outer s H vs Q E hr rJ=>?_;obtain⟨t,h,q⟩:=hX bX A outer s H vs Q E hr rJ;exact⟨t,h.By,q⟩
theorem dE.binds{x qual:Str}{st:Stmt}{f:Addr}{fd:FuncData}{ps:List Str}(F:dE K x qual st f fd)(h:∀ (kV iE pm:Value) (an:Option Addr) (bX ct:Value) (us:List Value),us.length=ps.length->bindArgs (PySem.W.fnOf x qual (bV st) (aY st) (aj st) .none kV iE pm an bX ct) ⟨us,[]⟩=pure (ps.zip us)):dN K fd ps []:=by
 obtain⟨oc,od,kV,iE,pm,an,bX,ct,pf,rfl,lk,lx⟩:=F.ex;exact .all (h kV iE pm an bX ct)
theorem kX{x qual:Str}{st:Stmt}{f:Addr}{oc:Value}{od an:Option Addr}{pf:Array (Option Value)}{kV iE pm bX ct:Value}(l:K.lookup f=some ⟨oc,od,.func (PySem.W.fnOf x qual (bV st) (aY st) (aj st) .none kV iE pm an bX ct),pf⟩)(c:PySem.W.codeIn K bX qual=true)(k:PySem.W.keepIn K (.ref f)=true):dE K x qual st f (PySem.W.fnOf x qual (bV st) (aY st) (aj st) .none kV iE pm an bX ct):=⟨⟨oc,od,kV,iE,pm,an,bX,ct,pf,rfl,l,c⟩,k⟩
end
section
variable {X:Cx}
theorem pv(i:Nat)(hN:X.N[i]?=some x:=by rfl)(hv:Ir X.env.scope x:=by first|exact Or.inl rfl|exact Or.inr (Or.inl rfl)|exact Or.inr (Or.inr rfl))(hd:(x==("__debug__":Str))=false:=by decide)(lx:(x==("__classdict__":Str))=false:=by decide):PE X (.Name x pos) (cq i):=Fh hN hv hd lx
end
theorem du{A B:Prop}(h:B):if false=true then A else B:=by
 rw[al bE];exact h
theorem gG{A B:Prop}(h:A):if true=true then A else B:=by
 rw[ak rfl];exact h
theorem nu{c A B:Prop}[Decidable c](h1:c->A)(h2:¬ c->B):if c then A else B:=by
 by_cases h:c
 .rw[ak h];exact h1 h
 .rw[al h];exact h2 h
def aB(H H':Hp):Prop:=∀b o,H b=some o->H' b=some o
theorem aB.refl(H:Hp):aB H H:=fun _ _ h=>h
theorem aB.trans(a:aB H H1)(b:aB H1 H2):aB H H2:=fun c o h=>b c o (a c o h)
theorem aB.free(e:aB H H')(h:H' l=Option.none):H l=Option.none:=by
 cases q:H l with
 |none=>rfl
 |some o=>
  rw[e l o q] at h;cases h
def Cj(src:List (Option Nat))(σ:St):St:=src.map fun o=>match o with|some j=>σ.getD j none|none=>none
theorem Ck{src:List (Option Nat)}{σ:St}{i:Nat}{v:V}(h:(Cj src σ)[i]?=some (some v)):∃j,src[i]?=some (some j)/\σ[j]?=some (some v):=by
 unfold Cj at h;rw[bQ] at h;cases e:src[i]? with
 |none=>rw[e] at h;cases h
 |some o=>
  rw[e] at h;cases o with
  |none=>cases h
  |some j=>
   refine⟨j,rfl,?_⟩;have h':σ.getD j none=some v:=bA h;rw[dL] at h';cases e2:σ[j]? with
   |none=>rw[e2] at h';cases h'
   |some o=>rw[e2] at h';rw[show o=some v from h']
structure dO(NB:List Str)(src:List (Option Nat))(scope:Scope)(X:Cx):Prop where
 kind:scope.kind=.function
 nd:NB.Nodup
 len:src.length=NB.length
 cells:∀y∈scope.names,y.2=.cell->scope.names.lookup y.1=some .cell
 names:∀y∈scope.names,y.2=.local->scope.names.lookup y.1=some .local
 free:∀y∈scope.names,y.2=.free->X.env.scope.names.lookup y.1=some .cell\/X.env.scope.names.lookup y.1=some .free
 src:∀ (i:Nat) (x:Str) (j:Nat),NB[i]?=some x->src[i]?=some (some j)->X.N[j]?=some x/\scope.names.lookup x=some .free
def qB(scope:Scope)(x:Str):Bool:=match scope.names.lookup x with
 |some .cell=>true
 |_=>false
theorem rN:qB scope x=true↔scope.names.lookup x=some .cell:=by
 unfold qB;split
 .rename_i h;exact⟨fun _=>h,fun _=>rfl⟩
 .rename_i h;exact⟨fun z=>(by cases z),fun z=>absurd z h⟩
def rO(X:Cx)(NB:List Str)(scope:Scope)(cl:List (Str×Addr))(C:Addr)(s₃:Shared)(H₃:Hp)(fp:List Addr):Cx:=
 { X with N:=NB,s₀:=s₃,H₀:=H₃,env:=compEnvC scope cl C X.env,outer:=X.stack,stack:=X.stack,ex:=fp,fn:=qB scope,pn:=[],xe:=fun _ _=>False }
theorem jp:∀ (names:List (Str×NameKind)) (cL:List (Str×Addr)),(∀y∈names,y.2=NameKind.free->∃c,env.cells.lookup y.1=some c)->(∀x c,cL.lookup x=some c->env.cells.lookup x=some c)->
  ∃cl,(forIn names cL fun x r=>(if (x.2==NameKind.free)=true then (do let a <- cellOf env x.1;pure (ForInStep.yield ((x.1,a)::r))) else pure (ForInStep.yield r):Sem (ForInStep (List (Str×Addr)))))=(pure cl:Sem (List (Str×Addr)))/\
   (∀x c,cl.lookup x=some c->env.cells.lookup x=some c)/\(∀x c,cL.lookup x=some c->∃c',cl.lookup x=some c')/\∀x,(x,NameKind.free)∈names->∃c,cl.lookup x=some c
 |[],cL,_,ha=>⟨cL,by rw[qk],ha,fun x c h=>⟨c,h⟩,fun x h=>nomatch h⟩
 |(n,k)::r,cL,hf,ha=>by
  by_cases hk:k=NameKind.free
  .subst hk;obtain⟨c,hc⟩:=hf (n,NameKind.free) b9 rfl;have Je:∀x c',((n,c)::cL).lookup x=some c'->env.cells.lookup x=some c':=fun x c' h=>by
    rw[ee] at h;cases hx:x==n with
    |true=>
     rw[hx] at h;cases h;have:x=n:=by simpa using hx
     rw[this];exact hc
    |false=>rw[hx] at h;exact ha x c' h
   obtain⟨cl,e1,e2,e3,e4⟩:=jp r ((n,c)::cL) (fun y hy=>hf y (bD _ hy)) Je;refine⟨cl,?_,e2,fun x c' h=>?_,fun x h=>?_⟩
   .rw[qg];have ec:cellOf env n=pure c:=by unfold cellOf;rw[hc]
    have e0:(if ((n,NameKind.free).2==NameKind.free)=true then (do let a <- cellOf env (n,NameKind.free).1;pure (ForInStep.yield (((n,NameKind.free).1,a)::cL))) else pure (ForInStep.yield cL):Sem (ForInStep (List (Str×Addr))))=pure (ForInStep.yield ((n,c)::cL)):=by
     rw[ak (show (NameKind.free==NameKind.free)=true by decide)];show cellOf env n >>= _=_;rw[ec];rfl
    rw[e0];exact e1
   .cases hx:x==n with
    |true=>exact e3 x c (by rw[ee,hx])
    |false=>exact e3 x c' (by rw[ee,hx];exact h)
   .rcases a_.mp h with h|h
    .cases h;exact e3 n c (by rw[ee];simp)
    .exact e4 x h
  .obtain⟨cl,e1,e2,e3,e4⟩:=jp r cL (fun y hy=>hf y (bD _ hy)) ha;refine⟨cl,?_,e2,e3,fun x h=>?_⟩
   .rw[qg];have hb:(k==NameKind.free)=false:=by simpa using hk
    have e0:(if ((n,k).2==NameKind.free)=true then (do let a <- cellOf env (n,k).1;pure (ForInStep.yield (((n,k).1,a)::cL))) else pure (ForInStep.yield cL):Sem (ForInStep (List (Str×Addr))))=pure (ForInStep.yield cL):=by
     rw[al (by show ¬ (k==NameKind.free)=true;rw[hb];decide)]
    rw[e0];exact e1
   .rcases a_.mp h with h|h
    .cases h;exact absurd rfl hk
    .exact e4 x h
theorem f_(ok:X.Ok)(S:dO NB src scope X):
  ∃cl,closureFor scope X.env=pure cl/\(∀x c,cl.lookup x=some c->X.env.cells.lookup x=some c)/\∀x,(x,NameKind.free)∈scope.names->∃c,cl.lookup x=some c:=by
 obtain⟨cl,e1,e2,_,e4⟩:=jp (env:=X.env) scope.names [] (fun y hy hk=>ok.has y.1 (S.free y hy hk)) (fun x c h=>nomatch h);refine⟨cl,?_,e2,e4⟩;unfold closureFor;simp only[bind_pure];exact e1
theorem qC(h:scope.names.lookup x=some .free):(relabel scope env).names.lookup x=some .cell\/(relabel scope env).names.lookup x=some .free:=by
 have go:∀names:List (Str×NameKind),names.lookup x=some .free->
   (names.map fun (n,k)=>if (k==NameKind.free&&env.scope.kind==.function&&env.kindOf n==some .cell) then (n,NameKind.cell) else (n,k)).lookup x=some .cell\/
   (names.map fun (n,k)=>if (k==NameKind.free&&env.scope.kind==.function&&env.kindOf n==some .cell) then (n,NameKind.cell) else (n,k)).lookup x=some .free:=by
  intro names;induction names with
  |nil=>intro h;simp at h
  |cons y r ih=>
   intro h;obtain⟨n,k⟩:=y;rw[ee] at h;rw[fN];cases hx:x==n with
   |true=>
    rw[hx] at h;cases h;by_cases hc:(NameKind.free==NameKind.free&&env.scope.kind==.function&&env.kindOf n==some .cell)=true
    .left;show List.lookup x ((if _ then _ else _)::_)=_;rw[ak hc,ee,hx]
    .right;show List.lookup x ((if _ then _ else _)::_)=_;rw[al hc,ee,hx]
   |false=>
    rw[hx] at h;by_cases hc:(k==NameKind.free&&env.scope.kind==.function&&env.kindOf n==some .cell)=true
    .show List.lookup x ((if _ then _ else _)::_)=_\/List.lookup x ((if _ then _ else _)::_)=_;rw[ak hc,ee,hx];exact ih h
    .show List.lookup x ((if _ then _ else _)::_)=_\/List.lookup x ((if _ then _ else _)::_)=_;rw[al hc,ee,hx];exact ih h
 exact go scope.names h
theorem jP(h:(relabel scope env).names.lookup x=some k)(hk:k=.cell\/k=.free):(x,NameKind.free)∈scope.names\/(x,NameKind.cell)∈scope.names:=by
 have m:=fh h;obtain⟨⟨n,k'⟩,hm,e⟩:=a8.mp m;by_cases q:(k'==NameKind.free&&env.scope.kind==.function&&env.kindOf n==some .cell)=true
 .have e':(n,NameKind.cell)=(x,k):=by simpa [q] using e
  have k1:k'=NameKind.free:=by
   simp only[gu,eH] at q;exact q.1.1
  cases e';left;rw[<-k1];exact hm
 .have e':(n,k')=(x,k):=by simpa [q] using e
  cases e';rcases hk with z|z
  .subst z;exact .inr hm
  .subst z;exact .inl hm
theorem kY:∀ (names:List (Str×NameKind)) (h:Heap) (cL:List (Str×Addr)) (x:Str) (c:Addr),(cellsFrom h.objs.size names cL).lookup x=some c->cL.lookup x=some c\/(h.objs.size<=c/\(pushCells h names).IsCell c none)
 |[],_,_,_,_,e=>.inl e
 |(name,kind)::r,h,cL,x,c,e=>by
  unfold cellsFrom at e;unfold pushCells;split at e
  .rename_i hk;rw[ak hk];have j_:(h.push { cls:=.type "cell",data:=.cell none }).objs.size=h.objs.size+1:=gP ..;rw[<-j_] at e;rcases kY r _ _ x c e with z|⟨z1,z2⟩
   .rw[ee] at z;cases hx:x==name with
    |true=>
     rw[hx] at z;cases z;exact .inr ⟨aK _,_,pushCells_keeps r _ _ _ (b_ _ rfl),rfl⟩
    |false=>rw[hx] at z;exact .inl z
   .exact .inr ⟨by lia,z2⟩
  .rename_i hk;rw[al hk];exact kY r h cL x c e
theorem pj:∀ (names:List (Str×NameKind)) (n:Nat) (cL:List (Str×Addr)) (x:Str),(x,NameKind.cell)∈names->∃c,n<=c/\(cellsFrom n names cL).lookup x=some c:=by
 have up:∀ (names:List (Str×NameKind)) (n m:Nat) (cL:List (Str×Addr)) (x:Str) (c:Addr),cL.lookup x=some c->m<=c->m<=n->∃c',m<=c'/\(cellsFrom n names cL).lookup x=some c':=by
  intro names;induction names with
  |nil=>intro n m cL x c e h _;exact⟨c,h,e⟩
  |cons y r ih=>
   intro n m cL x c e h hm;obtain⟨name,kind⟩:=y;unfold cellsFrom;split
   .cases hx:x==name with
    |true=>exact ih (n+1) m _ x n (by rw[ee,hx]) hm (by lia)
    |false=>exact ih (n+1) m _ x c (by rw[ee,hx];exact e) h (by lia)
   .exact ih n m cL x c e h hm
 intro names;induction names with
 |nil=>intro n cL x h;cases h
 |cons y r ih=>
  intro n cL x h;obtain⟨name,kind⟩:=y;unfold cellsFrom;rcases a_.mp h with z|z
  .cases z;rw[ak (by decide)];exact up r (n+1) n _ x n (by rw[ee];simp) (aK _) (by lia)
  .split
   .obtain⟨c,h1,h2⟩:=ih (n+1) ((name,n)::cL) x z;exact⟨c,by lia,h2⟩
   .exact ih n cL x z
theorem iG:∀ (names:List (Str×NameKind)) (n:Nat) (cL:List (Str×Addr)) (x:Str) (c:Addr),cL.lookup x=some c->(x,NameKind.cell)∉names->(cellsFrom n names cL).lookup x=some c
 |[],_,_,_,_,e,_=>e
 |(name,kind)::r,n,cL,x,c,e,h=>by
  have hr:(x,NameKind.cell)∉r:=fun z=>h (bD _ z);unfold cellsFrom;split
  .rename_i hk;have yz:(x==name)=false:=by
    cases hx:x==name with
    |false=>rfl
    |true=>
     have e1:x=name:=by simpa using hx
     have e2:kind=.cell:=by simpa using hk
     exact absurd (by rw[e1,e2];exact b9) h
   exact iG r (n+1) _ x c (by rw[ee,yz];exact e) hr
  .exact iG r n cL x c e hr
theorem kZ:∀ (names:List (Str×NameKind)) (n:Nat) (cL:List (Str×Addr)),(∀x y c,cL.lookup x=some c->cL.lookup y=some c->x=y)->(∀x c,cL.lookup x=some c->c<n)->∀x y c,(cellsFrom n names cL).lookup x=some c->(cellsFrom n names cL).lookup y=some c->x=y
 |[],_,_,hi,_=>hi
 |(name,kind)::r,n,cL,hi,hl=>by
  unfold cellsFrom;split
  .refine kZ r (n+1) _ (fun x y c h1 h2=>?_) (fun x c h=>?_)
   .rw[ee] at h1 h2;cases hx:x==name <;> cases hy:y==name <;> rw[hx] at h1 <;> rw[hy] at h2
    .exact hi x y c h1 h2
    .cases h2;exact absurd (hl x _ h1) (ft _)
    .cases h1;exact absurd (hl y _ h2) (ft _)
    .have e1:x=name:=by simpa using hx
     have e2:y=name:=by simpa using hy
     rw[e1,e2]
   .rw[ee] at h;cases hx:x==name <;> rw[hx] at h
    .exact dg (hl x c h)
    .cases h;exact ja _
  .exact kZ r n cL hi hl
section
variable {X:Cx} {ae:List (Addr×Obj)} {σ:St} {H:Hp} {s:Shared} {NB:List Str} {src:List (Option Nat)} {scope:Scope} {cl:List (Str×Addr)} {fp:List Addr} {h₁:Heap} {t₁:Nat}
theorem Cm(I:aA X ae σ H s)(S:dO NB src scope X)(c1:∀x c,cl.lookup x=some c->X.env.cells.lookup x=some c)(c2:∀x,(x,NameKind.free)∈scope.names->∃c,cl.lookup x=some c)(hf:∀b∈fp,gC X ae H b)(Jf:∀b∈fp,b<s.heap.objs.size){m:Str->Option Value}(hn:h₁.Ns s.heap.objs.size m)(hk:∀b o,s.heap.get? b=some o->h₁.get? b=some o)(xt:∀x c,(cellsFrom (s.heap.objs.size+1) scope.names cl).lookup x=some c->cl.lookup x=some c\/(s.heap.objs.size<c/\h₁.IsCell c none)):
  aA (rO X NB scope (cellsFrom (s.heap.objs.size+1) scope.names cl) s.heap.objs.size s H fp) [] (Cj src σ) H { s with heap:=h₁,toks:=t₁ }:=by
 have yv:∀b∈i0 X.stack,b∈X.env.locals::X.fs:=I.qv;have zK:∀x c,cl.lookup x=some c->∃v,s.heap.IsCell c v:=fun x c e=>I.cell x c (c1 x c e);have Nl:∀x c,cl.lookup x=some c->c<s.heap.objs.size:=fun x c e=>by obtain⟨v,o,ho,_⟩:=zK x c e;exact a9 ho
 refine⟨⟨I.ok.mod,S.kind,I.ok.glob,I.ok.blt,aK _,kZ _ _ _ (fun x y c e1 e2=>I.ok.inj x y c (c1 x c e1) (c1 y c e2)) (fun x c e=>dg (Nl x c e)),fun x hx=>?_,fun x c z e=>?_,I.ok.hd,I.ok.frames,.inl rfl,fun b hb=>⟨?_,fun x c e=>?_⟩,I.bs,bb I.ok.xg I.sz,fun b o e hb=>?_,fun b hb=>?_,I.stack,I.qw⟩,
  rfl,I.bare,Un.kept hk,⟨m,hn,fun i x v e1 e2 e3=>?_⟩,fun x c e=>?_,I.be.fresh (aK _),fun x c e=>?_,fun p hp=>absurd (show p∈([]:List (Addr×Obj)) from hp) (by simp),I.be.kept hk,?_⟩
 .have Cn:(x,NameKind.free)∈scope.names\/(x,NameKind.cell)∈scope.names:=by
   rcases hx with hx|hx
   .exact jP hx (.inl rfl)
   .exact jP hx (.inr rfl)
  by_cases hc:(x,NameKind.cell)∈scope.names
  .obtain⟨c,_,e⟩:=pj scope.names (s.heap.objs.size+1) cl x hc;exact⟨c,e⟩
  .rcases Cn with z|z
   .obtain⟨c,e⟩:=c2 x z;exact⟨c,iG _ _ _ _ _ e hc⟩
   .exact absurd z hc
 .have hm:=fh (rN.mp z);obtain⟨c',h1,h2⟩:=pj scope.names (s.heap.objs.size+1) cl x hm;have e':(cellsFrom (s.heap.objs.size+1) scope.names cl).lookup x=some c:=e;rw[h2] at e';cases e';exact Nat.le_of_succ_le h1
 .exact aT (Jf b hb)
 .rcases xt x c e with z|⟨z,_⟩
  .exact(hf b hb).2.2.2.2.1 x c (c1 x c z)
  .exact fQ (Nat.lt_trans (Jf b hb) z)
 .rcases(hf b hb).2.2.2.1 with z|z
  .exact I.ok.kF b o e z
  .exact absurd (bp (a9 e) (bb I.ok.xg z)) (ft _)
 .intro z;rcases a_.mp (yv b z) with e|e
  .exact(hf b hb).2.1 e
  .exact(hf b hb).2.2.1 e
 .obtain⟨j,hj,hv⟩:=Ck e2;obtain⟨hN,hF⟩:=S.src i x j e1 hj;obtain⟨m0,BC,Nm⟩:=I.loc;have Co:=fh hF;have kx:=S.free _ Co rfl;have MZ:Ir X.env.scope x:=by
   rcases kx with z|z
   .exact .inr (.inl z)
   .exact .inr (.inr z)
  obtain⟨u,r,l⟩:=Nm j x v hN hv MZ;refine⟨u,r,.inr ⟨qC hF,?_⟩⟩;obtain⟨c,hc⟩:=c2 x Co;have Sk:(x,NameKind.cell)∉scope.names:=fun z=>by
   have:=S.cells _ z rfl;rw[hF] at this;cases this
  refine⟨c,iG _ _ _ _ _ hc Sk,?_⟩;rcases l with ⟨L4,_⟩|⟨_,c',e,z⟩
  .have Jg:X.env.scope.names.lookup x=some .local:=L4;rcases kx with z|z <;> (rw[z] at Jg;cases Jg)
  .rw[c1 x c hc] at e;cases e;obtain⟨o,ho,hd⟩:=z;exact⟨o,hk _ _ ho,hd⟩
 .rcases xt x c e with z|⟨_,z⟩
  .obtain⟨v,o,ho,hd⟩:=zK x c z;exact⟨v,o,hk _ _ ho,hd⟩
  .exact⟨none,z⟩
 .rcases xt x c e with z|⟨z,_⟩
  .exact I.eJ x c (c1 x c z)
  .exact I.be.fresh (fR z)
 .show (Cj src σ).length=NB.length;unfold Cj;rw[bJ];exact S.len
theorem aA.Jh(I:aA X ae σ H s)(J:aA (rO X NB scope cl C s H fp) [] σB H' s')(hf:∀b∈fp,gC X ae H b):aA X ae σ H' s':=by
 refine I.Ek (ch:=fp) J.os J.base J.be J.bare fun b hb=>?_;obtain⟨_,f1,_,f3,f4,f5⟩:=hf b hb;exact⟨f3,f1,f4,f5⟩
end
def FJ(X:Cx)(sZ:List Expr)(t:TT):Prop:=
 ∀ (ae:List (Addr×Obj)) (s:Shared) (σ:St) (H:Hp) (Q:Bool->Hp->Prop),aA X ae σ H s->t σ H Q->
  wpAny (model X.prog X.w) X.A (forIn sZ true fun c r=>if r=true then do let ok <- isTrue c X.env (eval c X.env);pure (ForInStep.yield ok) else pure (ForInStep.yield r)) (TP X ae σ Q) X.xe s
def Nn:TT:=fun _ H Q=>Q true H
theorem jQ:FJ X [] Nn:=fun _ _ _ H _ I h=>wpAny_tests_nil ⟨H,I,h⟩
theorem iH(h:PT X c t):FJ X [c] t:=fun ae s σ H Q I q=>wpAny_tests_one (h ae s σ H Q I q)
def jR(J:It)(g:TG)(tt:TT)(te:TE)(D:Addr)(cN:Hp->Prop)(σB:St)(H1:Hp):Prop:=
 ∃W:Nat->Nat->St->Hp->Prop,(∃m,W 0 m σB H1)/\∀i m σ H,W i m σ H->(J.stop i H/\cN H)\/(J.go i H/\∀x H',J.El i H x H'->g x σ H' fun σ2 H2=>tt σ2 H2 fun b H3=>
  if b=true then te σ2 H3 fun v H4=>∃ys,H4 D=some (.lst ys)/\ys.length<sizeLine/\∃m',m'<m/\W (i+1) m' σ2 (upd H4 D (.lst (ys++[v]))) else ∃m',m'<m/\W (i+1) m' σ2 H3)
def ny(G:Hp->Prop)(J:It)(g:TG)(tt:TT)(te:TE)(D:Addr)(cN:Hp->Prop)(σB:St)(H1:Hp):Prop:=
 ∃W:Nat->Nat->St->Hp->Prop,(∃m,W 0 m σB H1)/\∀i m σ H,W i m σ H->G H/\((J.stop i H/\cN H)\/(J.go i H/\∀x H',J.El i H x H'->g x σ H' fun σ2 H2=>tt σ2 H2 fun b H3=>
  if b=true then te σ2 H3 fun v H4=>∃ys,H4 D=some (.lst ys)/\ys.length<sizeLine/\∃m',m'<m/\W (i+1) m' σ2 (upd H4 D (.lst (ys++[v]))) else ∃m',m'<m/\W (i+1) m' σ2 H3))
theorem jR.g{J:It}{g:TG}{tt:TT}{te:TE}{D:Addr}{cN:Hp->Prop}{σB:St}{H1:Hp}(h:jR J g tt te D cN σB H1):ny (fun _=>True) J g tt te D cN σB H1:=let ⟨W,a,b⟩:=h;⟨W,a,fun i m σ H w=>⟨trivial,b i m σ H w⟩⟩
theorem xu(hx:B.xe=fun _ _=>False)(hc:∀H,G H->B.calm=true\/J.BY B.A H)(T:uN B.prog B.w B.K tg J fp it tn)(hg:PG B tg g)(ht:FJ B sZ tt)(he:PE B wf te)(I:aA B [] σB H1 s)(st:tn 0 s.heap)(hf:∀b∈fp,gC B [] H1 b)(hw:ny G J g tt te D cN σB H1)(hR:∀σ' H' s',aA B [] σ' H' s'->cN H'->R (.ok .next) s'):
  codeAny (model B.prog B.w) B.A (.compLoop (.ListComp wf [⟨tg,eY,sZ,0⟩] scope pos) 0 (.ref it) (.ref D) B.env) R s:=by
 obtain⟨W,⟨m0,w0⟩,y6⟩:=hw;have uQ:∀ {H':Hp},(∀b∈fp,H' b=none)->∀b∈fp,gC B [] H' b:=fun hn b hb=>⟨hn b hb,(hf b hb).2⟩
 refine codeAny_loop rfl (fun n s'=>∃i σ' H',aA B [] σ' H' s'/\tn i s'.heap/\(∀b∈fp,H' b=none)/\W i n σ' H') ?_ m0 ⟨0,σB,H1,I,st,fun b hb=>(hf b hb).1,w0⟩;rintro n s3 ⟨i,σ3,H3,I3,uR,Fp,w3⟩;show wpAny _ B.A ((compTurn (.ListComp wf [⟨tg,eY,sZ,0⟩] scope pos) 0 (.ref it) (.ref D) B.env).onRaise (fun x=>do noteFrame x B.env;theTreesLotGoes x)) _ _ s3;refine wpAny_noted ?_;rw[compTurn_list];have nx:∀ {α:Type} {t:Sem α} {Q:α->Shared->Prop} {E':Value->Shared->Prop} {s:Shared},wpAny (model B.prog B.w) B.A t Q B.xe s->wpAny (model B.prog B.w) B.A t Q E' s:=fun h=>
  eX h (fun _ _ q=>q) fun _ _ z=>by rw[hx] at z;exact z.elim
 obtain⟨hG,Ji⟩:=y6 i n σ3 H3 w3;rcases Ji with ⟨stop,qn⟩|⟨go,step⟩
 .refine ao (ku (ao (bC (T.done B rfl rfl rfl i [] s3 σ3 H3 _ (hc _ hG) I3 (uQ Fp) uR stop) fun r s4 ⟨hr,I4⟩=>?_)));subst hr;exact wpAny_pure (hR σ3 H3 s4 I4 qn)
 .refine ao (ku (ao (bC (T.item B rfl rfl rfl i [] s3 σ3 H3 _ (hc _ hG) I3 (uQ Fp) uR go) fun r s4 ⟨u,hr,h4⟩=>?_)));subst hr;refine ao (bC h4 fun _ s5 ⟨x,H5,I5,r5,y5,rA,M2⟩=>?_);have M3:=I5.pinned (uQ M2) (T.obj _ _ rA);refine ao (nx (bC (hg _ s5 σ3 H5 x u _ M3 r5 (step x H5 y5)) fun _ s6 ⟨σ6,H6,I6,q6⟩=>?_));have back:∀ {σ7:St} {H7:Hp} {s7:Shared} {m':Nat},aA B ([]++m_ fp s5.heap) σ7 H7 s7->m'<n->W (i+1) m' σ7 H7->∃m,m<n/\∃i σ' H',aA B [] σ' H' s7/\tn i s7.heap/\(∀b∈fp,H' b=none)/\W i m σ' H':=fun {σ7 H7 s7 m'} I7 hm w7=>by
   refine⟨m',hm,i+1,σ7,H7,I7.jL,T.keep _ _ _ rA fun b hb o e=>(I7.pin (b,o) (iW _ (iW _ (f8 hb e)))).1,fun b hb=>?_,w7⟩;obtain⟨o,e,d⟩:=T.obj _ _ rA b hb;exact(I7.pin (b,o) (iW _ (iW _ (f8 hb e)))).2.1
  refine ao (nx (bC (ht _ s6 σ6 H6 _ I6 q6) fun ok s7 ⟨H7,I7,q7⟩=>?_));cases ok with
  |false=>
   rw[al bE] at q7;obtain⟨m',hm,w7⟩:=q7;exact wpAny_pure ⟨rfl,back I7 hm w7⟩
  |true=>
   rw[ak rfl] at q7;refine ao (ao (nx (bC (he _ s7 σ6 H7 _ I7 q7) fun v s8 ⟨y,H8,I8,r8,ys,hD,hl,m',hm,w8⟩=>?_)));refine ao (nx (bC (cU _ s8 σ6 H8 (.ref D) [y] (.ref D) [v] (fun _ H9=>H9=upd H8 D (.lst (ys++[y]))) I8 rfl (.cons r8 .nil) ⟨D,ys,y,rfl,rfl,hD,hl,rfl⟩) fun _ s9 ⟨_,H9,I9,_,e9⟩=>?_));subst e9;exact wpAny_pure (wpAny_pure ⟨rfl,back I9 hm w8⟩)
theorem qD(hQ:Q { scope:=scope,locals:=s.heap.objs.size,globals:=globals,cells:=cellsFrom (s.heap.objs.size+1) scope.names cl,qual:=qual,func:=none,code:=outer.code,frame:=outer.frame,builtins:=outer.builtins }
   { s with heap:=pushCells (s.heap.push { cls:=.type "dict",data:=.dict #[] }) scope.names }):
  wpAny M A (newFunctionEnv scope globals cl [] qual none .none (some outer)) Q E s:=by
 simp only[newFunctionEnv,Option.isSome_some,if_true];refine ao (wpAny_alloc ?_);refine ao (wpAny_layCells _ (fun name kind cells=>by cases Sl:kind==NameKind.cell <;> simp[Sl]) _ _ _ _ ?_);rw[show ({ s with heap:=s.heap.push { cls:=.type "dict",data:=.dict #[] } }:Shared).heap.objs.size=s.heap.objs.size+1 from gP ..];refine ao ?_;rw[qk];exact wpAny_pure (wpAny_pure hQ)
section
variable {X:Cx} {wf tg eY:Expr} {sZ:List Expr} {scope:Scope} {pos:Pos} {wi:TI} {g:TG} {tt:TT} {te:TE} {NB:List Str} {src:List (Option Nat)}
def Ep(src:List (Option Nat))(wi:TI)(g:TG)(tt:TT)(te:TE):TE:=fun σ H Q=>wi σ H fun J H1=>∀D,H1 D=none->jR J g tt te D (fun H'=>Q (.ref D) H') (Cj src σ) (upd H1 D (.lst []))
theorem jq{ae:List (Addr×Obj)}{σ:St}{H2:Hp}{s2:Shared}{J:It}{fp:List Addr}{it:Addr}{tn:Nat->Heap->Prop}{cl:List (Str×Addr)}{cN:Addr->Hp->Prop}{E':Value->Shared->Prop}{RR:Value->Addr->Result->Shared->Prop}{G:Hp->Prop}(S:dO NB src scope X)(hc:∀H,G H->X.calm=true\/J.BY X.A H)(c1:∀x c,cl.lookup x=some c->X.env.cells.lookup x=some c)(c2:∀x,(x,NameKind.free)∈scope.names->∃c,cl.lookup x=some c)(hg:∀cl C s₃ H₃ fp,PG (rO X NB scope cl C s₃ H₃ fp) tg g)(ht:∀cl C s₃ H₃ fp,FJ (rO X NB scope cl C s₃ H₃ fp) sZ tt)(he:∀cl C s₃ H₃ fp,PE (rO X NB scope cl C s₃ H₃ fp) wf te)(I2:aA X ae σ H2 s2)(T:uN X.prog X.w X.K tg J fp it tn)(o5:tn 0 s2.heap)(f2:∀b∈fp,gC X ae H2 b)(hw:∀D,H2 D=none->ny G J g tt te D (cN D) (Cj src σ) (upd H2 D (.lst [])))(hR:∀D C H' s',gC X ae H' C->aA X ae σ H' s'->(∃m,s'.heap.Ns C m)->cN D H'->RR (.ref D) C (.ok .next) s'):
  wpAny (model X.prog X.w) X.A (newList []) (fun cL s₃=>wpAny (model X.prog X.w) X.A (newFunctionEnv scope X.env.globals cl [] X.env.qual none .none (some X.env)) (fun Jj s₄=>
   codeAny (model X.prog X.w) X.A (.compStart (.ListComp wf [⟨tg,eY,sZ,0⟩] scope pos) 0 (.ref it) cL { Jj with scope:=relabel scope X.env }) (RR cL Jj.locals) s₄) E' s₃) E' s2:=by
 refine gN (qD ?_);have I3:=I2.I_ (ys:=[]) (its:=[]) (t':=s2.toks) .nil (cK _);have hD:H2 s2.heap.objs.size=none:=I2.fresh;have fo:∀b∈fp,b<s2.heap.objs.size:=fun b hb=>by obtain⟨o,e,_⟩:=T.obj _ _ o5 b hb;exact a9 e
 have up:∀ {b:Addr},b∈fp->upd H2 s2.heap.objs.size (.lst []) b=H2 b:=fun {b} hb=>ap (aT (fo b hb));have f3:∀b∈fp,gC X ae (upd H2 s2.heap.objs.size (.lst [])) b:=fun b hb=>⟨by rw[up hb];exact(f2 b hb).1,(f2 b hb).2⟩
 have j_:(s2.heap.push { cls:=.type "list",data:=.seq ([]:List Value).toArray }).objs.size=s2.heap.objs.size+1:=by rw[gP]
 generalize Sm:({ s2 with heap:=s2.heap.push { cls:=.type "list",data:=.seq ([]:List Value).toArray } }:Shared)=s3 at I3 |-;have QE:s3.heap=s2.heap.push { cls:=.type "list",data:=.seq ([]:List Value).toArray }:=by rw[<-Sm]
 have QF:∀b∈fp,b<s3.heap.objs.size:=fun b hb=>by rw[QE,j_];exact dg (fo b hb)
 have Jk:(s3.heap.push { cls:=.type "dict",data:=.dict #[] }).objs.size=s3.heap.objs.size+1:=gP ..;have xt:∀x c,(cellsFrom (s3.heap.objs.size+1) scope.names cl).lookup x=some c->cl.lookup x=some c\/(s3.heap.objs.size<c/\(pushCells (s3.heap.push { cls:=.type "dict",data:=.dict #[] }) scope.names).IsCell c none):=fun x c e=>by
  rw[<-Jk] at e;rcases kY _ _ _ _ _ e with z|⟨z1,z2⟩
  .exact .inl z
  .exact .inr ⟨by rw[Jk] at z1;exact z1,z2⟩
 have Jl:=(Heap.Ns.new s3.heap (.type "dict")).keeps (pushCells_keeps scope.names _);have keep:∀b o,s3.heap.get? b=some o->(pushCells (s3.heap.push { cls:=.type "dict",data:=.dict #[] }) scope.names).get? b=some o:=fun b o e=>pushCells_keeps _ _ b o (bf _ e);generalize Vy:pushCells (s3.heap.push { cls:=.type "dict",data:=.dict #[] }) scope.names=h₁ at xt Jl keep |-;have IB:aA (rO X NB scope (cellsFrom (s3.heap.objs.size+1) scope.names cl) s3.heap.objs.size s3 (upd H2 s2.heap.objs.size (.lst [])) fp) [] (Cj src σ) (upd H2 s2.heap.objs.size (.lst [])) { s3 with heap:=h₁,toks:=s3.toks }:=
  Cm I3 S c1 c2 f3 QF Jl keep xt
 have QG:tn 0 h₁:=T.keep 0 s2.heap h₁ o5 fun b hb o e=>keep b o (by rw[QE];exact bf _ e);have fB:∀b∈fp,gC (rO X NB scope (cellsFrom (s3.heap.objs.size+1) scope.names cl) s3.heap.objs.size s3 (upd H2 s2.heap.objs.size (.lst [])) fp) [] (upd H2 s2.heap.objs.size (.lst [])) b:=fun b hb=>by
  refine⟨(f3 b hb).1,aT (QF b hb),fun z=>?_,.inl hb,fun x c e=>(IB.ok.Iv b hb).2 x c e,fun p hp=>absurd (show p∈([]:List (Addr×Obj)) from hp) (by simp)⟩;rcases a_.mp (I3.qv b z) with e|e
  .exact(f3 b hb).2.1 e
  .exact(f3 b hb).2.2.1 e
 have loop:codeAny (model X.prog X.w) X.A (.compLoop (.ListComp wf [⟨tg,eY,sZ,0⟩] scope pos) 0 (.ref it) (.ref s2.heap.objs.size) (compEnvC scope (cellsFrom (s3.heap.objs.size+1) scope.names cl) s3.heap.objs.size X.env)) (RR (.ref s2.heap.objs.size) s3.heap.objs.size)
   { s3 with heap:=h₁,toks:=s3.toks }:=by
  refine xu (B:=rO X NB scope (cellsFrom (s3.heap.objs.size+1) scope.names cl) s3.heap.objs.size s3 (upd H2 s2.heap.objs.size (.lst [])) fp) rfl hc T (hg _ _ _ _ _) (ht _ _ _ _ _) (he _ _ _ _ _) IB QG fB (hw _ hD) fun σ' H' s' J' q=>?_;obtain⟨m,hm,_⟩:=J'.loc;exact hR _ _ H' s' (I3.y7 (aK _) J'.free) (I3.Jh J' f3) ⟨m,hm⟩ q
 exact codeAny_compStart_list loop (T.self _ 0 _ _ _ QG loop)
theorem gb(S:dO NB src scope X)(hc:X.calm=true)(hi:PI X tg eY wi)(hg:∀cl C s₃ H₃ fp,PG (rO X NB scope cl C s₃ H₃ fp) tg g)(ht:∀cl C s₃ H₃ fp,FJ (rO X NB scope cl C s₃ H₃ fp) sZ tt)(he:∀cl C s₃ H₃ fp,PE (rO X NB scope cl C s₃ H₃ fp) wf te)(hs:∀x,foldedSetIterable eY X.env x=pure x:=by intro _;rfl):PE X (.ListComp wf [⟨tg,eY,sZ,0⟩] scope pos) (Ep src wi g tt te):=by
 intro ae s σ H Q I h;obtain⟨cl,Es,c1,c2⟩:=f_ I.ok S;rw[eval_ListComp];refine tU (use:=none) (cl:=cl) rfl hs Es S.kind S.names (bC (hi ae s σ H _ I h) fun v s1 h1=>bC h1 fun IL s2 h2=>?_);obtain⟨it,fp,tn,J,H2,e,I2,T,o5,f2,hw⟩:=h2;subst e;refine jq (RR:=fun cL C=>compPost (model X.prog X.w) X.A X.xe none (EP X ae σ Q) cL C) S (G:=fun _=>True) (fun _ _=>.inl hc) c1 c2 hg ht he I2 T o5 f2 (fun D hD=>(hw D hD).g) fun D C H' s' fC I' hm q=>?_;obtain⟨m,hm⟩:=hm;refine⟨m,hm,fun h' sb=>⟨.ref D,H',?_,rfl,q⟩⟩;obtain⟨g0,g1,_,g3,g4,g5⟩:=fC;exact I'.turned (t':=s'.toks) (fun b o hb e=>(sb.2 b hb).trans e) g0 g1 g3 g4 g5
def FK(A:Around)(src:List (Option Nat))(wi:TI)(g:TG)(tt:TT)(te:TE):TE:=fun σ H Q=>wi σ H fun J H1=>∀D,H1 D=none->ny (J.BY A) J g tt te D (fun H'=>Q (.ref D) H') (Cj src σ) (upd H1 D (.lst []))
theorem zL(S:dO NB src scope X)(hi:PI X tg eY wi)(hg:∀cl C s₃ H₃ fp,PG (rO X NB scope cl C s₃ H₃ fp) tg g)(ht:∀cl C s₃ H₃ fp,FJ (rO X NB scope cl C s₃ H₃ fp) sZ tt)(he:∀cl C s₃ H₃ fp,PE (rO X NB scope cl C s₃ H₃ fp) wf te)(hs:∀x,foldedSetIterable eY X.env x=pure x:=by intro _;rfl):PE X (.ListComp wf [⟨tg,eY,sZ,0⟩] scope pos) (FK X.A src wi g tt te):=by
 intro ae s σ H Q I h;obtain⟨cl,Es,c1,c2⟩:=f_ I.ok S;rw[eval_ListComp];refine tU (use:=none) (cl:=cl) rfl hs Es S.kind S.names (bC (hi ae s σ H _ I h) fun v s1 h1=>bC h1 fun IL s2 h2=>?_);obtain⟨it,fp,tn,J,H2,e,I2,T,o5,f2,hw⟩:=h2;subst e;refine jq (RR:=fun cL C=>compPost (model X.prog X.w) X.A X.xe none (EP X ae σ Q) cL C) S (G:=J.BY X.A) (fun _ z=>.inr z) c1 c2 hg ht he I2 T o5 f2 hw fun D C H' s' fC I' hm q=>?_;obtain⟨m,hm⟩:=hm;refine⟨m,hm,fun h' sb=>⟨.ref D,H',?_,rfl,q⟩⟩;obtain⟨g0,g1,_,g3,g4,g5⟩:=fC;exact I'.turned (t':=s'.toks) (fun b o hb e=>(sb.2 b hb).trans e) g0 g1 g3 g4 g5
theorem jr{i:Nat}{y:Str}{py Jm:Pos}(S:dO NB src scope X)(hc:X.calm=true)(hi:PI X tg eY wi)(hg:∀cl C s₃ H₃ fp,PG (rO X NB scope cl C s₃ H₃ fp) tg g)(ht:∀cl C s₃ H₃ fp,FJ (rO X NB scope cl C s₃ H₃ fp) sZ tt)(he:∀cl C s₃ H₃ fp,PE (rO X NB scope cl C s₃ H₃ fp) wf te)(hN:X.N.Nodup)(Sn:X.N[i]?=some y)(hy:X.env.scope.names.lookup y=some .local)(So:swapsWith (.ListComp wf [⟨tg,eY,sZ,0⟩] scope pos) (some (.Name y py)) Jm.line X.env=pure true)(hs:∀x,foldedSetIterable eY X.env x=pure x:=by intro _;rfl):
  PS X (.Assign [.Name y py] (.ListComp wf [⟨tg,eY,sZ,0⟩] scope pos) Jm) (xi (Ep src wi g tt te) (cA i)):=by
 intro ae s σ H D0 I h;obtain⟨cl,Es,c1,c2⟩:=f_ I.ok S;rw[exec_Assign_Name_used _ _ _ _ So];refine ao (ku (ao ?_));show wpAny _ X.A (do let _ <- comprehension (.ListComp wf [⟨tg,eY,sZ,0⟩] scope pos) scope X.env _ (newList []) false (eval eY X.env) (some (assign (.Name y py) X.env))) _ _ s;refine ao (eX (tU (use:=some (assign (.Name y py) X.env)) (Q:=fun _ s'=>SP X ae D0 .next s') (cl:=cl) rfl hs Es S.kind S.names
  (bC (hi ae s σ H _ I h) fun v s1 h1=>bC h1 fun IL s2 h2=>?_)) (fun _ s' hq=>wpAny_pure (wpAny_pure hq)) fun _ _ e=>e)
 obtain⟨it,fp,tn,J,H2,e,I2,T,o5,f2,hw⟩:=h2;subst e;refine jq (RR:=fun cL C=>compPost (model X.prog X.w) X.A X.xe (some (assign (.Name y py) X.env)) (fun _ s'=>SP X ae D0 .next s') cL C) S (G:=fun _=>True) (fun _ _=>.inl hc) c1 c2 hg ht he I2 T o5 f2 (fun D hD=>(hw D hD).g) fun D C H' s' fC I' hm q=>?_;obtain⟨m,hm⟩:=hm;obtain⟨g0,g1,_,g3,g4,g5⟩:=fC;show wpAny _ X.A (assign (.Name y py) X.env (.ref D)) _ _ _;refine wpAny_assign_Name (iA I' hN Sn (.inl hy) (v:=.ref D) rfl (fun B_ Sq sb=>?_) (.inr hy));obtain⟨a,sb,ha⟩:=sb;have yz:C≠a:=by
  rcases ha with z|z
  .rw[z];exact g1
  .exact fun z'=>g4 y a z z'.symm
 refine⟨m,hm.sameBut sb yz,fun h' Sr=>⟨_,H',Sq.turned (t':=B_.toks) (fun b o hb e=>(Sr.2 b hb).trans e) g0 g1 g3 g4 g5,q⟩⟩
end
structure zM(P:Program)(w:World)(outer:List Env)(H:Hp)(s:Shared)(B:Heap)(p:Addr)(C a0:Value)(H':Hp)(s':Shared):Prop where
 os:s'.os=s.os
 bare:AllBare s'.gens
 be:jk P w H' B
 keep:∀b o,s.heap.get? b=some o->H b=none->b∉i0 outer->B.get? b=some o/\H' b=none
 frame:∀b o,s.heap.get? b=some o->H b=none->b∈i0 outer->(∃sl,s'.heap.get? b=some { o with slots:=sl })/\H' b=none
 there:∀b o,s.heap.get? b=some o->H b≠none->∃o',B.get? b=some o'
 fU:∀b xs,H b=some (.tup xs)->H' b=some (.tup xs)
 gY:∀b o u,H b=some (.o3 o u)->H' b=some (.o3 o u)
 iP:∀b ps,H b=some (.mV ps)->∃more,H' b=some (.mV (ps++more))
 fl:rD B outer p C s'.heap
def d6(P:Program)(w:World):lX:=fun outer H s E e s'=>∃p C a0 B H',e=.ref p/\zM P w outer H s B p C a0 H' s'/\E C none H'
section
variable {P:Program} {w:World} {K:PySem.W.Frag} {mg:Str->Option Value} {base:Heap} {N:List Str} {qual:Str} {scope:Scope} {f:Addr} {cd:Value} {A:Around} {outer:List Env} {s:Shared} {H:Hp} {E:XK}
abbrev No(h:Heap)(l:List Env):Heap:=PySem.W.hideAll h (i0 l)
theorem Cp{l:List Env}{H1:Hp}{h:Heap}(ok:jk P w H1 h)(nf:∀b∈i0 l,H1 b=none):jk P w H1 (No h l):=fun a o e=>by
 refine(ok a o e).kD (fun b u hb q=>qb _ q fun z=>?_) (fun _ q=>q) fun _ _ q=>q;have n:=nf b z;rcases hb with rfl|hb
 .rw[n] at e;cases e
 .rw[n] at hb;cases hb
theorem ic{ae:List (Addr×Obj)}{σ:St}{H1:Hp}{s1:Shared}{h':Heap}{e:Addr}{C:Value}{vs:List Value}(I:aA (fu (d6 P w) P w K mg base N qual scope f cd A outer s H E) ae σ H1 s1)(hx:Heap.MadeExcOf s1.heap h' e C vs)(q:E C none H1):
  (fu (d6 P w) P w K mg base N qual scope f cd A outer s H E).xe (.ref e) { s1 with heap:=h' }:=by
 have yv:i0 (envOfC qual scope s.heap.objs.size f cd::outer)=s.heap.objs.size::i0 outer:=rfl;have Np:=I.stack;refine uI (B:=No s1.heap (envOfC qual scope s.heap.objs.size f cd::outer)) (h:=s1.heap) (L:=s.heap.objs.size) I.ok.frames rfl (fun b o z=>PySem.W.of_hideAll _ z)
  (PySem.W.funFrames_hide Np fun env he b hb=>mv.mpr ⟨env,he,hb⟩) hx fun h2 x1 x4=>?_
 have Ss:∀b o,s1.heap.get? b=some o->b∉i0 outer->b<s.heap.objs.size->(No s1.heap (envOfC qual scope s.heap.objs.size f cd::outer)).get? b=some o:=fun b o z hb eE=>
  qb _ z fun m=>by
   rw[yv] at m;rcases a_.mp m with z'|z'
   .exact absurd eE (by rw[z'];exact ft _)
   .exact hb z'
 refine⟨e,C,.none,_,H1,rfl,⟨I.os,I.bare,Cp I.be I.qw,fun b o z n hb=>⟨Ss b o (I.base.keep b o z n hb (by intro m;exact absurd (show b∈([]:List Addr) from m) (by simp))) hb (a9 z),I.base.free b o z n (by intro m;exact absurd (show b∈([]:List Addr) from m) (by simp))⟩,
  fun b o z n hb=>⟨?_,I.base.free b o z n (by intro m;exact absurd (show b∈([]:List Addr) from m) (by simp))⟩,fun b o z n=>?_,I.base.fU,I.base.gY,I.base.iP,x1⟩,q⟩
 .obtain⟨sl,z1⟩:=I.base.slot b o z n hb (by intro m;exact absurd (show b∈([]:List Addr) from m) (by simp));obtain⟨_,o',o4,nd⟩:=I.ok.g7.mem hb;have e':o'=o:=bA (o4.symm.trans z);subst e';obtain⟨L5,z2⟩:=x4 b _ (hx.keeps _ _ z1) nd;exact⟨L5,z2⟩
 .have Nq:b∉i0 (envOfC qual scope s.heap.objs.size f cd::outer):=fun m=>by
   rw[yv] at m;rcases a_.mp m with z'|z'
   .exact absurd (a9 z) (by rw[z'];exact ft _)
   .exact n (I.ok.yw b z')
  obtain⟨o',z1⟩:=I.base.there b o z (by intro m;exact absurd (show b∈([]:List Addr) from m) (by simp));exact⟨o',qb _ z1 Nq⟩
theorem pk{E':XK}(hE:∀C d H',E' C d H'->E C d H'):dZ (d6 P w) (fu (d6 P w) P w K mg base N qual scope f cd A outer s H E) E':=by
 intro ae σ H1 s1 e s' I h;obtain⟨p,C,a0,B,H',rfl,F,q⟩:=h;have yv:i0 (envOfC qual scope s.heap.objs.size f cd::outer)=s.heap.objs.size::i0 outer:=rfl;have kF:∀b:Addr,b∉(fu (d6 P w) P w K mg base N qual scope f cd A outer s H E).ex:=fun b m=>absurd (show b∈([]:List Addr) from m) (by simp);have QH:∀b o,s.heap.get? b=some o->b∉i0 outer->b∉i0 (fu (d6 P w) P w K mg base N qual scope f cd A outer s H E).stack:=fun b o z hb m=>by
  have m':b∈s.heap.objs.size::i0 outer:=m;rcases a_.mp m' with z'|z'
  .exact absurd (a9 z) (by rw[z'];exact ft _)
  .exact hb z'
 show wpAny _ _ (leaving (envOfC qual scope s.heap.objs.size f cd) (.ref p)) _ _ s';refine yR (outer:=outer) (L:=s.heap.objs.size) I.ok.frames rfl F.fl fun h2 x1 x2=>?_;refine⟨p,C,a0,B,H',rfl,⟨F.os.trans I.os,F.bare,F.be,fun b o z n hb=>?_,fun b o z n hb=>?_,fun b o z n=>?_,fun b xs z=>F.fU b xs (I.base.fU b xs z),fun b o u z=>F.gY b o u (I.base.gY b o u z),fun b ps z=>?_,x1⟩,hE _ _ _ q⟩
 .exact F.keep b o (I.base.keep b o z n hb (kF b)) (I.base.free b o z n (kF b)) (QH b o z hb)
 .obtain⟨sl,z1⟩:=I.base.slot b o z n hb (kF b);have wg:b∈i0 (fu (d6 P w) P w K mg base N qual scope f cd A outer s H E).stack:=bD _ hb;obtain⟨⟨L5,z2⟩,n2⟩:=F.frame b _ z1 (I.base.free b o z n (kF b)) wg;obtain⟨_,o',o4,nd⟩:=I.ok.g7.mem hb;have e':o'=o:=bA (o4.symm.trans z);subst e';obtain⟨Su,z3⟩:=x2 b _ z2 nd;exact⟨⟨Su,z3⟩,n2⟩
 .obtain⟨o',z1⟩:=I.base.there b o z (kF b);have zC:b∉i0 outer:=fun m=>n (I.ok.yw b m);cases n1:H1 b with
  |none=>exact⟨o',(F.keep b o' z1 n1 (QH b o z zC)).1⟩
  |some u=>exact F.there b o' z1 (by rw[n1];intro z';cases z')
 .obtain⟨m1,z1⟩:=I.base.iP b ps z;obtain⟨m2,z2⟩:=F.iP b _ z1;exact⟨m1++m2,by rw[z2,Array.append_assoc]⟩
theorem FL:PassesOwn (model P w) (fu (d6 P w) P w K mg base N qual scope f cd A outer s H E).A (fu (d6 P w) P w K mg base N qual scope f cd A outer s H E).env (fu (d6 P w) P w K mg base N qual scope f cd A outer s H E).xe:=by
 intro e s' h;exact PassesOwn.leaving (M:=model P w) (A:=A.deeper (envOfC qual scope s.heap.objs.size f cd)) (env:=envOfC qual scope s.heap.objs.size f cd) (Q₁:=fun e B_=>d6 P w outer H s E e B_) (E₁:=fun e' B_=>d6 P w outer H s E e' B_) e s' h
end
theorem nA{P:Program}{w:World}{X:Cx}:dZ (d6 P w) X E0:=fun _ _ _ _ _ _ _ h=>by
 obtain⟨_,_,_,_,_,_,_,q⟩:=h;exact q.elim
open PySem PySem.Spec PyProof.Rows PySem.W
abbrev Sv:List Value:=[.type "ValueError",.type "Exception",.type "BaseException",.type "object"]
structure iS(K:PySem.W.Frag)(C:Addr):Prop where
 ex:PySem.W.excIn K C Sv "ValueError.__new__"=true
 kp:PySem.W.keepIn K (.ref C)=true
 ga:PySem.W.findIn K (.ref C) "__getattribute__"=some (some (.builtin "BaseException.__getattribute__"))
 gt:PySem.W.findIn K (.ref C) "__getattr__"=some none
 cl:PySem.W.findIn K (.ref C) "__class__"=some (some (.builtin "object.__class__"))
 mo:PySem.W.mroIn K C (.type "object")=some true
 mb:PySem.W.mroIn K C (.type "BaseException")=some true
 ty:(PySem.W.clsIn K C).isSome=true
theorem rP{K:PySem.W.Frag}{h:Heap}{C:Addr}{QI:List Value}{Et:String}(X:K.In h)(q:PySem.W.excIn K C QI Et=true):
  ∃bm N nm qn bs hdct sn sub ab col dd k0 k1 k2 k3 k5 mN,h.get? C=some (excClassObj nm qn C N bs bm hdct sn sub ab col dd k0 k1 k2 k3 k5 Et)/\h.Ns N mN/\mN "__init__"=none/\OwnTail h QI bm:=by
 unfold PySem.W.excIn at q;split at q
 .rename_i dd cd sl ho;split at q
  .rename_i C' bm k0 k1 k2 k3 n k5 hm hs;simp only[gu,eH,Bool.not_eq_true'] at q;obtain⟨⟨⟨⟨⟨rfl,rfl⟩,Jn⟩,ht⟩,be⟩,Jo⟩:=q;obtain⟨nm,bs,mro,ns,qn,hd,sn,sub,ab,col,Vz⟩:=cd;dsimp only at hm Jn be Jo;subst hm Jn;have HR:sl=#[k0,k1,k2,k3,some (.builtin n),k5]:=by
    obtain⟨l⟩:=sl;simp only at hs;rw[hs]
   subst HR;exact⟨bm,ns,nm,qn,bs,hd,sn,sub,ab,col,dd,k0,k1,k2,k3,k5,_,X _ _ ho,.of_isNs (isNs_of_in X be),nsMap_none_of_in X be Jo,tail_of_in X ht⟩
  .cases q
 .cases q
def BE(p:Addr)(C:Value)(h:Heap):Prop:=∃o,h.get? p=some o/\o.cls=C/\∃vs,o.data=.fields vs/\vs[2]?=some .none
theorem BE.nc{p:Addr}{C:Value}{h:Heap}(x:BE p C h):rE p h:=let ⟨o,a,_,vs,b,c⟩:=x;⟨o,vs,a,b,c⟩
abbrev qE(p:Addr)(C:Value):HO:=.ext (BE p C)
theorem BE.ok{P:Program}{w:World}{H:Hp}{h:Heap}{p:Addr}{C:Value}(x:BE p C h):b8 P w H h p (qE p C):=
 ⟨x,(let ⟨o,e,_⟩:=x;⟨o,e⟩),fun h1 h2 ⟨o,e,r⟩ k=>⟨o,k o e,r⟩⟩
theorem b8.get(x:b8 P w H h a o):∃u,h.get? a=some u:=by
 cases o with
 |lst xs=>obtain⟨_,_,_,_,e⟩:=x;exact⟨_,e⟩
 |tup xs=>obtain⟨_,_,_,ob,e,_⟩:=x;exact⟨_,e⟩
 |dK jH=>obtain⟨_,_,_,_,o,_,_,e,_⟩:=x;exact⟨_,e⟩
 |dT jH=>obtain⟨_,_,_,_,o,_,_,e,_⟩:=x;exact⟨_,e⟩
 |set S n=>obtain⟨o,_,_,_,e,_⟩:=x;exact⟨_,e⟩
 |ins C dx fs=>obtain⟨_,_,_,e,_⟩:=x;exact⟨_,e⟩
 |own y=>exact x
 |xd fs=>obtain⟨_,⟨_,_,_,e,_⟩,_⟩:=x;exact⟨_,e⟩
 |LQ lo hi=>obtain⟨_,_,_,e⟩:=x;exact⟨_,e⟩
 |o3 ob u=>obtain⟨e,_⟩:=x;exact⟨_,e⟩
 |mV ps=>exact⟨_,(show h.get? a=some _ from x)⟩
 |met f y=>exact⟨_,(show h.get? a=some _ from x)⟩
 |ext φ=>exact x.2.1
theorem jk.nB(x:jk P w H h)(e:h.get? a=none):H a=none:=by
 cases q:H a with
 |none=>rfl
 |some u=>obtain⟨o,z⟩:=(x a u q).get;rw[e] at z;cases z
theorem aA.Eu(I:aA X ae σ H s)(k:∀b u,s.heap.get? b=some u->h'.get? b=some u)(hp:s.heap.get? a=none)(new:b8 X.prog X.w (upd H a o) h' a o):
  aA X ae σ (upd H a o) { s with heap:=h',toks:=t' }:=by
 have hn:=I.be.nB hp;have ne:∀b u,s.heap.get? b=some u->b≠a:=fun b u e z=>by rw[z,hp] at e;cases e
 refine I.un ⟨fun b u e _ _ _=>k b u e,fun b u e _ _ _=>⟨u.slots,k b u e⟩,fun b u e n _=>by rw[ap (ne b u e)];exact n,fun b u e _=>⟨u,k b u e⟩,fun b xs e=>by rw[ap (aq e hn)];exact e,fun b u v e=>by rw[ap (aq e hn)];exact e,fun b ps e=>⟨#[],by rw[ap (aq e hn),e];simp⟩⟩ fun b u e=>?_;by_cases hb:b=a
 .subst hb;rw[ag] at e;cases e;exact new
 .rw[ap hb] at e;exact(I.be b u e).kD (fun c v _ q=>k c v q) (fun c q=>by rw[ap (aq q hn)];exact q) fun c xs q=>by rw[ap (aq q hn)];exact q
section
variable {prog:Program} {w:World} {A:Around} {E:Value->Shared->Prop} {s:Shared} {K:PySem.W.Frag} {x C:Addr} {ox:Obj}
theorem wj(hx:h.get? x=some ox)(hc:ox.cls=.ref C):PySem.W.Looks M h (typeOf (.ref x)) (.ref C):=hc ▸ (PySem.W.Looks.ld hx).andThen .now
open Builtin Builtin.ObjectAttr Builtin.Getset_descriptor in
theorem vc(X:K.In s.heap)(hx:s.heap.get? x=some ox)(hc:ox.cls=.ref C)(hm:PySem.W.mroIn K C (.type "object")=some true)(h:R (.ok (.ret (.ref C))) s):codeAny (model prog w) A (.call (.builtin "getset_descriptor.__get__") ⟨[.builtin "object.__class__",.ref x,tp],[]⟩) R s:=by
 obtain⟨hh,g,dr,t,os⟩:=s;have L0:=wj (M:=model prog w) hx hc;have L1:=looks_mroIn (M:=model prog w) X hm;refine uf KF.slot_gs.plain KF.entry_gs (KF.slot_gs.check _ _ _ _ _ _ _ _ KF.type_class (KF.args_gs _ _ _) ?_);unfold Builtin.«getset_descriptor.__get__» descrGet;rw[dga_obj];refine ao (wpAny_pure ?_);unfold descrGetter descrCheckInstance descrNameAndClass isInstance;simp only[KF.owner_class];repeat lk
 refine⟨Code.quiet_builtin _ (by decide +kernel),mQ KF.entry_class ?_⟩;unfold Builtin.«object.__class__» shownTypeOf;repeat lk
 exact h
theorem rQ{M:Model}{D:Addr}{b:Bool}{Q:Bool->Shared->Prop}{h:Heap}{g d t os}(X:K.In h)(TD:iS K D)(hx:h.get? x=some ox)(hc:ox.cls=.ref C)(sub:PySem.W.subIn K (.ref C) (.ref D)=some b)(hq:Q b ⟨h,g,d,t,os⟩):
  wpAny M A (excMatches (.ref x) (.ref D)) Q E ⟨h,g,d,t,os⟩:=by
 obtain⟨bm,N,nm,qn,bs,hdct,sn,Sw,ab,col,dd,k0,k1,k2,k3,k5,mN,hC,hN,Jo,TL⟩:=rP X TD.ex;have Sx:(Value.ref D::bm).contains (.type "BaseException")=true:=by rw[List.contains_cons,TL.hasType tE.hasBase,Bool.or_true]
 have L1:=looks_subIn (M:=M) X sub;have f:=tc_notTuple;unfold excMatches;repeat (first|(with_reducible refine mK hx ?_;rw[hc])|with_reducible refine mK hC ?_|with_reducible refine L1.at ?_|(with_reducible refine wpAny_isSubtype_exc hC ?_;rw[Sx])|wp_step)
 cases b
 .repeat (first|exact hq|wp_step)
 .repeat (first|exact hq|wp_step)
theorem xv{g d t os}(T:iS K C)(X:K.In h)(hx:h.get? x=some ox)(hc:ox.cls=.ref C)(hq:Q (.done (.ret (.ref C))) ⟨h,g,d,t,os⟩):
  wpAny (model prog w) A (Builtin.«object.__getattribute__» ⟨[.ref x,.str "__class__" tk],[]⟩) Q E ⟨h,g,d,t,os⟩:=by
 have f5:=F.typeOf_bexc_args;have VA:(⟨h,g,d,t,os⟩:Shared).TypeIs (.builtin "object.__class__") "getset_descriptor":=yG;have VB:=yG;have f6:=F.slot_gs_get.lookup;have f7:=F.slot_gs_set.lookup;have L1:=looks_findIn (M:=model prog w) X T.cl;repeat (any_goals (first|assumption|(with_reducible refine mK hx ?_;rw[hc])|with_reducible refine L1.at ?_|wp_step))
 refine vc (s:=⟨h,g,d,t,os⟩) X hx hc T.mo ?_;repeat (any_goals (first|assumption|wp_step))
theorem xw{g d t os}(T:iS K C)(X:K.In h)(hx:h.get? x=some ox)(hc:ox.cls=.ref C)(hq:Q () ⟨h,g,d,t,os⟩):
  wpAny M A (checkBuiltinCall "BaseException.__getattribute__" ⟨[.ref x,Jp],[]⟩) Q E ⟨h,g,d,t,os⟩:=by
 have hk:builtinKind "BaseException.__getattribute__"=some .slot:=by decide +kernel
 have FM:splitId "BaseException.__getattribute__"=some ("BaseException","__getattribute__"):=by decide +kernel
 have ha:=F.args_bexc_ga (.ref x) Jp;have L1:=looks_mroIn (M:=M) X T.mb;simp only[checkBuiltinCall,hk,FM];refine ao ?_
 .unfold isInstance;repeat (first|(with_reducible refine mK hx ?_;rw[hc])|with_reducible refine L1.at ?_|wp_step)
  exact hq
theorem FN{tk:Tok}{fill B3:Bool}{Q:Value->Shared->Prop}{h:Heap}{g d t os}(T:iS K C)(X:K.In h)(hx:h.get? x=some ox)(hc:ox.cls=.ref C)(hq:Q (.ref C) ⟨h,g,d,t,os⟩):
  wpAny (model prog w) A (getAttrBy (.ref x) (.str "__class__" tk) fill B3) Q E ⟨h,g,d,t,os⟩:=by
 have f3:=F.attr_ValueError.ga.bind (.ref x);have VC:(B3&&onTheHeap (Value.builtin "BaseException.__getattribute__"))=false:=by cases B3 <;> rfl
 have Sy:(Value.builtin "BaseException.__getattribute__"==Value.builtin "object.__getattribute__")=false:=by decide +kernel
 have VD:(onTheHeap (Value.ref C)&&Value.builtin "BaseException.__getattribute__"==Value.builtin "object.__getattribute__")=false:=by rw[Sy];rfl
 have L1:=looks_findIn (M:=model prog w) X T.ga;have L2:=looks_findIn (M:=model prog w) X T.gt;repeat (any_goals (first|assumption|(with_reducible refine mK hx ?_;rw[hc])|with_reducible refine L1.at ?_|with_reducible refine L2.at ?_|wp_step))
 refine uf F.attr_ValueError.ga.plain F.entry_bexc_ga (xw T X hx hc (xv T X hx hc ?_));repeat (any_goals (first|assumption|wp_step))
theorem zN{Q:Option Value->Shared->Prop}{h:Heap}{g d t os}(T:iS K C)(X:K.In h)(hx:h.get? x=some ox)(hc:ox.cls=.ref C)(hq:Q (some (.ref C)) ⟨h,g,d,t+1,os⟩):
  wpAny (model prog w) A (getAttr? (.ref x) "__class__") Q E ⟨h,g,d,t,os⟩:=by
 unfold getAttr?;repeat (any_goals (first|assumption|with_reducible apply FN T X hx hc|wp_step))
theorem rR(T:iS K C):PySem.W.KitX K (.ref x) (.ref C) (BE x (.ref C)) where
 ty:=fun _ _ _ ⟨o,e,c,_⟩=>wj e c
 it:=fun _ _ X _=>by
  obtain⟨Sz,B5⟩:=tK.mp T.ty;unfold clsIn at B5;split at B5
  .rename_i c' d' SA MN ho;intro A' Q' E' s' k q;unfold isType loadHead;exact ao (wpAny_loadPart (k _ _ (X _ _ ho)) (wpAny_pure q))
  .cases B5
 ne:=fun h tp dd its n sl X Nr=>by
  obtain⟨Sz,B5⟩:=tK.mp T.ty;refine um.mpr fun q=>?_;have e:C=tp:=Value.ref.inj (eH.mp q);subst e;unfold clsIn at B5;split at B5
  .rename_i c' d' SA MN ho;have z:=(X _ _ ho).symm.trans Nr;cases z
  .cases B5
 ca:=fun {_ _ _ _ _ s} X ⟨o,e,c,_⟩ k=>by
  obtain⟨h,g,d,t,os⟩:=s;exact zN T X e c k
end
section
variable {X:Cx}
inductive FO (K:PySem.W.Frag) (H:Hp):V->Value->Prop where
 |of {v:V} {t:Value} (h:kS K H v t):FO K H v t
 |exc {p C:Addr} (T:iS K C) (e:H p=some (qE p (.ref C))):FO K H (.ref p) (.ref C)
def Jq(K:PySem.W.Frag):List V->Hp->VK->Prop:=fun xs H Q=>∃x c cv t b,xs=[x,c]/\(c=.ty cv/\PySem.W.kitOne K t (.type cv)=some b)/\FO K H x t/\Q (.bl b) H
theorem eK:eT X (.builtin "isinstance") (Jq X.K):=by
 intro ae s σ H xs us Q I r h;obtain⟨x,c,cv,t,b,rfl,⟨rfl,e⟩,ty,q⟩:=h;obtain⟨u1,u2,rfl,r1,r2⟩:=r.two;obtain rfl:u2=Value.type cv:=r2;cases ty with
 |of ty=>exact pb I r1 ty e fun tk=>⟨.bl b,H,I.tok tk,rfl,q⟩
 |@exc p C T ea=>
  obtain rfl:u1=Value.ref p:=r1;have p1:BE p (.ref C) s.heap:=(I.be p _ ea).1;exact fm (rR T) I.jl p1 e (fun z=>nomatch z) fun tk=>⟨.bl b,H,I.tok tk,rfl,q⟩
def Jr(K:PySem.W.Frag):List V->Hp->VK->Prop:=fun xs H Q=>∃x c t b,xs=[x,.ref c]/\PySem.W.kitOne K t (.ref c)=some b/\FO K H x t/\Q (.bl b) H
theorem bL:eT X (.builtin "isinstance") (Jr X.K):=by
 intro ae s σ H xs us Q I r h;obtain⟨x,c,t,b,rfl,e,ty,q⟩:=h;obtain⟨u1,u2,rfl,r1,r2⟩:=r.two;obtain rfl:u2=Value.ref c:=r2;cases ty with
 |of ty=>exact pb I r1 ty e fun tk=>⟨.bl b,H,I.tok tk,rfl,q⟩
 |@exc p C T ea=>
  obtain rfl:u1=Value.ref p:=r1;have p1:BE p (.ref C) s.heap:=(I.be p _ ea).1;exact fm (rR T) I.jl p1 e (fun z=>nomatch z) fun tk=>⟨.bl b,H,I.tok tk,rfl,q⟩
end
section
variable {X:Cx} {x:Str} {C:Addr} {np lG pos:Pos} {e:Expr} {es:List Expr} {t:TA}
def FP(q:Hp->Prop)(t:TA):TS:=fun _ σ H=>t σ H fun vs H1=>vs.length<=sizeLine/\q H1
theorem ie{q:Hp->Prop}(hc:X.calm=true)(T:iS X.K C)(hg:Gl X x)(hm:X.mg x=some (.ref C))(ha:PA X (e::es) t)(SB:∀ (ae:List (Addr×Obj)) (σ:St) (H1:Hp) (s1:Shared) (h':Heap) (p:Addr) (vs:List Value),aA X ae σ H1 s1->Heap.MadeExcOf s1.heap h' p (.ref C) vs->q H1->X.xe (.ref p) { s1 with heap:=h' })(oC:(x==("__debug__":Str))=false:=by decide)(he:starEach (e::es) X.env=(false,eval e X.env)::starEach es X.env:=by rfl)(lT:(backTo lG (starEach (e::es) X.env)).any (·.1)=false:=by rfl):
  PS X (.Raise (some (.Call (.Name x np) (e::es) [] lG)) none pos) (FP q t):=by
 intro ae s σ H D I h;obtain⟨bm,N,nm,qn,bs,hdct,sn,sub,ab,col,dd,k0,k1,k2,k3,k5,mN,hC,hN,Jo,TL⟩:=rP I.ok.mod.Bv T.ex;refine wpAny_Raise_call_subT (C:=C) (nm:=nm) (q:=qn) (N:=N) (bs:=bs) (bm:=bm) (hdct:=hdct) (sn:=sn) (sub:=sub) (ab:=ab) (col:=col) (dd:=dd) (k0:=k0) (k1:=k1) (k2:=k2) (k3:=k3) (k5:=k5)
  tE (mN:=mN) (TL.hasType tE.hasBase) (I.ok.hd hc) lT Jo (jI I hg hm ⟨rfl,?_⟩ oC)
 have h1:=ha lG ae s σ H _ I h;rw[he] at h1 |-;exact Calls.evalArgs_plain (eX h1 (fun us s2 ⟨vs,H2,I2,r,hl,z⟩=>⟨rfl,(by show us.length<=sizeLine;rw[<-r.length];exact hl),I2.bk _ _ hC,hN.keeps I2.bk,TL.keeps I2.bk,fun h' p m=>SB ae σ H2 s2 h' p us I2 m z⟩) fun _ _ y=>y)
end
def lY(CX:lX)(X:Cx)(E:St->XK):Prop:=∀ (ae:List (Addr×Obj)) (σ:St) (H:Hp) (s:Shared) (e:Value) (s':Shared),aA X ae σ H s->CX X.stack H s (E σ) e s'->X.xe e s'
def qF(C:Addr)(m:Str)(sp:Sp)(f9:List V)(E:St->XK)(ta:TE)(t:TA):TE:=fun σ H Q=>ta σ H fun x H1=>∃a dx fs,x=.ref a/\H1 a=some (.ins C dx fs)/\fs.lookup m=none/\
 t σ H1 fun vs H2=>sp (x::(vs++f9)) H2 Q (E σ)
section
variable {X:Cx} {CX:lX} {k:Nat} {f C:Addr} {fd:FuncData} {ps:List Str} {sp:Sp} {f9:List V} {ds:List Value} {E:St->XK} {x m:Str} {p pos iR:Pos} {e o:Expr} {es:List Expr} {ta:TE} {t:TA}
theorem Cq{ae:List (Addr×Obj)}{σ:St}{H:Hp}{s:Shared}{Q:VK}{us:List Value}{vs:List V}(F:aU X.prog X.w X.K X.mg X.base CX k f fd ps sp)(hr:bh k X.A)(hb:dN X.K fd ps ds)(hd:aL f9 ds)(hx:lY CX X E)(I:aA X ae σ H s)(r:aL vs us)(h:sp (vs++f9) H Q (E σ)):wpAny (model X.prog X.w) X.A (call (.ref f) us) (EP X ae σ Q) X.xe s:=by
 have r2:aL (vs++f9) (us++ds):=r.append hd;have hl:(us++ds).length=ps.length:=by rw[<-r2.length];exact F.len _ _ _ _ h
 refine kB (gT (F.run X.A X.stack s H ⟨us,[]⟩ (us++ds) (vs++f9) Q (E σ) hr I.B7 (hb s us I.jl hl) r2 h) fun r s' hq=>?_);cases r with
 |error e=>exact hx ae σ H s e s' I hq
 |ok fl=>
  cases fl with
  |ret u=>exact I.after hq
  |next=>exact False.elim hq
  |brk=>exact False.elim hq
  |cont=>exact False.elim hq
end
structure i3(k:Nat)(A:Around):Prop where
 dp:A.depth+3*k+5<recursionLimit
 un:A.units+16*k+200<cLine
theorem i3.deeper{k:Nat}{A:Around}(r:i3 (k+1) A)(env:Env):i3 k (A.deeper env):=
 ⟨by have:=r.dp;show A.depth+1+3*k+5<_;lia,by have:=r.un;show A.units+3+16*k+200<_;lia⟩
theorem i3.depth{k:Nat}{A:Around}(r:i3 k A):A.depth<recursionLimit:=by have:=r.dp;lia
def pq(CX:lX)(P:Program)(w:World)(K:PySem.W.Frag)(mg:Str->Option Value)(base:Heap)(N:List Str)(qual:Str)(scope:Scope)(f:Addr)(cd:Value)(A:Around)(outer:List Env)(s:Shared)(H:Hp)(E:XK):Cx:=
 { fu CX P w K mg base N qual scope f cd A outer s H E with calm:=false }
theorem vd{CX:lX}{P:Program}{w:World}{K:PySem.W.Frag}{mg:Str->Option Value}{base:Heap}{N ps:List Str}{qual:Str}{scope:Scope}{f:Addr}{cd:Value}{A:Around}{outer:List Env}{s s1:Shared}{H:Hp}{E:XK}{us:List Value}{vs:List V}(S:aw N ps scope)(e0:qy P w K mg base A outer s H)(hl:vs.length=ps.length)(r:aL vs us)(x:InCallC s s.heap.objs.size (bindL (envOfC qual scope s.heap.objs.size f cd).kindOf (ps.zip us) fun _=>none) (cellsFrom (s.heap.objs.size+1) scope.names []) (bindC (envOfC qual scope s.heap.objs.size f cd).kindOf (ps.zip us) fun _=>none) s1):
  aA (pq CX P w K mg base N qual scope f cd A outer s H E) [] (start N vs) H s1:=by
 have lT:ps.length<=N.length:=by have:=congrArg List.length S.pre;rw[iY] at this;lia
 obtain⟨h1,tk,rfl,hk⟩:=x.done;have BB:∀b:Addr,b∉(pq CX P w K mg base N qual scope f cd A outer s H E).ex:=fun b z=>absurd (show b∈([]:List Addr) from z) (by simp);refine⟨⟨e0.mod,S.kind,rfl,rfl,aK _,fun y z c h1 h2=>?_,fun y hy=>?_,fun y c _ h=>?_,fun z=>absurd (show false=true from z) (by decide),Around.frames_deeper e0.frames,.inr ⟨rfl,rfl⟩,fun b z=>absurd z (BB b),e0.bs,e0.xg,fun b _ _=>BB b,fun b z=>absurd z (BB b),e0.g7,e0.yw⟩,
  rfl,e0.bare,Un.kept hk,⟨_,x.toInCall.ns,fun i y v h1 h2 h3=>?_⟩,fun y c h=>⟨_,x.cell y c h⟩,e0.be.fresh (aK _),fun y c h=>?_,fun p hp=>absurd (show p∈([]:List (Addr×Obj)) from hp) (by simp),e0.be.kept hk,?_⟩
 .exact name_of_addr x.apart (fh h1) (fh h2)
 .have hy:scope.names.lookup y=some .cell\/scope.names.lookup y=some .free:=hy;rcases hy with hy|hy
  .exact jM hy
  .exact absurd rfl (S.zy _ (fh hy))
 .exact fR (x.above y c (fh h))
 .have hi:i<vs.length:=by
   unfold start at h2;by_cases hi:i<vs.length
   .exact hi
   .rw[pY (by simpa using hi)] at h2;rw[tP] at h2;split at h2 <;> cases h2
  have ha:vs[i]?=some v:=by
   unfold start at h2;rw[oQ (by simpa using hi),bQ] at h2;cases e:vs[i]? with
   |none=>rw[e] at h2;cases h2
   |some a=>rw[e] at h2;cases h2;rfl
  obtain⟨u,hu,rv⟩:=r.get ha;have hp:ps[i]?=some y:=by
   rw[<-S.pre,yO (by lia)];exact h1
  have IW:ps.Nodup:=by rw[<-S.pre];exact S.nd.sublist (List.take_sublist _ _)
  refine⟨u,rv,?_⟩;rcases S.par y (cD hp) with k|k
  .exact .inl ⟨k,kU IW hp hu k⟩
  .obtain⟨c,e⟩:=jM (n:=s.heap.objs.size+1) k;refine .inr ⟨.inl k,c,e,?_⟩;have q:=x.cell y c e;rw[kW IW hp hu (by show scope.names.lookup y≠_;rw[k];decide)] at q;exact q
 .exact e0.be.fresh (fR (x.above y c (fh h)))
 .unfold start;show _=N.length;rw[gK,bJ,mq];lia
section
variable {X:Cx} {CX:lX} {k:Nat} {f:Addr} {fd:FuncData} {ps:List Str} {sp:Sp} {f9:List V} {ds:List Value} {E:XK} {x:Str} {p pos:Pos} {e:Expr} {es:List Expr} {t:TA}
end
section
variable {P:Program} {w:World} {K:PySem.W.Frag} {mg:Str->Option Value} {base:Heap}
theorem dE.Ev{x qual:Str}{st:Stmt}{f:Addr}{fd:FuncData}{N ps:List Str}{k:Nat}{sp:Sp}(F:dE K x qual st f fd)(S:aw N ps (aj st))(len:∀vs H Q E,sp vs H Q E->vs.length=ps.length)(hX:∀ (bX:Value) (A:Around) (outer:List Env) (s:Shared) (H:Hp) (vs:List V) (Q:VK) (E:XK),bh k (A.deeper (envOfC qual (aj st) s.heap.objs.size f bX))->sp vs H Q E->
   ∃t,om (fu (d6 P w) P w K mg base N qual (aj st) f bX A outer s H E) (aY st) t/\t { nx:=fun _ H'=>Q .bt H',rt:=Q } (start N vs) H):aU P w K mg base (d6 P w) (k+1) f fd ps sp:=by
 obtain⟨oc,od,kV,iE,pm,an,bX,ct,pf,rfl,lk,lx⟩:=F.ex;exact zz lk lx S len fun A outer s H vs Q E hr rJ=>hX bX A outer s H vs Q E hr rJ
end
abbrev Cx.d7(X:Cx)(pn:List (Addr×Obj))(xe:Value->Shared->Prop):Cx:={ X with pn:=pn,xe:=xe }
abbrev Cx.cY(X:Cx)(pn:List (Addr×Obj))(p:Addr):Cx:={ X with pn:=pn,xe:=fun _ _=>False,calm:=false,A:=X.A.mark (some (.ref p)) }
theorem Cx.Ok.d7{X:Cx}(ok:X.Ok)(pn:List (Addr×Obj))(xe:Value->Shared->Prop):(X.d7 pn xe).Ok:=
 ⟨ok.mod,ok.kind,ok.glob,ok.blt,ok.above,ok.inj,ok.has,ok.Fe,ok.hd,ok.frames,ok.yv,ok.Iv,ok.bs,ok.xg,ok.kF,ok.xh,ok.g7,ok.yw⟩
theorem Cx.Ok.cY{X:Cx}(ok:X.Ok)(pn:List (Addr×Obj))(p:Addr):(X.cY pn p).Ok:=
 ⟨ok.mod,ok.kind,ok.glob,ok.blt,ok.above,ok.inj,ok.has,ok.Fe,fun z=>absurd (show false=true from z) (by decide),ok.frames,ok.yv,ok.Iv,ok.bs,ok.xg,ok.kF,ok.xh,ok.g7,ok.yw⟩
section
variable {X:Cx} {ae:List (Addr×Obj)} {σ:St} {H:Hp} {s:Shared}
theorem aA.d7(I:aA X ae σ H s)(xe:Value->Shared->Prop):aA (X.d7 (X.pn++ae) xe) [] σ H s:=
 ⟨I.ok.d7 _ _,I.os,I.bare,I.base,I.loc,I.cell,I.free,I.eJ,fun p hp=>I.pin p (by simpa using hp),I.be,I.len⟩
theorem aA.jS{mZ:List (Addr×Obj)}{xe:Value->Shared->Prop}(ok:X.Ok)(I:aA (X.d7 (X.pn++ae) xe) mZ σ H s):aA X ae σ H s:=
 ⟨ok,I.os,I.bare,I.base,I.loc,I.cell,I.free,I.eJ,fun p hp=>I.pin p (iX _ hp),I.be,I.len⟩
theorem aA.ve{mZ:List (Addr×Obj)}{p:Addr}(ok:X.Ok)(I:aA (X.cY (X.pn++ae) p) mZ σ H s):aA X ae σ H s:=
 ⟨ok,I.os,I.bare,I.base,I.loc,I.cell,I.free,I.eJ,fun p hp=>I.pin p (iX _ hp),I.be,I.len⟩
theorem qG{xe:Value->Shared->Prop}{mZ:List (Addr×Obj)}{B h6:Heap}{p:Addr}{C a0:Value}{H':Hp}{s':Shared}(ok:X.Ok)(I:aA (X.d7 (X.pn++ae) xe) mZ σ H s)(F:zM X.prog X.w X.stack H s B p C a0 H' s')(fl:rD B X.stack p C h6)(sm:s'.heap.UpToSlots h6):
  H' p=none/\aA (X.cY (X.pn++ae) p) [] σ (upd H' p (qE p C)) { s' with heap:=h6 }:=by
 have hp:H' p=none:=F.be.nB fl.new;have Nq:∀b∈i0 X.stack,b≠p:=fun b hb z=>by
  obtain⟨_,o,ho,nd⟩:=fl.frames.mem hb;obtain⟨oe,vs,he,_,hd,_⟩:=fl.there;rw[z] at ho;have e:o=oe:=bA (ho.symm.trans he);rw[e] at nd;exact nd vs hd
 have ne:∀b o,s.heap.get? b=some o->H b=none->b≠p:=fun b o e n z=>by
  by_cases hb:b∈i0 X.stack
  .exact Nq b hb z
  .have q:=(F.keep b o e n hb).1;rw[z,fl.new] at q;cases q
 have neT:∀ {b:Addr} {u:HO},H' b=some u->b≠p:=fun {b u} e z=>by rw[z,hp] at e;cases e
 have U:Un (i0 X.stack) [] H (upd H' p (qE p C)) s.heap h6:={
  keep:=fun b o e n hb _=>fl.stays _ _ (F.keep b o e n hb).1
  slot:=fun b o e n hb _=>by
   obtain⟨⟨sl,q⟩,_⟩:=F.frame b o e n hb;obtain⟨_,o',o4,nd⟩:=F.fl.frames.mem hb;have e':o'={ o with slots:=sl }:=bA (o4.symm.trans q);obtain⟨L5,q2⟩:=sm b o' o4 nd;rw[e'] at q2;exact⟨L5,q2⟩
  free:=fun b o e n _=>by
   rw[ap (ne b o e n)];by_cases hb:b∈i0 X.stack
   .exact(F.frame b o e n hb).2
   .exact(F.keep b o e n hb).2
  there:=fun b o e _=>by
   cases n:H b with
   |none=>
    by_cases hb:b∈i0 X.stack
    .obtain⟨_,o',o4,nd⟩:=fl.frames.mem hb;exact⟨o',o4⟩
    .exact⟨o,fl.stays _ _ (F.keep b o e n hb).1⟩
   |some u=>
    obtain⟨o',q⟩:=F.there b o e (by rw[n];intro z;cases z);exact⟨o',fl.stays _ _ q⟩
  fU:=fun b xs e=>by rw[ap (neT (F.fU b xs e))];exact F.fU b xs e
  gY:=fun b o u e=>by rw[ap (neT (F.gY b o u e))];exact F.gY b o u e
  iP:=fun b ps e=>by
   obtain⟨m,q⟩:=F.iP b ps e;exact⟨m,by rw[ap (neT q)];exact q⟩ }
 have be:jk X.prog X.w (upd H' p (qE p C)) h6:=fun b u e=>by
  by_cases hb:b=p
  .subst hb;rw[ag] at e;cases e;obtain⟨o,vs,q,c,d1,d2⟩:=fl.there;exact BE.ok ⟨o,q,c,vs,d1,d2⟩
  .rw[ap hb] at e;exact(F.be b u e).kD (fun c v _ q=>fl.stays c v q) (fun c q=>by rw[ap (neT q)];exact q) fun c xs q=>by rw[ap (neT q)];exact q
 have J:=I.Ek (s':={ s' with heap:=h6 }) (ch:=[]) F.os U be F.bare fun b z=>absurd z (by simp);exact⟨hp,⟨ok.cY _ _,J.os,J.bare,J.base,J.loc,J.cell,J.free,J.eJ,fun q hq=>J.pin q (iX _ (by simpa using hq)),J.be,J.len⟩⟩
end
def Js(K:PySem.W.Frag)(Dc:Addr)(i:Nat)(E:St->XK)(tb:TS)(th:Addr->TS):TS:=fun D σ H=>tb D σ H/\∀σ' C H',E σ' C none H'->PySem.W.subIn K C (.ref Dc)=some true/\(∃Cc,C=.ref Cc)/\
 ∀p,H' p=none->th p { nx:=fun σ2 H2=>D.nx (σ2.set i none) H2,rt:=D.rt,bk:=fun σ2 H2=>D.bk (σ2.set i none) H2,ct:=fun σ2 H2=>D.ct (σ2.set i none) H2 } (σ'.set i (some (.ref p))) (upd H' p (qE p C))
theorem FQ{X:Cx}{body rS:List Stmt}{b₀:Stmt}{x n:Str}{np rT pos:Pos}{Dc:Addr}{i:Nat}{E:St->XK}{tb:TS}{th:Addr->TS}(TD:iS X.K Dc)(hg:Gl X x)(hm:X.mg x=some (.ref Dc))(iB:X.stack=X.env::X.outer)(yQ:X.env.frame=some X.env.locals)(hN:X.N.Nodup)(hi:X.N[i]?=some n)(hn:X.env.scope.names.lookup n=some .local)(hb:∀pn xe,lY (d6 X.prog X.w) (X.d7 pn xe) E->om (X.d7 pn xe) body tb)(hh:∀pn p,om (X.cY pn p) (b₀::rS) (th p))(oC:(x==("__debug__":Str))=false:=by decide):
  PS X (.Try body [.ExceptHandler (some (.Name x np)) (some n) (b₀::rS) rT] [] [] pos) (Js X.K Dc i E tb th):=by
 intro ae s σ H D I h;obtain⟨h1,h2⟩:=h;refine wpAny_Try_except ?_;have Ff:(X.env.scope.kind==.class||(X.env.scope.kind==.module&&X.env.locals != X.env.globals))=false:=by rw[I.ok.kind];rfl
 refine eX (hb (X.pn++ae) _ ?_ [] s σ H D (I.d7 _) h1) (fun f s1 q=>?_) fun e s1 q=>q
 .-- an exception has SC
  intro QJ σ1 H1 s1 e s' I1 SD;obtain⟨p,C,a0,B,H',rfl,F,q⟩:=SD;obtain⟨Jt,⟨Cc,SE⟩,SF⟩:=h2 σ1 C H' q;subst SE;have F':zM X.prog X.w X.stack H1 s1 B p (.ref Cc) a0 H' s':=F;have QK:=F'.fl;rw[iB] at QK;refine vX (by rw[I.ok.frames,iB]) yQ QK fun h4 Ju xx=>?_;refine eR Ju fun h5 Nt SG=>?_;have Ew:∀b o,X.base.get? b=some o->h5.get? b=some o:=fun b o e=>by
   obtain⟨e1,n1⟩:=I1.bs b o e;refine Nt.stays _ _ (F'.keep b o e1 n1 fun z=>?_).1;have:=(I1.stack.mem z).1;rw[e] at this;cases this
  have Nu:X.K.In h5:=I.ok.mod.Bv.keeps Ew;obtain⟨oe,_,Jv,HK,_⟩:=Nt.there;refine wpAny_handleBy_cons (codeAny_handlers_test (tQ I.ok.kind hg (Calls.loadGlobal_global (by rw[I.ok.glob];exact I.ok.mod.glob.keeps Ew) hm ?_) oC)) (by intro z;cases z);refine rQ (K:=X.K) Nu TD Jv HK Jt ?_;show codeAny _ _ _ _ _;refine codeAny_handlers_suite_as ?_;refine eR Nt fun h6 SH zO=>?_;have Nv:rD B X.stack p (.ref Cc) h6:=by rw[iB];exact SH
  obtain⟨hp,IH⟩:=qG I.ok I1 F' Nv ((xx.trans SG).trans zO);refine iA (X:=X.cY (X.pn++ae) p) IH hN hi (.inl hn) (v:=.ref p) rfl (fun s7 I7 _=>?_) (.inr hn);refine eX (hh _ p [] s7 _ _ _ I7 (SF p hp)) (fun f s8 q8=>?_) fun _ _ z=>z.elim;have Cr:∀ {σ2:St} {H2:Hp} {Q:Unit->Shared->Prop},aA (X.cY (X.pn++ae) p) [] σ2 H2 s8->(∀s9,aA X ae (σ2.set i none) H2 s9->Q () s9)->
    wpAny (model X.prog X.w) X.A (do bindName X.env n .none;unbindBehindTheSuite X.env n rT) Q X.xe s8:=fun {σ2 H2 Q} I8 k=>by
   have SJ:aA X ae σ2 H2 s8:=I8.ve I.ok;refine ao (wpAny_bindName (iA SJ hN hi (.inl hn) (v:=.bt) rfl (fun s9 I9 _=>?_) (.inr hn)));obtain⟨m,QL,QM⟩:=I9.loc;have hiσ:i<(σ2.set i (some V.bt)).length:=by rw[I9.len];exact(cC.mp hi).1
   have hiσ2:i<σ2.length:=by simpa using hiσ
   obtain⟨u,ru,lk⟩:=QM i n .bt hi (by rw[mn hiσ2]) (.inl hn);have SK:m n=some u:=by
    rcases lk with ⟨_,z⟩|⟨hk,_⟩
    .exact z
    .have L4:X.env.scope.names.lookup n=some .cell\/X.env.scope.names.lookup n=some .free:=hk;rw[hn] at L4;rcases L4 with z|z <;> cases z
   unfold unbindBehindTheSuite;refine qq (wpAny_unbindName_local hn QL SK Ff fun h' uu HJ sb=>k _ ?_);obtain⟨oL,_,_,BR,_⟩:=id QL;have be:jk X.prog X.w H2 h':=fun b ob e=>by
    refine(I9.be b ob e).kD (fun c w' hc q=>(sb.2 c ?_).trans q) (fun _ q=>q) fun _ _ q=>q;rintro rfl;rcases hc with rfl|hc
    .rw[I9.free] at e;cases e
    .rw[I9.free] at hc;cases hc
   have nL:∀b o,X.s₀.heap.get? b=some o->b≠X.env.locals:=fun b o e=>aT (bp (a9 e) I9.ok.above);refine⟨I9.ok,I9.os,I9.bare,⟨fun b o e n' hb hx=>(sb.2 b (nL b o e)).trans (I9.base.keep b o e n' hb hx),fun b o e n' hb hx=>?_,I9.base.free,fun b o e hx=>?_,I9.base.fU,I9.base.gY,I9.base.iP⟩,⟨_,HJ,fun j y v e1 e2 e3=>?_⟩,fun y c e=>?_,I9.free,I9.eJ,fun q hq=>?_,be,by simpa using I9.len⟩
   .obtain⟨sl,e1⟩:=I9.base.slot b o e n' hb hx;exact⟨sl,(sb.2 b (nL b o e)).trans e1⟩
   .obtain⟨o',e1⟩:=I9.base.there b o e hx;exact⟨o',(sb.2 b (nL b o e)).trans e1⟩
   .by_cases hj:j=i
    .subst hj;rw[mn hiσ2] at e2;cases e2
    .rw[oY (cy hj)] at e2;obtain⟨u',r',l'⟩:=QM j y v e1 (by rw[oY (cy hj)];exact e2) e3;refine⟨u',r',?_⟩;rcases l' with ⟨k1,z⟩|⟨k1,c,z1,z2⟩
     .have:y≠n:=fun e=>hj (m6 hN e1 (e ▸ hi));exact .inl ⟨k1,by simp[this,z]⟩
     .exact .inr ⟨k1,c,z1,z2.sameBut sb (I9.BQ y c z1)⟩
   .obtain⟨w',z⟩:=I9.cell y c e;exact⟨w',z.sameBut sb (I9.BQ y c e)⟩
   .obtain⟨e,n',ne,nf,d⟩:=I9.pin q hq;exact⟨(sb.2 q.1 ne).trans e,n',ne,nf,d⟩
  cases f with
  |next=>obtain⟨σ2,H2,I8,q8⟩:=q8;exact Cr I8 fun s9 I9=>⟨_,H2,I9,q8⟩
  |brk=>obtain⟨σ2,H2,I8,q8⟩:=q8;exact Cr I8 fun s9 I9=>⟨_,H2,I9,q8⟩
  |cont=>obtain⟨σ2,H2,I8,q8⟩:=q8;exact Cr I8 fun s9 I9=>⟨_,H2,I9,q8⟩
  |ret u=>obtain⟨v,σ2,H2,I8,r8,q8⟩:=q8;exact Cr I8 fun s9 I9=>⟨v,_,H2,I9,r8,q8⟩
 .cases f with
  |next=>obtain⟨σ2,H2,I8,q8⟩:=q;exact mL ⟨σ2,H2,I8.jS I.ok,q8⟩
  |brk=>obtain⟨σ2,H2,I8,q8⟩:=q;exact⟨σ2,H2,I8.jS I.ok,q8⟩
  |cont=>obtain⟨σ2,H2,I8,q8⟩:=q;exact⟨σ2,H2,I8.jS I.ok,q8⟩
  |ret u=>obtain⟨v,σ2,H2,I8,r8,q8⟩:=q;exact⟨v,σ2,H2,I8.jS I.ok,r8,q8⟩
def qH(A:Around)(H:Hp):Prop:=A.handled=none\/∃p C,A.handled=some (.ref p)/\H p=some (qE p C)
theorem qH.same{A:Around}{H H':Hp}(h:qH A H)(s:∀b o,H b=some o->H' b=some o):qH A H':=h.imp id fun ⟨p,C,a,b⟩=>⟨p,C,a,s _ _ b⟩
theorem qH.BY{A:Around}{H:Hp}{lo:Int}{n:Nat}(h:qH A H):(Bz lo n).BY A H:=h.imp id fun ⟨p,C,a,b⟩=>⟨p,_,a,b,fun _ x=>BE.nc x⟩
structure pz(P:Program)(w:World)(K:PySem.W.Frag)(mg:Str->Option Value)(base:Heap)(CX:lX)(k:Nat)(f:Addr)(fd:FuncData)(ps:List Str)(sp:Sp):Prop where
 len:∀vs H Q E,sp vs H Q E->vs.length=ps.length
 run:∀ (A:Around) (outer:List Env) (s:Shared) (H:Hp) (args:Args) (us:List Value) (vs:List V) (Q:VK) (E:XK),i3 k A->qH A H->qy P w K mg base A outer s H->BindsTo s fd args (ps.zip us)->aL vs us->sp vs H Q E->
  codeAny (model P w) A (.call (.ref f) args) (CR CX outer P w H s Q E) s
theorem FR{CX:lX}{P:Program}{w:World}{K:PySem.W.Frag}{mg:Str->Option Value}{base:Heap}{k:Nat}{f:Addr}{name qual:Str}{params:Arguments}{body:List Stmt}{scope:Scope}{dV kV iE pm bX ct oc:Value}{an od:Option Addr}{pf:Array (Option Value)}{N ps:List Str}{sp:Sp}(lk:K.lookup f=some ⟨oc,od,.func (PySem.W.fnOf name qual params body scope dV kV iE pm an bX ct),pf⟩)(lx:PySem.W.codeIn K bX qual=true)(S:aw N ps scope)(len:∀vs H Q E,sp vs H Q E->vs.length=ps.length)(hX:∀ (A:Around) (outer:List Env) (s:Shared) (H:Hp) (vs:List V) (Q:VK) (E:XK),i3 k (A.deeper (envOfC qual scope s.heap.objs.size f bX))->qH (A.deeper (envOfC qual scope s.heap.objs.size f bX)) H->sp vs H Q E->
   ∃t,om (pq CX P w K mg base N qual scope f bX A outer s H E) body t/\t { nx:=fun _ H'=>Q .bt H',rt:=Q } (start N vs) H):
  pz P w K mg base CX (k+1) f (PySem.W.fnOf name qual params body scope dV kV iE pm an bX ct) ps sp:=by
 refine⟨len,fun A outer s H args us vs Q E hr hd e0 hb r rJ=>?_⟩;have hl:=len _ _ _ _ rJ;have KX:K.In s.heap:=e0.mod.Bv.keeps fun b o e=>(e0.bs b o e).1;have Na:s.heap.NoLimit:=e0.mod.nolimit.keeps fun b o e=>(e0.bs b o e).1;have zA:∀y∈ps.zip us,scope.names.lookup y.1=some .local\/(scope.names.lookup y.1=some .cell/\((cellsFrom (s.heap.objs.size+1) scope.names []).lookup y.1).isSome=true):=fun ⟨n,v⟩ hy=>by
  rcases S.par n (kq hy).1 with q|q
  .exact .inl q
  .exact .inr ⟨q,tR _ _ _ (.inl q)⟩
 refine codeAny_call_function hr.depth (KX _ _ lk) rfl S.co S.gen rfl (PySem.W.codeRec_of KX lx) (hb _ _ _ _ ?_);refine wpAny_newFunctionEnv_cells S.kind zA fun env he s1 x=>?_;subst he;refine⟨Na.keeps x.toInCall.keep,codeAny_func ?_⟩;obtain⟨t,ht,hq⟩:=hX A outer s H vs Q E (hr.deeper _) hd rJ;have I:aA (pq CX P w K mg base N qual scope f bX A outer s H E) [] (start N vs) H s1:=vd S e0 hl r x;refine eX (ht [] s1 (start N vs) H _ I hq) (fun fl s' hs=>?_) fun e s' hs=>hs;have cN:∀ {σ':St} {H':Hp} {v:V} {u:Value},aA (pq CX P w K mg base N qual scope f bX A outer s H E) [] σ' H' s'->aX v u->Q v H'->CE outer P w H s Q u s':=
  fun {σ' H' v u} J rv q=>⟨v,H',J.os,J.bare,J.base,J.be,rv,q⟩
 cases fl with
 |ret u=>
  obtain⟨v,σ',H',J,rv,q⟩:=hs;exact cN J rv q
 |next=>
  obtain⟨σ',H',J,q⟩:=hs;exact cN (v:=V.bt) (u:=Value.none) J rfl q
 |brk=>
  obtain⟨_,_,_,q⟩:=hs;exact False.elim q
 |cont=>
  obtain⟨_,_,_,q⟩:=hs;exact False.elim q
def vf(A:Around)(sp:Sp)(f9:List V)(E:XK)(t:TA):TE:=fun σ H Q=>t σ H fun vs H1=>qH A H1/\sp (vs++f9) H1 Q E
section
variable {X:Cx} {CX:lX} {k:Nat} {f:Addr} {fd:FuncData} {ps:List Str} {sp:Sp} {f9:List V} {ds:List Value} {E:XK} {x:Str} {p pos:Pos} {e:Expr} {es:List Expr} {t:TA}
theorem zP(F:pz X.prog X.w X.K X.mg X.base CX k f fd ps sp)(hr:i3 k X.A)(hg:Gl X x)(hm:X.mg x=some (.ref f))(hk:PySem.W.keepIn X.K (.ref f)=true)(hb:dN X.K fd ps ds)(hd:aL f9 ds)(hx:dZ CX X E)(ha:PA X (e::es) t)(oC:(x==("__debug__":Str))=false:=by decide)(he:starEach (e::es) X.env=(false,eval e X.env)::starEach es X.env:=by rfl)(lT:(backTo pos (starEach es X.env)).any (·.1)=false:=by rfl):
  PE X (.Call (.Name x p) (e::es) [] pos) (vf X.A sp f9 E t):=by
 intro ae s σ H Q I h;refine kj (jI I hg hm ?_ oC);refine mC (h₀:=X.base) I.ok.mod.Bv hk (bC (ha pos ae s σ H _ I h) fun us s1 ⟨vs,H1,I1,r,QN,q⟩=>⟨I1.jl,?_⟩) he lT;have r2:aL (vs++f9) (us++ds):=r.append hd;have hl:(us++ds).length=ps.length:=by rw[<-r2.length];exact F.len _ _ _ _ q
 refine kB (gT (F.run X.A X.stack s1 H1 ⟨us,[]⟩ (us++ds) (vs++f9) Q E hr QN I1.B7 (hb s1 us I1.jl hl) r2 q) fun r s' hq=>?_);cases r with
 |error e=>exact hx ae σ H1 s1 e s' I1 hq
 |ok fl=>
  cases fl with
  |ret u=>exact I1.after hq
  |next=>exact False.elim hq
  |brk=>exact False.elim hq
  |cont=>exact False.elim hq
end
section
variable {P:Program} {w:World} {K:PySem.W.Frag} {mg:Str->Option Value} {base:Heap}
theorem dE.SL{x qual:Str}{st:Stmt}{f:Addr}{fd:FuncData}{N ps:List Str}{k:Nat}{sp:Sp}(F:dE K x qual st f fd)(S:aw N ps (aj st))(len:∀vs H Q E,sp vs H Q E->vs.length=ps.length)(hX:∀ (bX:Value) (A:Around) (outer:List Env) (s:Shared) (H:Hp) (vs:List V) (Q:VK) (E:XK),i3 k (A.deeper (envOfC qual (aj st) s.heap.objs.size f bX))->qH (A.deeper (envOfC qual (aj st) s.heap.objs.size f bX)) H->sp vs H Q E->
   ∃t,om (pq (d6 P w) P w K mg base N qual (aj st) f bX A outer s H E).By (aY st) t/\t { nx:=fun _ H'=>Q .bt H',rt:=Q } (start N vs) H):pz P w K mg base (d6 P w) (k+1) f fd ps sp:=by
 obtain⟨oc,od,kV,iE,pm,an,bX,ct,pf,rfl,lk,lx⟩:=F.ex;refine FR lk lx S len fun A outer s H vs Q E hr hd rJ=>?_;obtain⟨t,h,q⟩:=hX bX A outer s H vs Q E hr hd rJ;exact⟨t,h.By,q⟩
end
structure Ct(P:Program)(w:World)(K:PySem.W.Frag)(mg:Str->Option Value)(base:Heap)(k:Nat)(x:Str)(ps:List Str)(sp:Sp):Prop where
 ex:∃f fd,mg x=some (.ref f)/\PySem.W.keepIn K (.ref f)=true/\dN K fd ps []/\pz P w K mg base (d6 P w) k f fd ps sp
theorem Cu{X:Cx}{k:Nat}{x:Str}{ps:List Str}{sp:Sp}{E:XK}{e:Expr}{es:List Expr}{t:TA}{p pos:Pos}(C:Ct X.prog X.w X.K X.mg X.base k x ps sp)(hr:i3 k X.A)(hx:dZ (d6 X.prog X.w) X E)(ha:PA X (e::es) t)(hg:Gl X x:=by rfl)(oC:(x==("__debug__":Str))=false:=by decide)(he:starEach (e::es) X.env=(false,eval e X.env)::starEach es X.env:=by rfl)(lT:(backTo pos (starEach es X.env)).any (·.1)=false:=by rfl):
  PE X (.Call (.Name x p) (e::es) [] pos) (vf X.A sp [] E t):=by
 obtain⟨f,fd,a,b,c,d⟩:=C.ex;exact zP d hr hg a b c .nil hx ha oC he lT
theorem Cv{h:Heap}{a:Addr}{m m':Str->Option Value}(x:h.Ns a m)(y:h.Ns a m'):m=m':=by
 obtain⟨o,es,ep,e,d,_,q⟩:=x;obtain⟨o',sY,LW,e',d',_,q'⟩:=y;rw[e] at e';cases e';rw[d] at d';cases d';funext z;rw[<-q z,q' z]
theorem aA.Jw{X:Cx}{ae:List (Addr×Obj)}{σ:St}{H:Hp}{s:Shared}{h':Heap}{m:Str->Option Value}{D:Addr}{o:HO}{t':Nat}(I:aA X ae σ H s)(F:Fr X.base X.env.locals s.heap m)(F':Fr X.base X.env.locals h' m)(N':News X.base X.env.locals h' (fV X.base s.heap X.env.locals))(hD:s.heap.get? D=none)(new:b8 X.prog X.w (upd H D o) h' D o):aA X ae σ (upd H D o) { s with heap:=h',toks:=t' }:=by
 have hn:=I.be.nB hD;have ne:∀b u,s.heap.get? b=some u->b≠D:=fun b u e z=>by rw[z,hD] at e;cases e
 have keep:∀b u,b≠X.env.locals->s.heap.get? b=some u->h'.get? b=some u:=fun b u hb e=>by
  cases q:X.base.get? b with
  |some v=>
   have:=I.bk b v q;rw[e] at this;cases this;exact F'.keep b _ q
  |none=>exact(N' (b,u) (gZ hb q e)).1
 refine I.step (g':=s.gens) (d':=s.drawn) (ch:=[]) (fun _ z=>absurd z (by simp)) (fun b u hb _ _ e _=>keep b u hb e) (fun b u hb _ _ e _=>⟨u.slots,keep b u hb e⟩) (fun b u _ e n=>by rw[ap (ne b u e)];exact n) (fun b u _ e=>?_)
  (fun b xs e=>by rw[ap (aq e hn)];exact e) (fun b u v e=>by rw[ap (aq e hn)];exact e) (fun b ps e=>⟨#[],by rw[ap (aq e hn),e];simp⟩) (fun m1 hm=>by rw[Cv hm F.ns];exact F'.ns) (fun b u e=>?_) I.bare
 .by_cases hb:b=X.env.locals
  .obtain⟨o',_,_,q,_⟩:=F'.ns;exact⟨o',by rw[hb];exact q⟩
  .exact⟨u,keep b u hb e⟩
 .by_cases hb:b=D
  .subst hb;rw[ag] at e;cases e;exact new
  .rw[ap hb] at e;refine(I.be b u e).kD (fun c v hc q=>keep c v ?_ q) (fun c q=>by rw[ap (aq q hn)];exact q) fun c xs q=>by rw[ap (aq q hn)];exact q
   rintro rfl;rcases hc with z|hc
   .have f:=I.free;rw[z,e] at f;cases f
   .rw[I.free] at hc;cases hc
theorem oF(I:aA X ae σ H s)(N:News X.base X.env.locals h' ((D,o)::fV X.base s.heap X.env.locals))(eE:∀q∈fV X.base s.heap X.env.locals,q.1<D):s.heap.get? D=none:=by
 cases e:s.heap.get? D with
 |none=>rfl
 |some u=>
  obtain⟨_,n1,n2⟩:=N (D,o) b9;exact absurd (eE (D,u) (gZ n1 n2 e)) (ft _)
def zQ(K:PySem.W.Frag)(H:Hp)(a:Addr)(y:Int×Int):Prop:=cu K H a [.int y.1,.int y.2]
section
variable {X:Cx}
theorem vg(I:aA X ae σ H s)(h:zQ X.K H a y):∃o n t u,s.heap.get? a=some o/\o.cls=.type "tuple"/\o.data=.seq #[.int y.1 t,.int y.2 u] n:=by
 obtain⟨its,r,p,_⟩:=I.tuple h;obtain⟨u1,u2,rfl,r1,r2⟩:=r.two;obtain⟨t,rfl⟩:=r1;obtain⟨t',rfl⟩:=r2;obtain⟨o,e,c,n,d⟩:=p;exact⟨o,n,t,t',e,c,d⟩
end
def FS(hs:Array Int)(i:Nat):Int:=(hs[i]?).getD 0
def dF(hs:Array Int)(t:SetTable)(h:Int):Option (Array Int×SetTable):=
 if t.gaveWay then none else
 match t.probe (FS hs) h (t.probeStart h) with
 |some (.empty j none)=>
  let q:=t.put j
  let Ey:=SetTable.insertAt hs q.2 h
  if q.1.fits Ey.size&&decide (Ey.size<=4096) then
   if q.1.tooFull then
    (match q.1.relaid Ey (SetTable.grown (hs.size+1)) with
    |some (t2,gx)=>
     let uW:=gx.filterMap (Ey[·]?)
     if uW.size==Ey.size&&t2.fits uW.size&&decide (SetTable.sizeAbove (SetTable.grown (hs.size+1))<=4096) then some (uW,t2) else none
    |none=>none)
   else some (Ey,q.1)
  else none
 |_=>none
def qI(led:Bool):List Int->Option (Array Int×SetTable):=fun l=>l.foldlM (fun q h=>dF q.1 q.2 h) (#[],SetTable.fresh 0 0 led)
def ig(h:Heap)(S:Addr)(hs:Array Int)(t:SetTable):Prop:=∃o es ep,h.get? S=some o/\o.cls=.type "set"/\(o.dict=none/\o.slots=#[])/\o.data=.set es ep t/\es.map (·.1)=hs/\t.fits es.size=true
section
variable {prog:Program} {w:World} {A:Around} {E:Value->Shared->Prop} {s:Shared} {S:Addr}
theorem FT(es:Array (Int×Value)):(fun i=>(es[i]?.map (·.1)).getD 0)=FS (es.map (·.1)):=by
 funext i;unfold FS;rw[Array.getElem?_map]
theorem jT(es:Array (Int×Value))(p:Nat)(x:Int×Value):(SetTable.insertAt es p x).map (·.1)=SetTable.insertAt (es.map (·.1)) p x.1:=by
 unfold SetTable.insertAt;simp
theorem k_(es:Array (Int×Value))(gx:Array Nat):(gx.filterMap (es[·]?)).map (·.1)=gx.filterMap ((es.map (·.1))[·]?):=by
 apply Array.ext';rw[qd,p_,p_,List.map_filterMap];congr 1;funext i;rw[Array.getElem?_map]
theorem vh(hS:ig s.heap S hs t)(hg:t.gaveWay=false)(hp:t.probe (FS hs) h (t.probeStart h)=some (.empty j none))(q:Q (.free j false) s):
  wpAny (model prog w) A (setSearch S x h true) Q E s:=by
 obtain⟨o,es,ep,ho,hc,QO,hd,hm,hf⟩:=hS;unfold setSearch setSearchFrom;refine ao (qe ho hd hf ?_);dsimp only;rw[hg,al bE];have HS:t.probe (fun i=>(es[i]?.map (·.1)).getD 0) h (t.probeStart h)=some (.empty j none):=by rw[FT,hm];exact hp
 refine ao (wpAny_pure ?_);erw[HS];exact wpAny_pure q
theorem xy(ho:s.heap.get? a=some o)(hc:o.cls=.type "tuple")(hd:o.data=.seq #[.int x t,.int y u] n)(q:Q true s):
  wpAny (model prog w) A (hashByValue 8 (.ref a)) Q E s:=by
 have hT:s.TypeIs (.ref a) "tuple":=⟨_,ho,hc⟩
 unfold hashByValue;refine ao (wpAny_specialOf hT PySem.F.slot_tuple_hash.lookup ?_);refine ao (gR ho hd ?_);refine ao ?_;show wpAny _ _ (forIn #[Value.int x t,Value.int y u] _ _) _ _ s;rw[<-Array.forIn_toList];refine wpAny_forIn_list _ (fun oA r s'=>r.1=none/\s'=s/\∀v∈oA,∃z k,v=Value.int z k) _ ?_ ?_ _ _ ⟨rfl,rfl,fun v hv=>?_⟩
 .rintro v oA r s' ⟨hr,rfl,rL⟩;obtain⟨z,k,rfl⟩:=rL v b9;refine ao (wpAny_pure ?_);exact wpAny_pure ⟨rfl,rfl,fun u' zR=>rL u' (bD _ zR)⟩
 .rintro⟨r1,r2⟩ s' ⟨hr,rfl,_⟩;have wm:r1=none:=hr;subst wm;exact wpAny_pure q
 .rcases a_.mp hv with z|z
  .exact⟨_,_,z⟩
  .rcases a_.mp z with z|z
   .exact⟨_,_,z⟩
   .cases z
theorem wn(hS:ig s.heap S hs t)(hf:t'.fits sY.size=true)(hz:sY.size<=4096)(q:∀h',Heap.SameBut S s.heap h'->ig h' S (sY.map (·.1)) t'->Q () { s with heap:=h' }):wpAny (model prog w) A (storeSet S sY t') Q E s:=by
 obtain⟨o,es,ep,ho,hc,QO,hd,hm,_⟩:=hS;refine wpAny_storeSet_of ho hd (q _ (Heap.SameBut.update s.heap S (Obj.putSet sY t')) ?_) (bb hz (by decide));have g:=mB (Obj.putSet sY t') ho (by rw[putSet_of sY t' hd];rfl);rw[putSet_of sY t' hd] at g;exact⟨_,sY,ep+1,g,hc,QO,rfl,rfl,hf⟩
theorem Cw(hu:A.units<cLine)(hS:ig s.heap S hs t)(ho:s.heap.get? a=some o)(hc:o.cls=.type "tuple")(hd:o.data=.seq #[.int x tx,.int y ty] n)(yz:a≠S)(iB:dF hs t (tupleKeyHash (intKind prog w) [x,y])=some (hs',t'))(q:∀h' tk,Heap.SameBut S s.heap h'->ig h' S hs' t'->Q true { s with heap:=h',toks:=tk }):wpAny (model prog w) A (setAdd S (.ref a)) Q E s:=by
 have hk:IsTupleKey (intKind prog w) s.heap [x,y] a:=⟨o,_,n,ho,hc,hd,.cons (intKind_is _ _ _ _) (.cons (intKind_is _ _ _ _) .nil)⟩
 unfold setAdd;refine gQ (ao (wpAny_pyHash_tuple hu hk ?_));generalize M9:s.toks+([x,y].length+1)=tk;generalize hh:tupleKeyHash (intKind prog w) [x,y]=h at iB |-;have QP:=hS;obtain⟨ob,es,ep,hb,Nw,VE,Bu,hm,hf⟩:=hS;unfold setAddHashed setAddHashedIn;refine gQ (ao (qe (s:={ s with toks:=tk }) hb Bu hf ?_));dsimp only;have HU:byScan (.ref a) es=false:=by unfold byScan;rfl
 rw[HU,al bE];unfold dF at iB;cases hg:t.gaveWay with
 |true=>rw[hg,ak rfl] at iB;cases iB
 |false=>
  rw[hg,al bE] at iB;split at iB
  .rename_i j hp;dsimp only at iB;split at iB
   .rename_i L6;rw[gu,mE] at L6;refine ao (vh (s:={ s with toks:=tk }) QP hg hp ?_);dsimp only;refine ao (qe (s:={ s with toks:=tk }) hb Bu hf ?_);dsimp only;have SN:∀ {kk:Bool->Sem Bool},wpAny (model prog w) A (kk true) Q E { s with toks:=tk }->wpAny (model prog w) A (if (t.put j).1.plain=true then hashByValue 8 (.ref a) >>= kk else pure true >>= kk) Q E { s with toks:=tk }:=fun {kk} hP=>by
     split
     .exact ao (xy (s:={ s with toks:=tk }) ho hc hd hP)
     .exact ao (wpAny_pure hP)
    refine SN ?_;simp only[if_true];have j_:(SetTable.insertAt es (t.put j).2 (h,Value.ref a)).size=(SetTable.insertAt hs (t.put j).2 h).size:=by
     rw[<-hm,<-jT es (t.put j).2 (h,Value.ref a),jG]
    refine ao (wn (s:={ s with toks:=tk }) QP (by rw[j_];exact L6.1) (by rw[j_];exact L6.2) fun h1 pA S1=>?_);rw[jT,hm] at S1;split at iB
    .rename_i Nx;rw[show (!false&&(t.put j).1.tooFull)=true by rw[Nx];rfl,ak rfl];split at iB
     .rename_i t2 gx hr;split at iB
      .rename_i hq;rw[gu,gu,mE,eH] at hq;obtain⟨⟨Ez,L7⟩,QQ⟩:=hq;cases iB;have Ny:es.size=hs.size:=by rw[<-hm,jG]
       refine ao ?_;unfold setRelay;obtain⟨o1,Cy,VF,g1,g2,g3,g4,g5,g6⟩:=id S1;refine ao (qe (s:={ s with heap:=h1,toks:=tk }) g1 g4 g6 ?_);dsimp only;rw[Ny];rw[al (by (have h4:(4096:Nat)<=sizeLine:=by decide);lia)];refine ao ?_;rw[g5,hr];have vi:(gx.filterMap (Cy[·]?)).size=Cy.size:=by
        have e1:=congrArg Array.size (k_ Cy gx);rw[jG,g5] at e1;rw[e1,Ez,<-g5,jG]
       refine wpAny_of_eq (show _=(pure (gx.filterMap (Cy[·]?),t'):Sem (Array (Int×Value)×SetTable)) from ?_) ?_
       .show (do
         let sY:=gx.filterMap (Cy[·]?)
         if sY.size != Cy.size then unsupported "internal:set-table-lost-an-element"
         pure (sY,t'):Sem (Array (Int×Value)×SetTable))=_
        simp[vi]
       dsimp only;have Nz:Cy.size<=4096:=by
        have e1:=congrArg Array.size g5;rw[jG] at e1;rw[e1];exact L6.2
       have SO:(gx.filterMap (Cy[·]?)).size=(gx.filterMap ((SetTable.insertAt hs (t.put j).2 h)[·]?)).size:=by
        have e1:=congrArg Array.size (k_ Cy gx);rw[jG,g5] at e1;exact e1
       refine wn (s:={ s with heap:=h1,toks:=tk }) S1 (by rw[SO];exact L7) (by rw[vi];exact Nz) fun h2 on S2=>?_;rw[k_,g5] at S2;exact wpAny_pure (q h2 tk (pA.trans on) S2)
      .cases iB
     .cases iB
    .rename_i Nx;cases iB;have NA:(t.put j).1.tooFull=false:=by simpa using Nx
     rw[show (!false&&(t.put j).1.tooFull)=false by rw[NA];rfl,al bE];exact wpAny_pure (q h1 tk pA S1)
   .cases iB
  .cases iB
end
section
variable {prog:Program} {w:World} {A:Around} {E:Value->Shared->Prop} {s:Shared} {S Ia l:Addr} {R:Result->Shared->Prop}
def gc(h:Heap)(vs:List Value)(ys:List (Int×Int)):Prop:=vs.length=ys.length/\∀i v,vs[i]?=some v->∃a o n t u,v=.ref a/\h.get? a=some o/\o.cls=.type "tuple"/\o.data=.seq #[.int (ys.getD i (0,0)).1 t,.int (ys.getD i (0,0)).2 u] n
theorem gc.keeps(p:gc h vs ys)(k:∀b o,(∃xs n,o.data=.seq xs n)->h.get? b=some o->h'.get? b=some o):gc h' vs ys:=
 ⟨p.1,fun i v e=>let ⟨a,o,n,t,u,e1,e2,c,d⟩:=p.2 i v e;⟨a,o,n,t,u,e1,k a o ⟨_,_,d⟩ e2,c,d⟩⟩
def cZ(prog:Program)(w:World)(y:Int×Int):Int:=tupleKeyHash (intKind prog w) [y.1,y.2]
theorem zS(hh:A.handled=none)(hu:A.units+1<cLine)(SS:l≠S)(SU:l≠Ia)(NC:S≠Ia):
  ∀ (k i:Nat) (s:Shared) (hs:Array Int) (t:SetTable),vs.length-i=k->i<=vs.length->s.heap.IsListIter Ia l i->s.heap.IsList l vs.toArray->gc s.heap vs ys->ig s.heap S hs t->
   ((ys.drop i).map (cZ prog w)).foldlM (fun q h=>dF q.1 q.2 h) (hs,t)=some (hsN,tN)->
   (∀h' tk,(∀b o,b≠S->b≠Ia->s.heap.get? b=some o->h'.get? b=some o)->ig h' S hsN tN->R (.ok (.ret .none)) { s with heap:=h',toks:=tk })->
   codeAny (model prog w) A (.builtin "set.update.loop" ⟨[.ref S,.ref Ia],[]⟩) R s:=by
 intro k;induction k with
 |zero=>
  intro i s hs t hk hi rF hl hp hS hf hR;have e:i=vs.length:=by lia
  refine mQ yE ?_;rw[uo tw _];show wpAny _ A.in1 (pyNext (.ref Ia) >>= _) _ _ s;refine ao (wpAny_pyNext_list_end (show A.in1.handled=none from hh) rF hl (by simp;lia) fun h' eb=>?_);show wpAny _ A.in1 (ret Value.none) _ _ _;have hd:ys.drop i=[]:=by rw[List.drop_eq_nil_iff];have:=hp.1;lia
  rw[hd] at hf;cases hf;obtain⟨o,es,ep,q1,q2⟩:=hS;exact wpAny_pure (hR h' s.toks (fun b o hb L8 e=>eb b o L8 e) ⟨o,es,ep,eb S o NC q1,q2⟩)
 |succ k ih=>
  intro i s hs t hk hi rF hl hp hS hf hR;have eE:i<vs.length:=by lia
  refine mQ yE ?_;rw[uo tw _];show wpAny _ A.in1 (pyNext (.ref Ia) >>= _) _ _ s;have hv:vs[i]?=some vs[i]:=cV eE;refine ao (wpAny_pyNext_list_item rF hl (x:=vs[i]) (by simpa using hv) fun h1 ND pA=>?_);obtain⟨a,o,n,tx,ty,ea,eo,ec,ed⟩:=hp.2 i _ hv;rw[ea];have QR:∀b ob,(∃xs n,ob.data=.seq xs n)->s.heap.get? b=some ob->b≠Ia:=fun b ob ⟨xs,m,z⟩ e z'=>by
   obtain⟨oi,e1,_,d1⟩:=rF;rw[z',e1] at e;cases e;rw[d1] at z;cases z
  have NE:gc h1 vs ys:=hp.keeps fun b ob hb e=>(pA.2 b (QR b ob hb e)).trans e;have QS:ig h1 S hs t:=by
   obtain⟨oS,es,ep,q1,q2⟩:=hS;exact⟨oS,es,ep,(pA.2 S NC).trans q1,q2⟩
  have HV:h1.IsList l vs.toArray:=by
   obtain⟨ol,q1,q2⟩:=hl;exact⟨ol,(pA.2 l SU).trans q1,q2⟩
  have QT:h1.get? a=some o:=(pA.2 a (QR a o ⟨_,_,ed⟩ eo)).trans eo;have QU:∀b ob,(∃xs n,ob.data=.seq xs n)->h1.get? b=some ob->b≠S:=fun b ob ⟨xs,m,z⟩ e z'=>by
   obtain⟨oS,es,ep,q1,_,_,q4,_⟩:=QS;rw[z',q1] at e;cases e;rw[q4] at z;cases z
  have Cz:i<ys.length:=by have:=hp.1;lia
  have SV:ys.drop i=ys[i]::ys.drop (i+1):=tI Cz;have SW:ys.getD i (0,0)=ys[i]:=by rw[dL,cV Cz];rfl
  rw[SV,fN,List.foldlM_cons] at hf;cases iB:dF hs t (cZ prog w ys[i]) with
  |none=>rw[iB] at hf;cases hf
  |some q=>
   obtain⟨uW,t2⟩:=q;rw[iB] at hf;have QV:((ys.drop (i+1)).map (cZ prog w)).foldlM (fun q h=>dF q.1 q.2 h) (uW,t2)=some (hsN,tN):=hf;show wpAny _ A.in1 (holding [Value.ref a] (setAdd S (.ref a)) >>= _) _ _ _;refine ao (gQ (Cw (s:={ s with heap:=h1 }) (by show A.units+1<cLine;exact hu) QS QT ec ed (QU a o ⟨_,_,ed⟩ QT) (hs':=uW) (t':=t2) (by rw[SW];exact iB) fun h2 tk on S2=>?_));refine wpAny_pure ⟨plainId_quiet tw _,?_⟩;refine ih (i+1) { s with heap:=h2,toks:=tk } uW t2 (by lia) eE ?_ ?_ (NE.keeps fun b ob hb e=>(on.2 b (QU b ob hb e)).trans e) S2 QV fun h3 SX k3 S3=>?_
   .obtain⟨oi,q1,q2⟩:=ND;exact⟨oi,(on.2 Ia (cy NC)).trans q1,q2⟩
   .obtain⟨ol,q1,q2⟩:=HV;exact⟨ol,(on.2 l SS).trans q1,q2⟩
   .exact hR h3 SX (fun b ob hb L8 e=>k3 b ob hb L8 ((on.2 b hb).trans ((pA.2 b L8).trans e))) S3
theorem zU{vs:List Value}{ys:List (Int×Int)}{hsN:Bool->Array Int}{tN:Bool->SetTable}{Q:Value->Shared->Prop}(hh:A.handled=none)(hu:A.units+8<cLine)(hl:s.heap.IsList l vs.toArray)(hp:gc s.heap vs ys)(xz:∀led,qI led (ys.map (cZ prog w))=some (hsN led,tN led))(h:∀ (led:Bool) (h':Heap) (tk:Nat),ig h' s.heap.objs.size (hsN led) (tN led)->(∀b o,b<s.heap.objs.size->s.heap.get? b=some o->h'.get? b=some o)->Q (.ref s.heap.objs.size) { s with heap:=h',toks:=tk }):
  wpAny (model prog w) A (call (.type "set") [.ref l]) Q E s:=by
 obtain⟨c,tl,SY⟩:=ls.mro;have c1:=ls.made;have c2:=ls.sub;refine kB (codeAny_of_tree ?_);show wpAny _ _ (callAny (.type "set") _) _ _ _;refine wpAny_pure ⟨Code.quiet_builtin _ (by decide +kernel),mQ PySem.F.entry_type_call ?_⟩;rw[Around.under_plain (weight_type_call_type "set" [.ref l] []) rfl];have c3:=ls.notType;have c4:=ls.canCreate;have c5:=PySem.F.typeCall_set_1 (.ref l);repeat (any_goals (first|assumption|wp_step))
 refine gT (code_set_new_1 (.ref l) (E:=E) (Q₁:=fun obj s₁=>∃led:Bool,obj=.ref s.heap.objs.size/\s₁={ s with heap:=s.heap.push { cls:=.type "set",dict:=none,data:=.set #[] 0 (.fresh 0 0 led) } }) fun led=>⟨led,rfl,rfl⟩) fun r s₁ hr=>?_;cases r with
 |error e=>exact hr
 |ok fl=>
  cases fl with
  |next=>exact hr.elim
  |brk=>exact hr.elim
  |cont=>exact hr.elim
  |ret obj=>
   obtain⟨led,rfl,rfl⟩:=hr;generalize NF:s.heap.push { cls:=.type "set",dict:=none,data:=.set #[] 0 (.fresh 0 0 led) }=hS;have j_:hS.objs.size=s.heap.objs.size+1:=by rw[<-NF,gP]
   have gS:hS.get? s.heap.objs.size=some { cls:=.type "set",dict:=none,data:=.set #[] 0 (.fresh 0 0 led) }:=by rw[<-NF];exact b_ _ rfl
   have up:∀b o,s.heap.get? b=some o->hS.get? b=some o:=fun b o e=>by rw[<-NF];exact bf _ e
   have hT:Shared.TypeIs { s with heap:=hS } (.ref s.heap.objs.size) "set":=⟨_,gS,rfl⟩
   have c6:=ls.init.lookup;have c7:=ls.init.bind (.ref s.heap.objs.size);repeat (any_goals (first|assumption|wp_step))
   refine gT (uf (R:=wants (fun r s₂=>r=.none/\∃h' tk,s₂={ s with heap:=h',toks:=tk }/\ig h' s.heap.objs.size (hsN led) (tN led)/\
     (∀b o,b<s.heap.objs.size->s.heap.get? b=some o->h'.get? b=some o)) E) ls.init.plain PySem.F.entry_set_init (check_set_init_1 hT ?_)) fun r₂ s₂ Jx=>?_
   .obtain⟨ol,EA,Es,nl,QW⟩:=hl;obtain⟨SZ,QX,QY,NG⟩:=ol;simp only at Es QW;subst Es;subst QW;have NH:=up _ _ EA;have c8:=PySem.F.sub_list_set;have c9:=PySem.F.sub_list_frozenset;have VG:(Value.type "list"==Value.type "dict")=false:=by decide
    have HV:hS.IsList l vs.toArray:=⟨_,NH,rfl,nl,rfl⟩
    unfold Builtin.«set.__init__» noKeywords Builtin.Frozenset.updateFrom;generalize S0:pyIter=PI
    wp_walk
    subst S0;refine uB HV ?_;refine ao (wpAny_runValue ?_);have eE:l<s.heap.objs.size:=a9 EA;refine zS (l:=l) (vs:=vs) (ys:=ys) (hsN:=hsN led) (tN:=tN led) (by simp[hh]) (by simp;lia) (aT eE) (by rw[j_];exact aT (dg eE)) (by rw[j_];exact aT (ja _))
     (vs.length-0) 0 _ #[] (.fresh 0 0 led) rfl (cK _) ⟨_,b_ _ rfl,rfl,rfl⟩ (HV.push _) (hp.keeps fun b o _ e=>bf _ (up b o e)) ⟨_,#[],0,bf _ gS,rfl,⟨rfl,rfl⟩,rfl,by simp,rfl⟩ (xz led) fun h' tk k S'=>?_
    show wpAny _ _ _ _ _ _;refine wpAny_pure ?_;show wpAny _ _ (ret Value.none) _ _ _;refine wpAny_pure ⟨rfl,h',tk,rfl,S',fun b o hb e=>?_⟩;exact k b o (aT hb) (by rw[j_];exact aT (dg hb)) (bf _ (up b o e))
   .cases r₂ with
    |error e=>exact Jx
    |ok S4=>
     cases S4 with
     |next=>exact Jx.elim
     |brk=>exact Jx.elim
     |cont=>exact Jx.elim
     |ret r=>
      obtain⟨rfl,h',tk,rfl,S',k⟩:=Jx;repeat (any_goals (first|assumption|wp_step))
      exact h led h' tk S' k
end
open PySem
def zV(l:List Nat):Nat:=l.foldl (fun a x=>a ||| (1 <<< x)) 0
theorem xA(l:List Nat)(a j:Nat):(l.foldl (fun a x=>a ||| (1 <<< x)) a).testBit j=(a.testBit j||l.contains j):=by
 induction l generalizing a with
 |nil=>simp
 |cons x xs ih=>
  rw[qh,ih,Nat.testBit_or,List.contains_cons];have:(1 <<< x).testBit j=(j==x):=by
   rw[Nat.one_shiftLeft,Nat.testBit_two_pow];by_cases h:x=j
   .simp[h]
   .have h':¬ j=x:=fun e=>h e.symm;simp[h,h']
  rw[this,Bool.or_assoc]
theorem lz(h:zV l=2 ^ n-1)(hj:j<n):j∈l:=by
 have e:=xA l 0 j;have h':l.foldl (fun a x=>a ||| (1 <<< x)) 0=2 ^ n-1:=h;rw[h',Nat.testBit_two_pow_sub_one] at e;simp[hj] at e;exact e
def zW(M:Nat):Nat->Nat->Nat
 |0,i=>i
 |n+1,i=>zW M n ((i*5+1) % M)
theorem lZ(M a:Nat):∀b i,zW M (b+a) i=zW M a (zW M b i)
 |0,i=>by rw[Nat.zero_add];rfl
 |b+1,i=>by
  rw[show b+1+a=(b+a)+1 by lia];show zW M (b+a) _=zW M a (zW M b _);exact lZ M a b _
def FU(M:Nat):Nat->Nat->List Nat
 |0,_=>[]
 |n+1,i=>i::FU M n ((i*5+1) % M)
theorem nC:∀ {n i},j∈FU M n i->∃k,k<n/\zW M k i=j
 |0,_,h=>by cases h
 |n+1,i,h=>by
  rcases a_.mp h with z|z
  .exact⟨0,by lia,z.symm⟩
  .obtain⟨k,a,b⟩:=nC z;exact⟨k+1,by lia,b⟩
structure xB(M:Nat):Prop where
 all:zV (FU M M 0)=2 ^ M-1
 back:zW M M 0=0
theorem NI:xB 8:=⟨by decide +kernel,by decide +kernel⟩
theorem EB:xB 32:=⟨by decide +kernel,by decide +kernel⟩
theorem zX:xB 128:=⟨by decide +kernel,by decide +kernel⟩
theorem zY:xB 512:=⟨by decide +kernel,by decide +kernel⟩
theorem xB.cover(R:xB M)(hi:i<M)(hj:j<M):∃n,n<M/\zW M n i=j:=by
 obtain⟨a,ha,ea⟩:=nC (lz R.all hi);obtain⟨b,hb,eb⟩:=nC (lz R.all hj);by_cases h:a<=b
 .refine⟨b-a,by lia,?_⟩;rw[<-ea,<-lZ,show a+(b-a)=b by lia,eb]
 .refine⟨M+b-a,by lia,?_⟩;rw[<-ea,<-lZ,show a+(M+b-a)=M+b by lia,lZ,R.back,eb]
def ei(mask:Nat):Nat->Nat×Nat->Nat×Nat
 |0,q=>q
 |n+1,q=>ei mask n (SetTable.leap mask q.1 q.2)
theorem pB(m a:Nat):∀b q,ei m (b+a) q=ei m a (ei m b q)
 |0,q=>by rw[Nat.zero_add];rfl
 |b+1,q=>by
  rw[show b+1+a=(b+a)+1 by lia];exact pB m a b _
theorem rV:∀ {n:Nat} {q:Nat×Nat},q.1<m+1->(ei m n q).1<m+1
 |0,_,h=>h
 |n+1,q,h=>rV (n:=n) (jf _ (qo _))
theorem wq:∀ {n:Nat} {q:Nat×Nat},(ei m n q).2=q.2 / 32 ^ n
 |0,_=>by simp[ei]
 |n+1,q=>by
  show (ei m n _).2=_;rw[wq];show q.2 / 32 / 32 ^ n=_;rw[mm,Nat.pow_succ,Nat.mul_comm]
theorem pC:∀ {n i:Nat},ei m n (i,0)=(zW (m+1) n i,0)
 |0,_=>rfl
 |n+1,i=>by
  show ei m n (SetTable.leap m i 0)=_;unfold SetTable.leap;simp only[Nat.zero_div,Nat.add_zero];exact pC
theorem lA(R:xB (m+1))(hi:i<m+1)(hp:p<2 ^ 64)(hj:j<m+1):∃n,n<m+14/\(ei m n (i,p)).1=j:=by
 have h1:=rV (m:=m) (n:=13) (q:=(i,p)) hi;have h2:(ei m 13 (i,p)).2=0:=by
  rw[wq];exact ur (bp hp (by decide))
 obtain⟨n,hn,e⟩:=R.cover h1 hj;refine⟨13+n,by lia,?_⟩;rw[pB];have:ei m 13 (i,p)=((ei m 13 (i,p)).1,0):=jg rfl h2;rw[this,pC];exact e
theorem wr(h:Int):SetTable.bits h<2 ^ 64:=by
 unfold SetTable.bits;have a:=kr h (show (2 ^ 64:Int)≠0 by decide);have b:=kg h (show (0:Int)<2 ^ 64 by decide);lia
theorem Jy{M:Nat}{l:List Nat}(h:l.length<M):∃j,j<M/\j∉l:=by
 have key:∀ (a b:List Nat),a.Nodup->(∀x∈a,x∈b)->a.length<=b.length:=by
  intro a;induction a with
  |nil=>intro b _ _;exact cK _
  |cons x xs ih=>
   intro b hn hs;obtain⟨h1,h2⟩:=gv.mp hn;have hx:x∈b:=hs x b9;have:=ih (b.erase x) h2 fun y hy=>(List.mem_erase_of_ne (fun (e:y=x)=>h1 (e ▸ hy))).mpr (hs y (bD _ hy));rw[yN hx] at this;have:0<b.length:=List.length_pos_of_mem hx;rw[cI];lia
 apply p7;intro zC;have:=key (List.range M) l uv fun x hx=>p7 fun uL=>zC ⟨x,dM.mp hx,uL⟩;rw[mG] at this;lia
def vj(mask i p:Nat):SetTable.Probe:={ j:=i,more:=SetTable.runEnd mask i-i,i:=i,perturb:=p,dummy:=none }
theorem FV(mask i:Nat):SetTable.runEnd mask i-i<=9:=by unfold SetTable.runEnd;split <;> lia
theorem qJ{t:SetTable}(hd:t.dummies=#[])(j:Nat):t.slot j=.empty\/∃i,t.slot j=.live i/\t.place[i]?=some j:=by
 unfold SetTable.slot;dsimp only;split
 .rename_i h;exact .inr ⟨_,rfl,by simpa using h⟩
 .left;rw[hd];rfl
theorem vk{t:SetTable}(hd:t.dummies=#[]){j:Nat}(h:j∉t.place.toList):t.slot j=.empty:=by
 rcases qJ hd j with e|⟨i,_,e2⟩
 .exact e
 .exact absurd (by rw[<-my] at e2;exact cD e2) h
section
variable {t:SetTable} {hashAt:Nat->Int} {h:Int}
theorem zZ(hd:t.dummies=#[])(hh:∀i,i<t.place.size->hashAt i≠h)(i p:Nat):∀ (r:Nat) (j dP:Nat),
  (∃j',SetTable.probe.go t hashAt h (dP+r+1) { j:=j,more:=r,i:=i,perturb:=p,dummy:=none }=some (.empty j' none))\/
  SetTable.probe.go t hashAt h (dP+r+1) { j:=j,more:=r,i:=i,perturb:=p,dummy:=none }=SetTable.probe.go t hashAt h dP (vj t.mask (SetTable.leap t.mask i p).1 (SetTable.leap t.mask i p).2)
 |0,j,dP=>by
  rcases qJ hd j with e|⟨k,e,e2⟩
  .exact .inl ⟨j,by unfold SetTable.probe.go;rw[e]⟩
  .right;have hk:k<t.place.size:=(rC.mp e2).1;conv=>lhs;unfold SetTable.probe.go
   rw[e];simp only[eH,hh k hk,fT];rfl
 |r+1,j,dP=>by
  rcases qJ hd j with e|⟨k,e,e2⟩
  .exact .inl ⟨j,by rw[show dP+(r+1)+1=(dP+r+1)+1 by lia];unfold SetTable.probe.go;rw[e]⟩
  .have hk:k<t.place.size:=(rC.mp e2).1;have st:SetTable.probe.go t hashAt h (dP+(r+1)+1) { j:=j,more:=r+1,i:=i,perturb:=p,dummy:=none }=SetTable.probe.go t hashAt h (dP+r+1) { j:=j+1,more:=r,i:=i,perturb:=p,dummy:=none }:=by
    rw[show dP+(r+1)+1=(dP+r+1)+1 by lia];conv=>lhs;unfold SetTable.probe.go
    rw[e];simp only[eH,hh k hk,fT];rfl
   rw[st];exact zZ hd hh i p r (j+1) dP
theorem wu(hd:t.dummies=#[])(hh:∀i,i<t.place.size->hashAt i≠h):∀ (m:Nat) (i p dP:Nat),10*(m+1)<=dP->t.slot (ei t.mask m (i,p)).1=.empty->
  ∃j',SetTable.probe.go t hashAt h dP (vj t.mask i p)=some (.empty j' none)
 |0,i,p,dP,hf,e=>by
  obtain⟨f,rfl⟩:∃f,dP=f+1:=⟨dP-1,by lia⟩
  refine⟨i,?_⟩;have e':t.slot i=.empty:=e;unfold SetTable.probe.go vj;dsimp only;rw[e']
 |m+1,i,p,dP,hf,e=>by
  have hr:=FV t.mask i;obtain⟨f,CA⟩:∃f,dP=f+(SetTable.runEnd t.mask i-i)+1:=⟨dP-(SetTable.runEnd t.mask i-i)-1,by lia⟩
  rcases zZ (hashAt:=hashAt) (h:=h) hd hh i p (SetTable.runEnd t.mask i-i) i f with z|z
  .rw[CA];exact z
  .rw[CA];show ∃j',SetTable.probe.go t hashAt h _ { j:=i,more:=_,i:=i,perturb:=p,dummy:=none }=_;rw[z];exact wu hd hh m _ _ f (by lia) e
theorem vm(R:xB (t.mask+1))(hd:t.dummies=#[])(hs:t.place.size<=t.mask)(hh:∀i,i<t.place.size->hashAt i≠h):∃j,t.probe hashAt h (t.probeStart h)=some (.empty j none):=by
 obtain⟨j,hj,hn⟩:=Jy (M:=t.mask+1) (l:=t.place.toList) (by simpa using Nat.lt_succ_of_le hs);obtain⟨m,hm,e⟩:=lA R (jf (SetTable.bits h) (qo t.mask)) (wr h) hj;refine wu hd hh m _ _ _ ?_ (by rw[e];exact vk hd hn);unfold SetTable.turns;lia
end
theorem z0{α β:Type}{f:α->Option β}:∀ {l:List α},(∀q∈l,(f q).isSome=true)->(l.filterMap f).length=l.length
 |[],_=>rfl
 |q::l,h=>by
  have hq:=h q b9;cases e:f q with
  |none=>rw[e] at hq;cases hq
  |some b=>rw[yP e,cI,cI,z0 fun x hx=>h x (bD _ hx)]
theorem pD:∀ (m dP i p:Nat),m<dP->owner.getD (ei mask m (i,p)).1 (some 0)=none->∃j,SetTable.layClean.free mask owner dP i p=some j/\owner.getD j (some 0)=none
 |m,0,_,_,h,_=>by lia
 |m,dP+1,i,p,h,e=>by
  unfold SetTable.layClean.free;cases hf:(List.range (SetTable.runEnd mask i+1-i)).find? fun k=>(owner.getD (i+k) (some 0)).isNone with
  |some k=>
   refine⟨i+k,rfl,?_⟩;have:=List.find?_some hf;simpa using this
  |none=>
   cases m with
   |zero=>
    have h0:(0:Nat)∈List.range (SetTable.runEnd mask i+1-i):=dM.mpr (by unfold SetTable.runEnd;split <;> lia);have:=List.find?_eq_none.mp hf 0 h0;have e':owner.getD i (some 0)=none:=e;rw[Nat.add_zero,e'] at this;exact absurd rfl this
   |succ m=>
    exact pD m dP _ _ (by lia) e
structure rW(M:Nat)(owner:Array (Option Nat))(k:Nat):Prop where
 size:owner.size=M
 cnt:owner.toList.countP Option.isSome=k
 lt:∀x,some x∈owner.toList->x<k
theorem vn{l:List (Option Nat)}{j:Nat}{x:Nat}(hj:l[j]?=some none):(l.set j (some x)).countP Option.isSome=l.countP Option.isSome+1:=by
 induction l generalizing j with
 |nil=>cases hj
 |cons a l ih=>
  cases j with
  |zero=>
   obtain rfl:a=none:=by simpa using hj
   simp
  |succ j=>
   rw[List.set_cons_succ,ux,ux,ih (by simpa using hj)];lia
theorem rW.one{mask:Nat}{owner:Array (Option Nat)}{k:Nat}(L:rW (mask+1) owner k)(R:xB (mask+1))(hk:k<mask+1)(h:Int):
  ∃j,SetTable.layClean.free mask owner (SetTable.turns mask) (SetTable.bits h % (mask+1)) (SetTable.bits h)=some j/\rW (mask+1) (owner.setIfInBounds j (some k)) (k+1):=by
 have zC:∃j,j<mask+1/\owner.toList[j]?=some none:=by
  apply p7;intro zC;have rL:∀x∈owner.toList,x.isSome=true:=by
   intro x hx;obtain⟨j,hj,e⟩:=tX.mp hx;cases x with
   |some _=>rfl
   |none=>
    refine absurd ⟨j,?_,?_⟩ zC
    .rw[<-L.size];simpa using hj
    .rw[cV hj,e]
  have:=List.countP_eq_length.mpr rL;rw[L.cnt,mr,L.size] at this;lia
 obtain⟨j0,S5,e0⟩:=zC;obtain⟨m,hm,em⟩:=lA R (jf (SetTable.bits h) (qo mask)) (wr h) S5;obtain⟨j,ej,en⟩:=pD (mask:=mask) (owner:=owner) m (SetTable.turns mask) (SetTable.bits h % (mask+1)) (SetTable.bits h) (by unfold SetTable.turns;lia)
  (by rw[em,pX,<-my,e0];rfl)
 refine⟨j,ej,?_⟩;have S7:owner.toList[j]?=some none:=by
  rw[pX,<-my] at en;cases hq:owner.toList[j]? with
  |none=>rw[hq] at en;cases en
  |some v=>rw[hq] at en;rw[show v=none from en]
 have Jz:(owner.setIfInBounds j (some k)).toList=owner.toList.set j (some k):=by simp
 refine⟨by simp[L.size],by rw[Jz,vn S7,L.cnt],fun x hx=>?_⟩;rw[Jz] at hx;rcases List.mem_or_eq_of_mem_set hx with z|z
 .exact dg (L.lt x z)
 .cases z;exact ja _
theorem wv(R:xB (mask+1)):∀ (l:List Int) (owner:Array (Option Nat)) (k:Nat),rW (mask+1) owner k->k+l.length<=mask->
  ∃z4,l.foldl (fun cL h=>do
   let (owner,k) <- cL
   let j <- SetTable.layClean.free mask owner (SetTable.turns mask) (SetTable.bits h % (mask+1)) (SetTable.bits h)
   pure (owner.setIfInBounds j (some k),k+1)) (some (owner,k))=some (z4,k+l.length)/\rW (mask+1) z4 (k+l.length)
 |[],owner,k,L,_=>⟨owner,rfl,L⟩
 |h::l,owner,k,L,hl=>by
  rw[cI] at hl;obtain⟨j,ej,L'⟩:=L.one R (by lia) h;obtain⟨o',e,L2⟩:=wv R l _ _ L' (by lia);refine⟨o',?_,by rw[cI,show k+(l.length+1)=k+1+l.length by lia];exact L2⟩;rw[qh];have:(do
   let (owner,k) <- some (owner,k)
   let j <- SetTable.layClean.free mask owner (SetTable.turns mask) (SetTable.bits h % (mask+1)) (SetTable.bits h)
   pure (owner.setIfInBounds j (some k),k+1):Option (Array (Option Nat)×Nat))=some (owner.setIfInBounds j (some k),k+1):=by
   show (SetTable.layClean.free mask owner (SetTable.turns mask) (SetTable.bits h % (mask+1)) (SetTable.bits h)).bind _=_;rw[ej];rfl
  rw[this,e,cI,show k+(l.length+1)=k+1+l.length by lia]
theorem rX(R:xB (mask+1))(hs:Array Int)(h:hs.size<=mask):∃owner,SetTable.layClean mask hs=some owner/\rW (mask+1) owner hs.size:=by
 have L0:rW (mask+1) (Array.replicate (mask+1) none) 0:=⟨by simp,by simp[List.countP_replicate],fun x hx=>by simp at hx⟩
 obtain⟨o,e,L⟩:=wv R hs.toList _ 0 L0 (by simpa using h);refine⟨o,?_,by simpa using L⟩;unfold SetTable.layClean;rw[<-Array.foldl_toList];have e':=congrArg (Option.map (·.1)) e;exact e'
theorem vo(L:rW M owner n):
  ((List.range M).filterMap fun j=>(owner.getD j none).map (j,·)).length=n/\∀q∈(List.range M).filterMap (fun j=>(owner.getD j none).map (j,·)),q.2<n:=by
 constructor
 .rw[<-L.cnt];have e:owner.toList=(List.range M).map fun j=>owner.getD j none:=by
   apply List.ext_getElem
   .simp[L.size]
   .intro i h1 h2;simp only[List.getElem_map,List.getElem_range,Array.getElem_toList];rw[pX,tJ (by simpa using h1)];rfl
  conv=>rhs;rw[e]
  rw[List.countP_map];generalize List.range M=l;induction l with
  |nil=>rfl
  |cons a l ih=>
   rw[ux,<-ih];cases hq:owner.getD a none with
   |none=>rw[List.filterMap_cons_none (by rw[hq];rfl),show (Option.isSome ∘ fun j=>owner.getD j none) a=false by show (owner.getD a none).isSome=false;rw[hq];rfl];simp
   |some x=>rw[yP (b:=(a,x)) (by rw[hq];rfl),show (Option.isSome ∘ fun j=>owner.getD j none) a=true by show (owner.getD a none).isSome=true;rw[hq];rfl];simp
 .intro q hq;obtain⟨j,_,e⟩:=mv.mp hq;cases hx:owner.getD j none with
  |none=>rw[hx] at e;cases e
  |some x=>
   rw[hx] at e;cases e;refine L.lt x ?_;rw[pX,<-my] at hx;cases hy:owner.toList[j]? with
   |none=>rw[hy] at hx;cases hx
   |some v=>rw[hy] at hx;obtain rfl:v=some x:=hx;exact cD hy
structure rY(hs:Array Int)(t:SetTable):Prop where
 dm:t.dummies=#[]
 sz:t.place.size=hs.size
 ms:(t.mask=7/\hs.size<=4)\/(t.mask=31/\hs.size<=18)\/(t.mask=127/\hs.size<=76)\/(t.mask=511/\hs.size<=306)
theorem rY.S8(T:rY hs t):xB (t.mask+1):=by
 rcases T.ms with ⟨e,_⟩|⟨e,_⟩|⟨e,_⟩|⟨e,_⟩ <;> rw[e]
 .exact NI
 .exact EB
 .exact zX
 .exact zY
theorem i4(xs:Array α)(p:Nat)(x:α):(SetTable.insertAt xs p x).size=xs.size+1:=by
 unfold SetTable.insertAt;simp;lia
theorem jU(h:y∈(SetTable.insertAt xs p x).toList):y=x\/y∈xs.toList:=by
 unfold SetTable.insertAt at h;rw[cQ,ki,tZ,tZ] at h;rcases cJ.mp h with z|z
 .rcases cJ.mp z with z|z
  .right;rw[List.extract_eq_drop_take] at z;exact qa (oX z)
  .left;simpa using z
 .right;rw[List.extract_eq_drop_take] at z;exact qa (oX z)
theorem vp{hs:Array Int}{t:SetTable}{h:Int}(T:rY hs t)(hn:h∉hs.toList)(hl:hs.size<300):∃hs' t',dF hs t h=some (hs',t')/\rY hs' t'/\hs'.size=hs.size+1/\∀x∈hs'.toList,x=h\/x∈hs.toList:=by
 have Nz:t.place.size<=t.mask:=by rw[T.sz];rcases T.ms with ⟨e,z⟩|⟨e,z⟩|⟨e,z⟩|⟨e,z⟩ <;> lia
 have hh:∀i,i<t.place.size->FS hs i≠h:=by
  intro i hi e;rw[T.sz] at hi;unfold FS at e;rw[tJ hi] at e;exact hn (by rw[<-e];simp)
 obtain⟨j,hp⟩:=vm (hashAt:=FS hs) (h:=h) T.S8 T.dm Nz hh;have hg:t.gaveWay=false:=by
  unfold SetTable.gaveWay;rcases T.ms with ⟨e,_⟩|⟨e,_⟩|⟨e,_⟩|⟨e,_⟩ <;> rw[e] <;> rfl
 have q1:(t.put j).1.place=SetTable.insertAt t.place (SetTable.below t.place j) j:=rfl;have q2:(t.put j).1.dummies=#[]:=by
  show (if SetTable.has t.dummies j=true then _ else t.dummies)=_;rw[T.dm];rfl
 have q3:(t.put j).1.mask=t.mask:=rfl;have s1:(SetTable.insertAt hs (t.put j).2 h).size=hs.size+1:=i4 _ _ _;have s2:(t.put j).1.place.size=hs.size+1:=by rw[q1,i4,T.sz]
 have fl:(t.put j).1.fill=hs.size+1:=by unfold SetTable.fill;rw[s2,q2];rfl
 have S9:(t.put j).1.fits (SetTable.insertAt hs (t.put j).2 h).size=true:=by
  unfold SetTable.fits;rw[s1,s2,fl,q3];simp;rcases T.ms with ⟨e,z⟩|⟨e,z⟩|⟨e,z⟩|⟨e,z⟩ <;> lia
 unfold dF;rw[hg,al bE,hp];dsimp only;rw[ak (by rw[S9,s1];simp;lia)];by_cases hf:(t.put j).1.tooFull=true
 .rw[ak hf];have CA:=hf;unfold SetTable.tooFull at CA;rw[fl,q3] at CA;have QV:(hs.size+1)*5>=t.mask*3:=by simpa using CA
  have gr:SetTable.grown (hs.size+1)=(hs.size+1)*4:=by unfold SetTable.grown;rw[al (by lia)]
  obtain⟨m2,QZ,NJ,R2⟩:∃m2,SetTable.sizeAbove (SetTable.grown (hs.size+1))=m2+1/\((m2=31/\hs.size+1<=18)\/(m2=127/\hs.size+1<=76)\/(m2=511/\hs.size+1<=306))/\xB (m2+1):=by
   rw[gr];rcases T.ms with ⟨e,z⟩|⟨e,z⟩|⟨e,z⟩|⟨e,z⟩
   .have:hs.size=4:=by lia
    exact⟨31,by rw[this];rfl,.inl ⟨rfl,by lia⟩,EB⟩
   .have:hs.size=18:=by lia
    exact⟨127,by rw[this];rfl,.inr (.inl ⟨rfl,by lia⟩),zX⟩
   .have:hs.size=76:=by lia
    exact⟨511,by rw[this];rfl,.inr (.inr ⟨rfl,by lia⟩),zY⟩
   .lia
  have Q0:(SetTable.insertAt hs (t.put j).2 h).size<=m2:=by rw[s1];rcases NJ with ⟨e,z⟩|⟨e,z⟩|⟨e,z⟩ <;> lia
  obtain⟨owner,eo,L⟩:=rX R2 (SetTable.insertAt hs (t.put j).2 h) Q0;obtain⟨JA,NK⟩:=vo L;rw[s1] at JA NK;generalize JB:(List.range (m2+1)).filterMap (fun j=>(owner.getD j none).map (j,·))=live at JA NK;have er:(t.put j).1.relaid (SetTable.insertAt hs (t.put j).2 h) (SetTable.grown (hs.size+1))=some ({ mask:=m2,place:=(live.map (·.1)).toArray,dummies:=#[],finger:=(t.put j).1.finger,led:=(t.put j).1.led,moves:=(t.put j).1.movedTo m2,plain:=(t.put j).1.plain },(live.map (·.2)).toArray):=by
   unfold SetTable.relaid SetTable.laid;rw[QZ];simp only[Nat.add_sub_cancel];rw[eo];show some _=some _;rw[<-JB]
  rw[er];dsimp only;have vi:((live.map (·.2)).toArray.filterMap ((SetTable.insertAt hs (t.put j).2 h)[·]?)).size=hs.size+1:=by
   rw[<-mr,p_];show ((live.map (·.2)).filterMap _).length=_;rw[<-JA,List.filterMap_map];refine z0 fun q hq=>?_;show ((SetTable.insertAt hs (t.put j).2 h)[q.2]?).isSome=true;rw[tJ (by rw[s1];exact NK q hq)];rfl
  have S_:∀x,({ mask:=m2,place:=(live.map (·.1)).toArray,dummies:=#[],finger:=(t.put j).1.finger,led:=(t.put j).1.led,moves:=(t.put j).1.movedTo m2,plain:=(t.put j).1.plain }:SetTable).fits x=(decide (hs.size+1=x)&&decide (hs.size+1<=m2)):=by
   intro x;unfold SetTable.fits SetTable.fill;simp[JA];rw[jc];simp
  rw[ak (by
   rw[vi,s1,S_,QZ];have:hs.size+1<=m2:=by rw[<-s1];exact Q0
   simp[this];rcases NJ with ⟨e,z⟩|⟨e,z⟩|⟨e,z⟩ <;> lia)]
  refine⟨_,_,rfl,⟨rfl,?_,?_⟩,vi,fun x hx=>?_⟩
  .rw[vi];simp[JA]
  .rw[vi];exact .inr NJ
  .rw[p_] at hx;obtain⟨k,_,ek⟩:=mv.mp hx;refine jU (p:=(t.put j).2) ?_;rw[<-my] at ek;exact cD ek
 .rw[al hf];refine⟨_,_,rfl,⟨q2,by rw[s2,s1],?_⟩,s1,fun x hx=>jU hx⟩;have CA:¬ (hs.size+1)*5>=t.mask*3:=by
   intro z;refine hf ?_;unfold SetTable.tooFull;rw[fl,q3];simpa using z
  rw[s1,q3];rcases T.ms with ⟨e,z⟩|⟨e,z⟩|⟨e,z⟩|⟨e,z⟩ <;> lia
theorem lB:∀ (l:List Int) (hs:Array Int) (t:SetTable),rY hs t->(∀x∈l,x∉hs.toList)->l.Nodup->hs.size+l.length<=300->∃hs' t',l.foldlM (fun q h=>dF q.1 q.2 h) (hs,t)=some (hs',t')/\hs'.size=hs.size+l.length
 |[],hs,t,_,_,_,_=>⟨hs,t,rfl,rfl⟩
 |h::l,hs,t,T,hn,nd,hl=>by
  rw[cI] at hl;obtain⟨n1,n2⟩:=gv.mp nd;obtain⟨Ey,t1,e1,T1,z1,m1⟩:=vp T (hn h b9) (by lia);obtain⟨uW,t2,e2,z2⟩:=lB l Ey t1 T1 (fun x hx hy=>by
   rcases m1 x hy with e|e
   .exact n1 (e ▸ hx)
   .exact hn x (bD _ hx) e) n2 (by lia)
  refine⟨uW,t2,?_,by rw[z2,z1,cI];lia⟩;rw[List.foldlM_cons];show (dF hs t h).bind _=_;rw[e1];exact e2
theorem xC(led:Bool)(nd:l.Nodup)(hl:l.length<=300):∃hs t,qI led l=some (hs,t)/\hs.size=l.length:=by
 obtain⟨hs,t,e,z⟩:=lB l #[] (SetTable.fresh 0 0 led) ⟨rfl,rfl,.inl ⟨rfl,by decide⟩⟩ (fun x _ h=>by simp at h) nd (by simpa using hl);exact⟨hs,t,e,by simpa using z⟩
def ww:List Nat->Nat->Bool
 |[],_=>true
 |x::xs,cL=>bif Nat.testBit cL x then false else ww xs (cL ||| (1 <<< x))
theorem rZ:∀ (l:List Nat) (cL:Nat),ww l cL=true->l.Nodup/\∀x∈l,cL.testBit x=false
 |[],_,_=>⟨uE,fun x h=>(nomatch h)⟩
 |x::xs,cL,h=>by
  unfold ww at h;cases hb:cL.testBit x with
  |true=>rw[hb] at h;cases h
  |false=>
   rw[hb] at h;obtain⟨nd,hx⟩:=rZ xs _ h;have Q3:∀y∈xs,cL.testBit y=false/\y≠x:=by
    intro y hy;have:=hx y hy;rw[Nat.testBit_or,Nat.one_shiftLeft,Nat.testBit_two_pow] at this;rw[Bool.or_eq_false_iff] at this;exact⟨this.1,fun e=>by have:=this.2;simp[e] at this⟩
   refine⟨gv.mpr ⟨fun hm=>(Q3 x hm).2 rfl,nd⟩,fun y hy=>?_⟩;rcases a_.mp hy with z|z
   .rw[z];exact hb
   .exact(Q3 y z).1
def nE:List (Int×Int):=(List.range 32).flatMap fun a=>(List.range 32).map fun b=>(Int.ofNat a,Int.ofNat b)
def EC(h:Int):Nat:=(h % 6554).toNat
theorem xD(P:Program)(w:World):ww (nE.map fun y=>EC (cZ P w y)) 0=true:=by kernel_rfl
theorem wz(h1:0<=y.1/\y.1<32)(h2:0<=y.2/\y.2<32):y∈nE:=by
 unfold nE;refine uw.mpr ⟨y.1.toNat,dM.mpr (by lia),a8.mpr ⟨y.2.toNat,dM.mpr (by lia),jg ?_ ?_⟩⟩
 .show ((y.1.toNat:Nat):Int)=y.1;lia
 .show ((y.2.toNat:Nat):Int)=y.2;lia
theorem i5:∀ {l:List α},(l.map f).Nodup->∀x∈l,∀y∈l,f x=f y->x=y
 |[],_,_,h,_,_,_=>by cases h
 |a::l,h,x,hx,y,hy,e=>by
  rw[fN] at h;obtain⟨h1,h2⟩:=gv.mp h;rcases a_.mp hx with z|z <;> rcases a_.mp hy with z'|z'
  .rw[z,z']
  .exact absurd (a8.mpr ⟨y,z',by rw[<-e,z]⟩) h1
  .exact absurd (a8.mpr ⟨x,z,by rw[e,z']⟩) h1
  .exact i5 h2 x z y z' e
theorem qK(hx:(0<=x.1/\x.1<32)/\(0<=x.2/\x.2<32))(hy:(0<=y.1/\y.1<32)/\(0<=y.2/\y.2<32))(e:cZ P w x=cZ P w y):x=y:=
 i5 (rZ _ _ (xD P w)).1 x (wz hx.1 hx.2) y (wz hy.1 hy.2) (congrArg EC e)
theorem lc:∀ {l:List α},l.Nodup->(∀x∈l,∀y∈l,f x=f y->x=y)->(l.map f).Nodup
 |[],_,_=>uE
 |a::l,h,hf=>by
  obtain⟨h1,h2⟩:=gv.mp h;rw[fN];refine gv.mpr ⟨fun z=>?_,lc h2 fun x hx y hy=>hf x (bD _ hx) y (bD _ hy)⟩;obtain⟨y,hy,e⟩:=a8.mp z;have:=hf y (bD _ hy) a b9 e;exact h1 (this ▸ hy)
theorem r_{P:Program}{w:World}(led:Bool){ys:List (Int×Int)}(nd:ys.Nodup)(hr:∀y∈ys,(0<=y.1/\y.1<32)/\(0<=y.2/\y.2<32))(hl:ys.length<=300):
  ∃hs t,qI led (ys.map (cZ P w))=some (hs,t)/\hs.size=ys.length:=by
 obtain⟨hs,t,e,z⟩:=xC led (lc nd fun x hx y hy e=>qK (P:=P) (w:=w) (hr x hx) (hr y hy) e) (by rw[bJ];exact hl);exact⟨hs,t,e,by rw[z,bJ]⟩
theorem wA:∀ {as:List Addr} {its:List Value},aL (as.map V.ref) its->its=as.map Value.ref
 |[],_,r=>by cases r;rfl
 |a::as,_,r=>by
  cases r with
  |cons r rr=>
   obtain rfl:=(show _=Value.ref a from r)
   rw[wA rr];rfl
def CD(D:Addr)(n:Nat):HO:=.ext fun h=>∃hs t,ig h D hs t/\hs.size=n
section
variable {X:Cx}
def JC(K:PySem.W.Frag):List V->Hp->VK->Prop:=fun xs H Q=>∃ (l:Addr) (as:List Addr) (ys:List (Int×Int)),xs=[.ref l]/\bg K H l (as.map V.ref)/\as.length=ys.length/\
 (∀i,i<ys.length->zQ K H (as.getD i 0) (ys.getD i (0,0)))/\ys.Nodup/\(∀y∈ys,(0<=y.1/\y.1<32)/\(0<=y.2/\y.2<32))/\ys.length<=300/\∀D,H D=none->Q (.ref D) (upd H D (CD D ys.length))
theorem xE(hc:X.calm=true)(hu:X.A.units+8<cLine):eT X (.type "set") (JC X.K):=by
 intro ae s σ H xs us Q I r h;obtain⟨l,as,ys,rfl,hl,dt,hp,nd,rg,h3,q⟩:=h;obtain⟨u1,rfl,r1⟩:=r.one;obtain rfl:u1=Value.ref l:=r1;obtain⟨its,rv,pl,hz⟩:=I.list hl;have e:=wA rv;subst e;have Ta:gc s.heap (as.map Value.ref) ys:=⟨by rw[bJ,dt],fun i v hv=>by
  rw[bQ] at hv;cases ea:as[i]? with
  |none=>rw[ea] at hv;cases hv
  |some a=>
   rw[ea] at hv;obtain rfl:Value.ref a=v:=bA hv;have hi:i<as.length:=(cC.mp ea).1;obtain⟨o,n,t,u,e1,c,d⟩:=vg I (hp i (by lia));have eg:as.getD i 0=a:=by rw[dL,ea];rfl
   rw[eg] at e1;exact⟨a,o,n,t,u,rfl,e1,c,d⟩⟩
 have xz:∀led,∃q:Array Int×SetTable,qI led (ys.map (cZ X.prog X.w))=some q/\q.1.size=ys.length:=fun led=>
  let ⟨hs,t,e,z⟩:=r_ (P:=X.prog) (w:=X.w) led nd rg h3;⟨(hs,t),e,z⟩
 refine zU (I.ok.hd hc) hu pl.isList Ta (hsN:=fun led=>(xz led).choose.1) (tN:=fun led=>(xz led).choose.2) (fun led=>(xz led).choose_spec.1) fun led h' tk S' k=>?_;refine⟨.ref s.heap.objs.size,_,I.Eu (t':=tk) (o:=CD s.heap.objs.size ys.length) (fun b u e=>k b u (a9 e) e) (ul (aK _)) ⟨⟨_,_,S',(xz led).choose_spec.2⟩,?_,fun h1 h2 ⟨hs,t,⟨o,es,ep,q1,q2⟩,z⟩ kk=>⟨hs,t,⟨o,es,ep,kk o q1,q2⟩,z⟩⟩,rfl,q _ I.fresh⟩;obtain⟨o,_,_,q1,_⟩:=S';exact⟨o,q1⟩
theorem se:eT X (.builtin "len") (fun xs H Q=>∃D n,xs=[.ref D]/\H D=some (CD D n)/\n<=4096/\Q (.int n) H):=by
 intro ae s σ H xs us Q I r h;obtain⟨D,n,rfl,e,hn,q⟩:=h;obtain⟨u1,rfl,r1⟩:=r.one;obtain rfl:u1=Value.ref D:=r1;obtain⟨⟨hs,t,⟨o,es,ep,q1,q2,q3,q4,q5,q6⟩,z⟩,_⟩:=(show b8 X.prog X.w H s.heap D (CD D n) from I.be D _ e)
 have j_:es.size=n:=by rw[<-z,<-q5,jG]
 exact call_len_set q1 ⟨q2,q3.1,q3.2⟩ q4 q6 (by rw[j_];lia) ⟨.int n,H,I.tok _,⟨_,by rw[j_]⟩,q⟩
end
def jV(e:V->V->Bool):List V->List V->Bool
 |[],[]=>true
 |x::xs,y::ys=>e x y&&jV e xs ys
 |_,_=>false
theorem lC:∀ {xs ys:List V},xs.length=ys.length->jV e xs ys=(List.range xs.length).all fun i=>e (xs.getD i .bt) (ys.getD i .bt)
 |[],[],_=>rfl
 |x::xs,y::ys,h=>by
  have h':xs.length=ys.length:=by simpa using h
  rw[jV,lC h',cI,p9,uH,List.all_map];rfl
 |[],_::_,h=>by simp at h
 |_::_,[],h=>by simp at h
theorem pE:∀ {xs ys:List V},xs.length≠ys.length->jV e xs ys=false
 |[],[],h=>absurd rfl h
 |x::xs,y::ys,h=>by
  have h':xs.length≠ys.length:=fun z=>h (by simp[z]);rw[jV,pE h',Bool.and_false]
 |[],_::_,_=>rfl
 |_::_,[],_=>rfl
section
variable {X:Cx}
def JD(X:Cx)(H:Hp)(e:V->V->Bool)(x y:V):Prop:=∀ (ae:List (Addr×Obj)) (s:Shared) (σ:St) (A:Around) (u v:Value),aA X ae σ H s->A.units+1<cLine->aX x u->aX y v->SeqAt.EqAt A s u v (e x y)
def NL(X:Cx)(neg:Bool)(e:V->V->Bool):R2:=fun x y H Q=>∃p q xs ys,x=.ref p/\y=.ref q/\bg X.K H p xs/\bg X.K H q ys/\(∀i,i<xs.length->i<ys.length->JD X H e (xs.getD i .bt) (ys.getD i .bt))/\Q (.bl (if neg then !jV e xs ys else jV e xs ys)) H
theorem z5(I:aA X ae σ H s)(hu:A.units+1<cLine)(rx:aL xs us)(ry:aL ys vs)(he:∀i,i<xs.length->i<ys.length->JD X H e (xs.getD i .bt) (ys.getD i .bt)):∀j (h1:j<us.toArray.size) (h2:j<vs.toArray.size),SeqAt.EqAt A s us.toArray[j] vs.toArray[j] (e (xs.getD j .bt) (ys.getD j .bt)):=by
 intro j h1 h2;have j1:j<xs.length:=by rw[rx.length];simpa using h1
 have j2:j<ys.length:=by rw[ry.length];simpa using h2
 have e1:xs[j]?=some (xs.getD j .bt):=by rw[dL,cV j1];rfl
 have e2:ys[j]?=some (ys.getD j .bt):=by rw[dL,cV j2];rfl
 obtain⟨u,NM,ru⟩:=rx.get e1;obtain⟨v,JE,rv⟩:=ry.get e2;have eu:us.toArray[j]=u:=by
  have:us[j]?=some us.toArray[j]:=by simp at h1 |-
  rw[NM] at this;exact(bA this).symm
 have ev:vs.toArray[j]=v:=by
  have:vs[j]?=some vs.toArray[j]:=by simp at h2 |-
  rw[JE] at this;exact(bA this).symm
 rw[eu,ev];exact he j j1 j2 ae s σ A u v I hu ru rv
theorem FW{e:V->V->Bool}(hu:X.A.units+2<cLine):iQ X (compareOp .NotEq) (NL X true e):=by
 intro ae s σ H x y v u Q I rx ry h;obtain⟨p,q,xs,ys,rfl,rfl,hp,hq,he,k⟩:=h;obtain rfl:v=Value.ref p:=rx;obtain rfl:u=Value.ref q:=ry;obtain⟨us,r1,p1,_⟩:=I.list hp;obtain⟨vs,r2,p2,_⟩:=I.list hq;by_cases hl:xs.length=ys.length
 .refine SeqAt.RcNeAt.lists (e:=fun i=>e (xs.getD i .bt) (ys.getD i .bt)) p1.isList p2.isList (by simp only[ce];rw[<-r1.length,<-r2.length];exact hl) (by lia) (z5 I (by show X.A.units+1+1<cLine;lia) r1 r2 he) _ _ _ _ ⟨.bl _,H,I,rfl,?_⟩;rw[show us.toArray.size=xs.length by rw[ce,r1.length],<-lC hl];exact k
 .refine SeqAt.RcNeAt.lists_lengths p1.isList p2.isList (by simp only[ce];rw[<-r1.length,<-r2.length];simpa using hl) (by lia) _ _ _ _ ⟨.bl _,H,I,rfl,?_⟩;have k':=k;rw[pE hl] at k';exact k'
theorem xF(hc:X.calm=true):eT X (.builtin "any") (fun xs H Q=>∃ (p:Addr) (bs:List Bool),xs=[.ref p]/\bg X.K H p (bs.map V.bl)/\Q (.bl (bs.any id)) H):=by
 intro ae s σ H xs us Q I r h;obtain⟨p,bs,rfl,hp,q⟩:=h;obtain⟨u1,rfl,r1⟩:=r.one;obtain rfl:u1=Value.ref p:=r1;obtain⟨its,rv,pl,hz⟩:=I.list hp;have FX:its=bs.map Value.bool:=by
  have go:∀ (bs:List Bool) (its:List Value),aL (bs.map V.bl) its->its=bs.map Value.bool:=by
   intro bs;induction bs with
   |nil=>intro its r;cases r;rfl
   |cons b bs ih=>
    intro its r;cases r with
    |cons r rr=>
     obtain rfl:=(show _=Value.bool b from r)
     rw[ih _ rr];rfl
  exact go bs its rv
 subst FX;obtain⟨ob,Tb,_⟩:=id pl.isList;have eE:p<s.heap.objs.size:=a9 Tb;refine call_any_walk (uB pl.isList ⟨s.heap.objs.size,_,_,_,_,_,fun i=>bs.getD i false,rfl,Walks.list (show X.A.in1.handled=none from I.ok.hd hc) _ p (aT eE) _,⟨⟨_,b_ _ rfl,rfl,rfl⟩,pl.isList.push _⟩,fun i v s1 Q' E' hv hq=>?_,fun h' tk k=>?_⟩)
 .have Fv:(bs.map Value.bool)[i]?=some v:=by simpa using hv
  rw[bQ] at Fv;cases eb:bs[i]? with
  |none=>rw[eb] at Fv;cases Fv
  |some b=>
   rw[eb] at Fv;obtain rfl:Value.bool b=v:=bA Fv;have:bs.getD i false=b:=by rw[dL,eb];rfl
   have Fy:Q' b s1:=by rw[<-this];exact hq
   exact wpAny_pure Fy
 .have keep:∀b o,s.heap.get? b=some o->h'.get? b=some o:=fun b o e=>k b o (by simpa using aT (a9 e)) (bf _ e);refine⟨.bl (bs.any id),H,I.kept (t':=tk) keep,?_,q⟩;show Value.bool _=Value.bool _;congr 1;have go:∀ (bs:List Bool),((List.range bs.length).any fun i=>bs.getD i false)=bs.any id:=by
   intro bs;induction bs with
   |nil=>rfl
   |cons b bs ih=>
    rw[cI,p9,ql,List.any_map,ql,<-ih];rfl
  rw[<-go bs];simp
end
def pF(c:Addr)(qual:Str):HO:=.ext fun h=>h.CodeRec (.ref c) qual
theorem z6(x:h.CodeRec (.ref c) qual):b8 P w H h c (pF c qual):=by
 refine⟨x,?_,?_⟩
 .obtain⟨c',o,vs,t,e,ho,_⟩:=x;cases e;exact⟨o,ho⟩
 .rintro h1 h2 ⟨c',o,vs,t,e,ho,r⟩ k;cases e;exact⟨c,o,vs,t,rfl,k o ho,r⟩
def ED(f:Addr)(qual:Str)(params:Arguments)(body:Expr)(scope:Scope)(cells:List (Str×Addr))(c:Addr)(h:Heap):Prop:=
 ∃ (ii:List (Str×Addr)) (pm wB:Value),(∀x a,ii.lookup x=some a->cells.lookup x=some a)/\(∀x,(x,NameKind.free)∈scope.names->∃a,ii.lookup x=some a)/\
  h.get? f=some (PySem.W.kla_obj "<lambda>" qual params body scope ii pm c wB)
def vq(f:Addr)(qual:Str)(params:Arguments)(body:Expr)(scope:Scope)(cells:List (Str×Addr))(c:Addr):HO:=.ext (ED f qual params body scope cells c)
theorem wC(x:ED f qual params body scope cells c h):
  b8 P w H h f (vq f qual params body scope cells c):=by
 refine⟨x,?_,?_⟩
 .obtain⟨_,_,_,_,_,e⟩:=x;exact⟨_,e⟩
 .rintro h1 h2 ⟨ii,pm,wB,a,b,e⟩ k;exact⟨ii,pm,wB,a,b,k _ e⟩
def jW(lp:Pos)(qual:Str)(P:Addr)(H:Hp):Prop:=H P=some (.mV #[])\/∃c,H P=some (.mV #[rawInt lp.line,rawInt lp.col,.ref c])/\H c=some (pF c qual)
structure CF(X:Cx)(c P:Addr):Prop where
 code:X.env.code=.ref c
 hd:PySem.W.CodeHd X.base c P
 bm:∃bm o,X.mg "__builtins__"=some (.ref bm)/\bm≠builtinsNs/\bm≠mainGlobals/\X.base.get? bm=some o/\o.cls=.type "module"/\o.dict=some builtinsNs/\o.data=.plain
def NN(lp:Pos)(qual:Str)(P:Addr)(params:Arguments)(body:Expr)(scope:Scope)(cells:List (Str×Addr)):TE:=fun _ H Q=>jW lp qual P H/\
 ∀ (f c:Addr) (H2:Hp),jW lp qual P H2->(∀b o,H b=some o->b≠P->H2 b=some o)->H2 c=some (pF c qual)->H2 f=some (vq f qual params body scope cells c)->Q (.ref f) H2
theorem sf{lp:Pos}{c:Addr}:TriplesOk (#[rawInt lp.line,rawInt lp.col,.ref c]:Array Value).toList:=trivial
theorem xG:codeAmong lp (#[rawInt lp.line,rawInt lp.col,.ref c]:Array Value).toList=some (.ref c):=by
 show (if ((lp.line:Int)==(lp.line:Int)&&(lp.col:Int)==(lp.col:Int))=true then some (Value.ref c) else _)=_;simp
section
variable {X:Cx} {c P:Addr} {params:Arguments} {body:Expr} {scope:Scope} {lp:Pos} {NB:List Str} {src:List (Option Nat)}
theorem CF.at(C:CF X c P)(I:aA X ae σ H s)(hP:H P=some (.mV ps)):s.heap.BuiltinsAt X.mg P:=by
 obtain⟨bm,o,b1,b2,b3,b4,b5,b6,b7⟩:=C.bm;refine⟨bm,o,b1,b2,b3,fun z=>?_,I.bk _ _ b4,b5,b6,b7⟩;have:=(I.bs _ _ b4).2;rw[z,hP] at this;cases this
theorem aA.EE(I:aA X ae σ H s):s.heap.Ns mainGlobals X.mg:=I.mod.glob.keeps I.bk
theorem FY(C:CF X c P)(S:dO NB src scope X)(NO:defaultsOf params X.env=([],[]):=by rfl):PE X (.Lambda params body scope lp) (NN lp (X.env.qual++"<lambda>") P params body scope X.env.cells):=by
 intro ae s σ H Q I h;obtain⟨Tc,h⟩:=h;obtain⟨ii,Q4,c1,c2⟩:=f_ I.ok S;refine PySem.W.kla_eval NO ?_;have j_:∀b o,s.heap.get? b=some o->b<s.heap.objs.size:=fun b o e=>a9 e;rcases Tc with hP|⟨c',hP,Fg⟩
 .-- Td first time
  have JF:s.heap.get? P=some (PySem.W.tabObj #[]):=I.be P _ hP;have Tf:X.env.locals≠P:=fun z=>by have f:=I.free;rw[z,hP] at f;cases f
  have Tg:mainGlobals≠P:=fun z=>by
   obtain⟨o,es,ep,e,d,_⟩:=I.mod.glob;have:=(I.bs _ _ e).2;rw[z,hP] at this;cases this
  refine PySem.W.kla_makeFunction (mg:=X.mg) Q4 I.ok.glob I.EE C.code (C.hd.keeps I.bk) JF (by trivial) rfl Tg (C.at I hP) fun c' wB h' tk hx CG eE NP Q5=>?_;have CH:∀b o,b≠P->s.heap.get? b=some o->(h'.push (PySem.W.kla_obj "<lambda>" (X.env.qual++"<lambda>") params body scope ii ((X.mg "__name__").getD .none) c' wB)).get? b=some o:=fun b o hb e=>bf _ (hx b o hb e);have Th:c'≠P:=fQ (bp (j_ _ _ JF) CG);have Ti:h'.objs.size≠P:=fQ (bp (j_ _ _ JF) (bb CG (fR eE)));have Tj:h'.objs.size≠c':=fQ eE;have nf:H h'.objs.size=none:=I.be.fresh (by lia);have nc:H c'=none:=I.be.fresh CG
  let H2:Hp:=upd (upd (upd H P (.mV #[rawInt lp.line,rawInt lp.col,.ref c'])) c' (pF c' (X.env.qual++"<lambda>"))) h'.objs.size (vq h'.objs.size (X.env.qual++"<lambda>") params body scope X.env.cells c')
  have eP:H2 P=some (.mV #[rawInt lp.line,rawInt lp.col,.ref c']):=by
   show upd _ _ _ _=_;rw[ap Ti.symm,ap Th.symm,ag]
  have ec:H2 c'=some (pF c' (X.env.qual++"<lambda>")):=by
   show upd _ _ _ _=_;rw[ap Tj.symm,ag]
  have ef:H2 h'.objs.size=some (vq h'.objs.size (X.env.qual++"<lambda>") params body scope X.env.cells c'):=ag;have eo:∀b,b≠P->b≠c'->b≠h'.objs.size->H2 b=H b:=fun b h1 h2 h3=>by
   show upd _ _ _ _=_;rw[ap h3,ap h2,ap h1]
  have mU:∀b o,H b=some o->b≠P->H2 b=some o:=fun b o e hb=>by
   rw[eo b hb (aq e nc) (aq e nf)];exact e
  have I2:aA X ae σ H2 { s with heap:=h'.push (PySem.W.kla_obj "<lambda>" (X.env.qual++"<lambda>") params body scope ii ((X.mg "__name__").getD .none) c' wB),toks:=tk }:=by
   refine I.step (g':=s.gens) (d':=s.drawn) (ch:=[]) (fun _ z=>absurd z (by simp)) (fun b o _ _ _ e n=>CH b o (fun z=>by rw[z,hP] at n;cases n) e) (fun b o _ _ _ e n=>⟨o.slots,CH b o (fun z=>by rw[z,hP] at n;cases n) e⟩)
    (fun b o _ e n=>?_) (fun b o _ e=>?_) (fun b xs e=>mU b _ e fun z=>by rw[z,hP] at e;cases e) (fun b o u e=>mU b _ e fun z=>by rw[z,hP] at e;cases e) (fun b ps e=>?_) (fun m hm=>?_) (fun b o e=>?_) I.bare
   .rw[eo b (fun z=>by rw[z,hP] at n;cases n) (aT (bp (j_ b o e) CG)) (aT (bp (j_ b o e) (bb CG (fR eE))))];exact n
   .by_cases hb:b=P
    .exact⟨_,by rw[hb];exact bf _ Q5⟩
    .exact⟨o,CH b o hb e⟩
   .by_cases hb:b=P
    .rw[hb] at e |-;rw[hP] at e;cases e;exact⟨#[rawInt lp.line,rawInt lp.col,.ref c'],by rw[eP];simp⟩
    .exact⟨#[],by rw[mU b _ e hb];simp⟩
   .exact(hm.extBut hx Tf).push _
   .by_cases Q6:b=h'.objs.size
    .subst Q6;rw[ef] at e;cases e;exact wC ⟨ii,_,wB,c1,c2,b_ _ rfl⟩
    .by_cases Nw:b=c'
     .subst Nw;rw[ec] at e;cases e;refine z6 ?_;obtain⟨c₂,oc,vs,t,e2,HK,r⟩:=NP;exact⟨c₂,oc,vs,t,e2,bf _ HK,r⟩
     .by_cases NQ:b=P
      .subst NQ;rw[eP] at e;cases e;exact bf _ Q5
      .rw[eo b NQ Nw Q6] at e;refine(I.be b o e).kD (fun d u hd q=>CH d u ?_ q) (fun d q=>mU d _ q fun z=>by rw[z,hP] at q;cases q) fun d xs q=>mU d _ q fun z=>by rw[z,hP] at q;cases q
       rintro rfl;rcases hd with z|z
       .exact NQ z.symm
       .rw[hP] at z;cases z
  exact⟨.ref h'.objs.size,H2,I2,rfl,h _ c' H2 (.inr ⟨c',eP,ec⟩) mU ec ef⟩
 .-- again
  have JF:s.heap.get? P=some (PySem.W.tabObj #[rawInt lp.line,rawInt lp.col,.ref c']):=I.be P _ hP;refine PySem.W.kla_makeFunctionHit (mg:=X.mg) Q4 I.ok.glob I.EE C.code (C.hd.keeps I.bk) JF sf xG (C.at I hP) fun wB h' tk hk CG=>?_;have nf:H h'.objs.size=none:=I.be.fresh CG
  let H2:Hp:=upd H h'.objs.size (vq h'.objs.size (X.env.qual++"<lambda>") params body scope X.env.cells c')
  have ef:H2 h'.objs.size=some (vq h'.objs.size (X.env.qual++"<lambda>") params body scope X.env.cells c'):=ag;have mU:∀b o,H b=some o->H2 b=some o:=fun b o e=>by
   show upd _ _ _ _=_;rw[ap (aq e nf)];exact e
  have CH:∀b o,s.heap.get? b=some o->(h'.push (PySem.W.kla_obj "<lambda>" (X.env.qual++"<lambda>") params body scope ii ((X.mg "__name__").getD .none) c' wB)).get? b=some o:=fun b o e=>bf _ (hk b o e);have I2:aA X ae σ H2 { s with heap:=h'.push (PySem.W.kla_obj "<lambda>" (X.env.qual++"<lambda>") params body scope ii ((X.mg "__name__").getD .none) c' wB),toks:=tk }:=by
   refine I.step (g':=s.gens) (d':=s.drawn) (ch:=[]) (fun _ z=>absurd z (by simp)) (fun b o _ _ _ e n=>CH b o e) (fun b o _ _ _ e n=>⟨o.slots,CH b o e⟩)
    (fun b o _ e n=>?_) (fun b o _ e=>⟨o,CH b o e⟩) (fun b xs e=>mU b _ e) (fun b o u e=>mU b _ e) (fun b ps e=>⟨#[],by rw[mU b _ e];simp⟩) (fun m hm=>(hm.keeps hk).push _) (I.be.laid CH CG (wC ⟨ii,_,wB,c1,c2,b_ _ rfl⟩)) I.bare
   .show upd _ _ _ _=_;rw[ap (aT (bp (j_ b o e) CG))];exact n
  exact⟨.ref h'.objs.size,H2,I2,rfl,h _ c' H2 (.inr ⟨c',mU _ _ hP,mU _ _ Fg⟩) (fun b o e _=>mU b o e) (mU _ _ Fg) ef⟩
end
def z7(X:Cx)(id:String)(ks:List Str)(r:St->List V->List V->Hp->VK->Prop):Prop:=
 ∀ (ae:List (Addr×Obj)) (s:Shared) (σ:St) (H:Hp) (vs zs:List V) (us ws:List Value) (Q:VK),aA X ae σ H s->aL vs us->aL zs ws->r σ vs zs H Q->
  wpAny (model X.prog X.w) X.A (call (.builtin id) us (ks.zip ws)) (EP X ae σ Q) X.xe s
def NR(r:St->List V->List V->Hp->VK->Prop)(t tk:TA):TE:=fun σ H Q=>t σ H fun vs H1=>tk σ H1 fun zs H2=>r σ vs zs H2 Q
section
variable {X:Cx} {x:Str} {p pos:Pos} {e:Expr} {es:List Expr} {zx:List Keyword} {t tk:TA} {id:String} {ks:List Str} {r:St->List V->List V->Hp->VK->Prop}
theorem xH(hc:z7 X id ks r)(hg:Gl X x)(hm:X.mg x=none)(hv:bootBuiltins x=some (.builtin id))(ha:PA X (e::es) t)(Tk:PK X zx tk)(hn:x≠"__name__":=by decide)(oC:(x==("__debug__":Str))=false:=by decide)(Tl:(backToKw pos (keywordEach zx X.env)).filterMap (·.1)=ks:=by rfl)(he:backTo pos (starEach (e::es) X.env)=(false,eval e X.env)::backTo pos (starEach es X.env):=by rfl)(va:(backTo pos (starEach (e::es) X.env)).any (·.1)=false:=by rfl)(rL:(backToKw pos (keywordEach zx X.env)).all (·.1.isSome)=true:=by rfl)(zC:(backToKw pos (keywordEach zx X.env)).any (·.1.isNone)=false:=by rfl):PE X (.Call (.Name x p) (e::es) zx pos) (NR r t tk):=by
 intro ae s σ H Q I h;refine kj (kI I hg hm hv ?_ hn oC);refine PyProof.Rows.callWith_kw (bC (ha pos ae s σ H _ I h) fun us s1 ⟨vs,H1,I1,r1,q1⟩=>?_) he va rL zC;refine bC (Tk pos ae s1 σ H1 _ I1 q1) fun ws s2 ⟨zs,H2,I2,rz,q2⟩=>?_;rw[Tl];exact hc ae s2 σ H2 vs zs us ws Q I2 r1 rz q2
end
def FZ(za zb:Int)(ns out:List Int):Prop:=∃ps:List (Int×Int),ps.Perm (ns.map fun z=>((z-za) % zb,z))/\out=ps.map (·.2)/\ps.Pairwise fun p q=>p.1<=q.1
def F0(X:Cx)(qual:Str)(params:Arguments)(body:Expr)(scope:Scope)(ia ib:Nat):St->List V->List V->Hp->VK->Prop:=fun σ vs zs H Q=>
 ∃ (l f c:Addr) (ns:List Int) (za zb:Int),vs=[.ref l]/\zs=[.ref f]/\bg X.K H l (ns.map V.int)/\ns.length<64/\H f=some (vq f qual params body scope X.env.cells c)/\H c=some (pF c qual)/\
  σ[ia]?=some (some (.int za))/\σ[ib]?=some (some (.int zb))/\0<zb/\∀ (r:Addr) (out:List Int),H r=none->FZ za zb ns out->Q (.ref r) (upd H r (.lst (out.map V.int)))
theorem pG:∀ {ns:List Int} {vs:List Value},aL (ns.map V.int) vs->IntsAre vs ns
 |[],_,.nil=>.nil
 |_::_,_,.cons ⟨t,e⟩ r=>by subst e;exact .cons _ t (pG r)
structure JG(X:Cx)(qual:Str)(params:Arguments)(body:Expr)(scope:Scope)(y a b:Str)(ia ib:Nat):Prop where
 bd:∃p1 p2 p3 p4 p5,body=.BinOp (.BinOp (.Name y p1) .Sub (.Name a p2) p3) .Mod (.Name b p4) p5
 bind:∀ii pm c wB v,bindArgs (PySem.W.kla_fn "<lambda>" qual params body scope ii pm (.ref c) wB) ⟨[v],[]⟩=pure [(y,v)]
 na:X.N[ia]?=some a
 nb:X.N[ib]?=some b
 ca:X.env.scope.names.lookup a=some .cell
 cb:X.env.scope.names.lookup b=some .cell
 ly:scope.names.lookup y=some .local
 fa:scope.names.lookup a=some .free
 fb:scope.names.lookup b=some .free
 ma:(a,NameKind.free)∈scope.names
 mb:(b,NameKind.free)∈scope.names
 F1:∀z∈scope.names,z.2≠.cell
 kind:scope.kind=.function
 co:scope.isCoroutine=false
 gen:scope.isGenerator=false
 dy:(y==("__debug__":Str))=false
 da:(a==("__debug__":Str))=false/\(a==("__classdict__":Str))=false
 db:(b==("__debug__":Str))=false/\(b==("__classdict__":Str))=false
theorem vt(S:JG X qual params body scope y a b ia ib)(hr:bh k X.A):
  z7 X "sorted" ["key"] (F0 X qual params body scope ia ib):=by
 intro ae s σ H vs zs us ws Q I r rz h;obtain⟨l,f,c,ns,za,zb,rfl,rfl,hl,Q7,hf,hc,sa,sb,VH,q⟩:=h;obtain⟨u1,rfl,r1⟩:=r.one;obtain rfl:u1=Value.ref l:=r1;obtain⟨w1,rfl,Tn⟩:=rz.one;obtain rfl:w1=Value.ref f:=Tn;obtain⟨its,rv,pl,hz⟩:=I.list hl;have hI:=pG rv;obtain⟨m,F⟩:=I.fr;obtain⟨p1,p2,p3,p4,p5,rfl⟩:=S.bd;obtain⟨ii,pm,wB,c1,c2,Jf⟩:=(I.be f _ hf).1;have Tp:s.heap.CodeRec (.ref c) qual:=(I.be c _ hc).1;obtain⟨m',HJ,Q8⟩:=I.loc;have JI:∃ca ta,ii.lookup a=some ca/\s.heap.IsCell ca (some (.int za ta)):=by
  obtain⟨u,⟨ta,rfl⟩,lk⟩:=Q8 ia a (.int za) S.na sa (.inr (.inl S.ca));obtain⟨ca,e1⟩:=c2 a S.ma;rcases lk with ⟨z,_⟩|⟨_,VI,e2,e3⟩
  .have z':X.env.scope.names.lookup a=some .local:=z;rw[S.ca] at z';cases z'
  .have e4:=c1 a ca e1;rw[e2] at e4;cases e4;exact⟨ca,ta,e1,e3⟩
 have JJ:∃cb tb,ii.lookup b=some cb/\s.heap.IsCell cb (some (.int zb tb)):=by
  obtain⟨u,⟨tb,rfl⟩,lk⟩:=Q8 ib b (.int zb) S.nb sb (.inr (.inl S.cb));obtain⟨cb,e1⟩:=c2 b S.mb;rcases lk with ⟨z,_⟩|⟨_,VJ,e2,e3⟩
  .have z':X.env.scope.names.lookup b=some .local:=z;rw[S.cb] at z';cases z'
  .have e4:=c1 b cb e1;rw[e2] at e4;cases e4;exact⟨cb,tb,e1,e3⟩
 obtain⟨ca,ta,ea,ha⟩:=JI;obtain⟨cb,tb,eb,hb⟩:=JJ;have L9:∀b' (o:Obj),s.heap.get? b'=some o->(∀es ep,o.data≠.dict es ep)->b'≠X.env.locals:=fun b' o e d z=>by
  obtain⟨o',es,ep,e',d',_⟩:=F.ns;rw[z,e'] at e;cases e;exact d _ _ d'
 have len:(ns.map fun z=>(z-za) % zb).length=its.length:=by rw[bJ,hI.length]
 refine ksk_sorted (b:=false) (f:=.ref f) (kz:=ns.map fun z=>(z-za) % zb) F yU pl.isList len (by rw[hI.length];exact Q7) (ksk_s1 _ _) (fun x=>ksk_l1 _ _) (fun x=>ksk_t1 _ _) ?_ ?_
 .-- one key
  intro i v k hv hk h tk own F' N';have at_:∀b' u,b'≠X.env.locals->s.heap.get? b'=some u->h.get? b'=some u:=fun b' u yz e=>by
   cases z:X.base.get? b' with
   |some o=>
    have:=I.bk b' o z;rw[e] at this;cases this;exact F'.keep b' _ z
   |none=>exact(N' (b',u) (iX _ (gZ yz z e))).1
  have NS:=at_ f _ (L9 f _ Jf (by intro es ep z;cases z)) Jf;have NU:h.CodeRec (.ref c) qual:=by
   obtain⟨c0,o,Tq,t0,e0,ho,hd,Tr⟩:=Tp;refine⟨c0,o,Tq,t0,e0,at_ _ _ (L9 _ _ ho (by rw[hd];intro es ep z;cases z)) ho,hd,Tr⟩
  have Je:h.IsCell ca (some (.int za ta)):=by
   obtain⟨o,ho,hd⟩:=ha;exact⟨o,at_ _ _ (L9 _ _ ho (by rw[hd];intro es ep z;cases z)) ho,hd⟩
  have wg:h.IsCell cb (some (.int zb tb)):=by
   obtain⟨o,ho,hd⟩:=hb;exact⟨o,at_ _ _ (L9 _ _ ho (by rw[hd];intro es ep z;cases z)) ho,hd⟩
  obtain⟨z,tz,rfl,rfl⟩:∃z tz,v=.int z tz/\k=(z-za) % zb:=by
   obtain⟨n,t,e⟩:=hI.all v (cD hv);refine⟨n,t,e,?_⟩;rw[bQ] at hk;have hn:=hI.nums;have e1:(its.map numOf)[i]?=some n:=by rw[bQ,hv,e];rfl
   rw[hn] at e1;rw[e1] at hk;exact(bA hk).symm
  have JK:X.A.in1.in1.depth<recursionLimit:=by
   have:=hr.dp;show X.A.depth<_;lia
  refine kB (PySem.W.kla_callFunE JK NS rfl S.co S.gen rfl NU ?_);rw[S.bind];refine wpAny_pure (wpAny_newFunctionEnv S.F1 (fun x hx=>by rw[gn.mp hx];exact S.ly) (fun h₁ vv Q9=>⟨((I.ok.mod.nolimit).keeps F'.keep).fresh _ Q9,?_⟩) S.kind);have JM:∀b o,h.get? b=some o->h₁.get? b=some o:=fun b o e=>Q9.extBut b o (aT (a9 e)) (bf _ e);have Tt:=Je.keeps JM;have Tv:=wg.keeps JM;refine PySem.W.kla_codeExpr ?_;refine wpAny_BinOp (wpAny_BinOp ?_);refine kC (ue S.kind S.ly vv (v:=.int z tz) (by simp) ?_) S.dy;refine kC (uq S.kind S.fa ea Tt ?_ S.da.2) S.da.1;refine sub_int ?_;refine kC (uq S.kind S.fb eb Tv ?_ S.db.2) S.db.1;refine mod_int' (by lia) ?_;rw[tG _ (by lia)];refine KskEnd.intro (news':=fV X.base s.heap X.env.locals++own) ⟨F'.ns.keeps JM,fun b o e=>JM b o (F'.keep b o e),F'.above⟩ (fun p hp=>⟨JM _ _ (N' p hp).1,(N' p hp).2⟩) fun p hp=>hp
 .-- Td list
  intro D h' tk out cc F' N' eE NW;have hD:=oF I N' eE;obtain⟨ps,hp,ho,hs⟩:=NW;have Co:∀p∈ps,∃n t,p.2=.int n t:=fun p HS=>by
   have:=hp.mem_iff.mp HS;exact hI.all _ (kq this).2
  have Tw:((ns.map fun z=>(z-za) % zb).zip its).map (fun p=>(p.1,numOf p.2))=ns.map fun z=>((z-za) % zb,z):=by
   have hn:=hI.nums;rw[<-hn];have go:∀ (l:List Value),((((l.map numOf).map fun z=>(z-za) % zb).zip l).map fun p=>(p.1,numOf p.2))=(l.map numOf).map fun z=>((z-za) % zb,z):=by
    intro l;induction l with
    |nil=>rfl
    |cons x l ih=>simp only[fN,List.zip_cons_cons,ih]
   exact go its
  have zI:aL ((ps.map fun p=>(p.1,numOf p.2)).map (fun p=>V.int p.2)) (ps.map Prod.snd):=by
   have go:∀ (l:List (Int×Value)),(∀p∈l,∃n t,p.2=.int n t)->aL ((l.map fun p=>(p.1,numOf p.2)).map (fun p=>V.int p.2)) (l.map Prod.snd):=by
    intro l;induction l with
    |nil=>intro _;exact .nil
    |cons x l ih=>
     intro hx;refine .cons ?_ (ih fun p hp=>hx p (bD _ hp));obtain⟨n,t,e⟩:=hx x b9;show ∃t,x.2=Value.int (numOf x.2) t;rw[e];exact⟨t,rfl⟩
   exact go ps Co
  have xI:FZ za zb ns ((ps.map fun p=>(p.1,numOf p.2)).map (·.2)):=by
   refine⟨ps.map fun p=>(p.1,numOf p.2),?_,rfl,?_⟩
   .rw[<-Tw];exact hp.map _
   .refine lu.mpr (hs.imp fun {p q} z=>?_);simpa using z
  have Tx:h'.get? D=some (seqObj "list" out cc):=(N' _ b9).1;have I2:aA X ae σ (upd H D (.lst (((ps.map fun p=>(p.1,numOf p.2)).map (·.2)).map V.int))) { s with heap:=h',toks:=tk }:=by
   refine I.Jw F F' (fun p hp=>N' p (bD _ hp)) hD ⟨?_,ps.map Prod.snd,cc,?_,?_⟩
   .have h1:=hp.length_eq;rw[List.length_zip,len,Nat.min_self] at h1;simp only[bJ];rw[h1,hI.length];exact bb (fR Q7) (by decide)
   .have ev:=zI;simp only[gw] at ev |-;exact ev
   .rw[Tx,<-ho]
  exact⟨.ref D,_,I2,rfl,q D _ (I.be.nB hD) xI⟩
def qL(mg:Str->Option Value)(base:Heap):Prop:=∃bm o,mg "__builtins__"=some (.ref bm)/\bm≠builtinsNs/\bm≠mainGlobals/\base.get? bm=some o/\o.cls=.type "module"/\o.dict=some builtinsNs/\o.data=.plain
def wD(ts:List Addr)(H:Hp):Prop:=(∀P∈ts,H P=some (.mV #[]))/\∀b,H b=none\/(b∈ts/\H b=some (.mV #[]))\/∃o xs,H b=some (.o3 o (.lst xs))
theorem xJ{P:Program}{w:World}{K:PySem.W.Frag}{mg mb:Str->Option Value}{CX:lX}{k:Nat}{fa a:Addr}{fd:FuncData}{x:Str}{sp:Sp}{s₁:Shared}{vs:List Value}{ns:List Int}{ts:List Addr}(KX:K.In s₁.heap)(vv:s₁.heap.Ns mainGlobals mg)(hb:s₁.heap.Ns builtinsNs mb)(Tz:∀x:Str,x≠"__name__"->mb x=bootBuiltins x)(NX:s₁.heap.NoLimit)(hg:s₁.gens=#[])(TC:qL mg s₁.heap)(JN:∀P∈ts,s₁.heap.get? P=some (PySem.W.tabObj #[]))(lx:∀P∈ts,∃c,PySem.W.codeHdIn K c P=true)(NY:∀P∈ts,K.lookup P=none)(ha:s₁.heap.get? a=some { cls:=.type "list",data:=.seq vs.toArray })(hi:IntsAre vs ns)(hl:ns.length<=sizeLine)(hr:bh k callerA)(F:∀base:Heap,K.In base->base.Ns mainGlobals mg->qL mg base->aU P w K mg base CX k fa fd [x] sp)(JO:∀ (s:Shared) (u:Value),BindsTo s fd ⟨[u],[]⟩ [(x,u)])(rJ:∀H:Hp,wD ts H->bg K H a (ns.map V.int)->sp [.ref a] H (fun v _=>v=.bl true) fun _ _ _=>False)(NZ:∀H e s',CX [] H s₁ (fun _ _ _=>False) e s'->False):
  codeAny (model P w) callerA (.call (.ref fa) ⟨[.ref a],[]⟩) (fun r s'=>r=.ok (.ret (.bool true))/\OldK s₁.heap s'.heap/\s'.os=s₁.os/\AllBare s'.gens) s₁:=by
 have rv:=pi hi;have N0:=hi.length;have Q_:a∉ts:=fun z=>by
  have:=JN a z;rw[ha] at this;cases this
 have JP:∀H:Hp,wD ts H->bg K H a (ns.map V.int)->jk P w H s₁.heap->(∀b,H b≠none->b=a\/b∈ts)->(H a≠none->K.lookup a=none)->
   codeAny (model P w) callerA (.call (.ref fa) ⟨[.ref a],[]⟩) (fun r s'=>r=.ok (.ret (.bool true))/\OldK s₁.heap s'.heap/\s'.os=s₁.os/\AllBare s'.gens) s₁:=by
  intro H hO hS be hA hK;have qM:∀ {b:Addr} {o:Obj},s₁.heap.get? b=some o->H b=none->(oz s₁.heap H).get? b=some o:=fun e n=>yT e n;have BB:∀ {b:Addr} {o:Obj},s₁.heap.get? b=some o->(∀v n,o.data≠.seq v n)->(∀v,o.data≠.fields v)->H b=none:=fun {b o} e d1 d2=>by
   cases q:H b with
   |none=>rfl
   |some u=>
    rcases hA b (by rw[q];simp) with e'|e'
    .subst e';rw[ha] at e;cases e;exact absurd rfl (d1 _ _)
    .rw[JN b e'] at e;cases e;exact absurd rfl (d2 _)
  have L_:∀ {b:Addr} {m:Str->Option Value},s₁.heap.Ns b m->(oz s₁.heap H).Ns b m:=fun {b m} ⟨o,es,ep,e,d,r⟩=>⟨o,es,ep,qM e (BB e (by rw[d];intro v n z;cases z) (by rw[d];intro v z;cases z)),d,r⟩
  have Ra:K.In (oz s₁.heap H):=fun b o e=>qM (KX b o e) (by
   cases q:H b with
   |none=>rfl
   |some u=>
    rcases hA b (by rw[q];simp) with e'|e'
    .subst e';rw[hK (by rw[q];simp)] at e;cases e
    .rw[NY b e'] at e;cases e)
  have hB:qL mg (oz s₁.heap H):=by
   obtain⟨bm,o,b1,b2,b3,b4,b5,b6,b7⟩:=TC;exact⟨bm,o,b1,b2,b3,qM b4 (BB b4 (by rw[b7];intro v n z;cases z) (by rw[b7];intro v z;cases z)),b5,b6,b7⟩
  have hM:Mod K mg (oz s₁.heap H):=⟨Ra,L_ vv,⟨mb,L_ hb,Tz⟩,let ⟨mc,h1,h2⟩:=NX;⟨mc,L_ h1,h2⟩⟩
  have e0:qy P w K mg (oz s₁.heap H) callerA [] s₁ H:=⟨rfl,hM,fun b o e=>BO e,qp (xf _ _),trivial,fun b hb=>absurd (show b∈([]:List Addr) from hb) (by simp),be,.of_eq hg⟩
  refine gT ((F _ Ra (L_ vv) hB).run callerA [] s₁ H ⟨[.ref a],[]⟩ [.ref a] [.ref a] _ _ hr e0 (JO s₁ (.ref a)) (.cons rfl .nil) (rJ H hO hS)) fun r s' h=>?_;cases r with
  |error e=>exact(NZ H e s' h).elim
  |ok fl=>
   cases fl with
   |next=>exact False.elim h
   |brk=>exact False.elim h
   |cont=>exact False.elim h
   |ret u=>
    obtain⟨v,H',os,bare,un,JQ,r',q⟩:=h;have q':v=.bl true:=q;subst q';obtain rfl:u=Value.bool true:=r';refine⟨rfl,⟨fun b o e=>?_,fun b o e=>un.there b o e (by simp)⟩,os,bare⟩;cases q:H b with
    |none=>exact .inl (un.keep b o e q (by intro z;exact absurd (show b∈([]:List Addr) from z) (by simp)) (by simp))
    |some u=>
     rcases hO.2 b with z|⟨zt,z⟩|⟨ob,xs,z⟩
     .rw[q] at z;cases z
     .obtain⟨more,z2⟩:=un.iP b _ z;have e1:=JN b zt;rw[e] at e1;cases e1;have e2:s'.heap.get? b=some { cls:=.none,data:=.fields (#[]++more) }:=JQ b _ z2;obtain⟨c,hc⟩:=lx b zt;obtain⟨oc,TF,_,_,_,_,_,_,_,g1,g2,g3,g4,_⟩:=PySem.W.codeHd_of_K KX hc;exact .inr (.inl ⟨⟨c,oc,TF,g1,g2,g3,g4⟩,rfl,#[],more,rfl,e2⟩)
     .have z2:=un.gY b ob _ z;obtain⟨e1,_⟩:=be b _ z;obtain⟨e2,_⟩:=JQ b _ z2;rw[e] at e1;cases e1;exact .inl e2
 have Rb:∀ (H:Hp),(∀P∈ts,H P=some (.mV #[]))->True:=fun _ _=>trivial
 classical
 cases hk:K.lookup a with
 |some o=>
  have e:=KX a o hk;rw[ha] at e;cases e;refine JP (fun b=>if b∈ts then some (.mV #[]) else none) ⟨fun P hP=>ak hP,fun b=>?_⟩ (.inr ⟨_,vs.toArray,_,hk,rfl,rfl,rfl,by rw[ce,N0];exact hl,by simpa using rv⟩) (fun b u z=>?_) (fun b z=>?_) fun z=>absurd (al Q_) z
  .by_cases hb:b∈ts
   .exact .inr (.inl ⟨hb,ak hb⟩)
   .exact .inl (al hb)
  .by_cases hb:b∈ts
   .have z':=(ak hb).symm.trans z;cases z';exact JN b hb
   .have z':=(al hb).symm.trans z;cases z'
  .by_cases hb:b∈ts
   .exact .inr hb
   .exact absurd (al hb) z
 |none=>
  refine JP (fun b=>if b=a then some (.o3 { cls:=.type "list",data:=.seq vs.toArray } (.lst (ns.map V.int))) else if b∈ts then some (.mV #[]) else none) ⟨fun P hP=>?_,fun b=>?_⟩ (.inl (.inr ⟨{ cls:=.type "list",data:=.seq vs.toArray },ak rfl⟩)) (fun b u z=>?_) (fun b z=>?_) fun _=>hk
  .have:P≠a:=fun z=>Q_ (z ▸ hP);show (if P=a then _ else if P∈ts then _ else _)=_;rw[al this,ak hP]
  .by_cases hb:b=a
   .exact .inr (.inr ⟨_,_,ak hb⟩)
   .by_cases ht:b∈ts
    .exact .inr (.inl ⟨ht,by show (if b=a then _ else if b∈ts then _ else _)=_;rw[al hb,ak ht]⟩)
    .exact .inl (by show (if b=a then _ else if b∈ts then _ else _)=_;rw[al hb,al ht])
  .by_cases hb:b=a
   .have z':=(ak hb).symm.trans z;cases z';subst hb;exact⟨ha,by rw[bJ];exact hl,vs,_,rv,ha⟩
   .have z1:(if b∈ts then some (HO.mV #[]) else none)=some u:=(al hb).symm.trans z;by_cases ht:b∈ts
    .rw[ak ht] at z1;cases z1;exact JN b ht
    .rw[al ht] at z1;cases z1
  .by_cases hb:b=a
   .exact .inl hb
   .by_cases ht:b∈ts
    .exact .inr ht
    .exact absurd (by show (if b=a then _ else if b∈ts then _ else _)=_;rw[al hb,al ht]) z
theorem z8{l:PySem.W.OpenLaw}{n k:Nat}{q:Program}{ph:List Str}{XP:(Str->Option Value)->Heap->Prop}{YP:World->Heap->Prop}{d:DefRec}{K:Params->PySem.W.Frag}{CX:World->lX}{sp:World->Sp}{x:Str}{ts:List Addr}(hn:l.most=some n)(HQ:n<=sizeLine)(Jc:d.params.defaults=[])(hr:bh k callerA)(hY:∀ (w:World) (h:Heap),YP w h->(K w.params).In h)(hT:∀ (w:World) (h:Heap),YP w h->∀P∈ts,h.get? P=some (PySem.W.tabObj #[]))(lx:∀ (w:World),∀P∈ts,∃c,PySem.W.codeHdIn (K w.params) c P=true)(NY:∀ (w:World),∀P∈ts,(K w.params).lookup P=none)(F:∀ (w:World) (mg:Str->Option Value) (fa:Addr) (h:Heap),(K w.params).In h->h.Ns mainGlobals mg->mg d.name=some (.ref fa)->
   ∃fd:FuncData,(∀ (s:Shared) (u:Value),BindsTo s fd ⟨[u],[]⟩ [(x,u)])/\
    ∀base:Heap,(K w.params).In base->base.Ns mainGlobals mg->qL mg base->aU l.prog w (K w.params) mg base (CX w) k fa fd [x] (sp w))(rJ:∀ (w:World) (H:Hp) (a:Addr) (ns:List Int),ns.length<=n->wD ts H->bg (K w.params) H a (ns.map V.int)->sp w [.ref a] H (fun v _=>v=.bl true) fun _ _ _=>False)(NZ:∀ (w:World) (H:Hp) (s:Shared) (e:Value) (s':Shared),CX w [] H s (fun _ _ _=>False) e s'->False):
  PySem.W.WalkO q ph XP YP l.row.toRowW d [] (fun f vs=>PySem.call f vs):=by
 refine QD.rM hn Jc fun w s₀ s₁ mg mb fa o pm cd iE a vs ns G Y ho hd TH Jd FH zJ dt hg=>?_;have KX:=hY w _ Y;obtain⟨fd,hb,hF⟩:=F w mg fa _ KX G.T.g Jd;have hB:qL mg s₁.heap:=by
  obtain⟨bm,ob,b1,b2,b3,b4,b5,b6⟩:=G.T.bmain;refine⟨bm,ob,b1,b2,fun z=>?_,b3,b4,b5,b6⟩;obtain⟨o',es,ep,e,Eg,_⟩:=G.T.g;rw[z,e] at b3;cases b3;rw[Eg] at b6;cases b6
 exact xJ KX G.T.g G.T.b G.T.builtins G.T.nolimit hg hB (hT w _ Y) (lx w) (NY w) FH zJ (bb dt HQ) hr hF hb (fun H hO hS=>rJ w H a ns dt hO hS) fun H e s'=>NZ w H s₁ e s'
structure vw(K:PySem.W.Frag)(x qual:Str)(st:Stmt)(f:Addr)(fd:FuncData)(c:Addr):Prop where
 ex:∃ (oc:Value) (od:Option Addr) (kV iE pm:Value) (an:Option Addr) (ct:Value) (pf:Array (Option Value)),
  fd=PySem.W.fnOf x qual (bV st) (aY st) (aj st) .none kV iE pm an (.ref c) ct/\K.lookup f=some ⟨oc,od,.func fd,pf⟩/\PySem.W.codeIn K (.ref c) qual=true
 kp:PySem.W.keepIn K (.ref f)=true
theorem vw.fun{K:PySem.W.Frag}{x qual:Str}{st:Stmt}{f:Addr}{fd:FuncData}{c:Addr}(F:vw K x qual st f fd c):dE K x qual st f fd:=by
 obtain⟨oc,od,kV,iE,pm,an,ct,pf,e,lk,lx⟩:=F.ex;exact⟨⟨oc,od,kV,iE,pm,an,_,ct,pf,e,lk,lx⟩,F.kp⟩
section
variable {P:Program} {w:World} {K:PySem.W.Frag} {mg:Str->Option Value} {base:Heap}
theorem vw.ok{x qual:Str}{st:Stmt}{f:Addr}{fd:FuncData}{c:Addr}{N ps:List Str}{k:Nat}{sp:Sp}(F:vw K x qual st f fd c)(S:aw N ps (aj st))(len:∀vs H Q E,sp vs H Q E->vs.length=ps.length)(hX:∀ (A:Around) (outer:List Env) (s:Shared) (H:Hp) (vs:List V) (Q:VK) (E:XK),bh k (A.deeper (envOfC qual (aj st) s.heap.objs.size f (.ref c)))->sp vs H Q E->
   ∃t,om (fu aZ P w K mg base N qual (aj st) f (.ref c) A outer s H E).By (aY st) t/\t { nx:=fun _ H'=>Q .bt H',rt:=Q } (start N vs) H):aU P w K mg base aZ (k+1) f fd ps sp:=by
 obtain⟨oc,od,kV,iE,pm,an,ct,pf,rfl,lk,lx⟩:=F.ex;refine zz lk lx S len fun A outer s H vs Q E hr rJ=>?_;obtain⟨t,h,q⟩:=hX A outer s H vs Q E hr rJ;exact⟨t,h.By,q⟩
theorem CI{x qual:Str}{st:Stmt}{f c:Addr}{oc:Value}{od an:Option Addr}{pf:Array (Option Value)}{kV iE pm ct:Value}(l:K.lookup f=some ⟨oc,od,.func (PySem.W.fnOf x qual (bV st) (aY st) (aj st) .none kV iE pm an (.ref c) ct),pf⟩)(lx:PySem.W.codeIn K (.ref c) qual=true)(kp:PySem.W.keepIn K (.ref f)=true):vw K x qual st f (PySem.W.fnOf x qual (bV st) (aY st) (aj st) .none kV iE pm an (.ref c) ct) c:=⟨⟨oc,od,kV,iE,pm,an,ct,pf,rfl,l,lx⟩,kp⟩
theorem CJ(kb:K.In base)(hb:qL mg base)(hc:PySem.W.codeHdIn K c P'=true):
  CF (fu CX P w K mg base N qual scope f (.ref c) A outer s H E).By c P':=⟨rfl,PySem.W.codeHd_of_K kb hc,hb⟩
end
def l6(sc N2:Scope)(y:Str×NameKind):Bool:=match y.2 with
 |.cell=>(match sc.names.lookup y.1 with|some .cell=>true|_=>false)
 |.local=>(match sc.names.lookup y.1 with|some .local=>true|_=>false)
 |.free=>(match N2.names.lookup y.1 with|some .cell=>true|some .free=>true|_=>false)
 |_=>true
def z9(NB:List Str)(src:List (Option Nat))(sc:Scope)(N:List Str)(i:Nat):Bool:=match NB[i]?,src[i]? with
 |some x,some (some j)=>(N[j]?==some x)&&(match sc.names.lookup x with|some .free=>true|_=>false)
 |_,_=>true
def wE(sc:Scope):Bool:=match sc.kind with|.function=>true|_=>false
def z_(NB:List Str)(src:List (Option Nat))(sc N2:Scope)(N:List Str):Bool:=
 wE sc&&decide NB.Nodup&&(src.length==NB.length)&&(sc.names.all (l6 sc N2))&&(List.range NB.length).all (z9 NB src sc N)
theorem d8(h:z_ NB src sc X.env.scope X.N=true):dO NB src sc X:=by
 unfold z_ at h;simp only[gu,mE,eH,jF] at h;obtain⟨⟨⟨⟨h1,h2⟩,h3⟩,h4⟩,h5⟩:=h;refine⟨?_,h2,h3,fun y hy z=>?_,fun y hy z=>?_,fun y hy z=>?_,fun i x j e1 e2=>?_⟩
 .unfold wE at h1;split at h1
  .assumption
  .cases h1
 .have:=h4 y hy;obtain⟨n,k⟩:=y;obtain rfl:k=.cell:=z;dsimp only[l6] at this |-;split at this
  .assumption
  .cases this
 .have:=h4 y hy;obtain⟨n,k⟩:=y;obtain rfl:k=.local:=z;dsimp only[l6] at this |-;split at this
  .assumption
  .cases this
 .have:=h4 y hy;obtain⟨n,k⟩:=y;obtain rfl:k=.free:=z;dsimp only[l6] at this |-;split at this
  .exact .inl (by assumption)
  .exact .inr (by assumption)
  .cases this
 .have hi:i<NB.length:=(cC.mp e1).1;have:=h5 i (dM.mpr hi);unfold z9 at this;rw[e1,e2] at this;simp only[gu,eH] at this;refine⟨this.1,?_⟩;have t2:=this.2;split at t2
  .assumption
  .cases t2
theorem fw{K:PySem.W.Frag}{a D:Addr}{xs:List V}{g:TG}{tt:TT}{te:TE}{cN:Hp->Prop}{σB:St}{H0:Hp}(Pv:Nat->List V->St->Hp->Prop)(h0:Pv 0 [] σB H0)(hl:∀i ys σ H,i<=xs.length->Pv i ys σ H->bg K H a xs)(hs:∀i x ys σ H (Kt:V->St->Hp->Prop) (Kf:St->Hp->Prop),xs[i]?=some x->Pv i ys σ H->
   (∀v σ2 H4,H4 D=some (.lst ys)->ys.length<sizeLine->Pv (i+1) (ys++[v]) σ2 (upd H4 D (.lst (ys++[v])))->Kt v σ2 H4)->(∀σ2 H3,Pv (i+1) ys σ2 H3->Kf σ2 H3)->
   g x σ H fun σ2 H2=>tt σ2 H2 fun b H3=>if b=true then te σ2 H3 fun v H4=>Kt v σ2 H4 else Kf σ2 H3)(hd:∀ys σ H,Pv xs.length ys σ H->cN H):jR (BZ K a) g tt te D cN σB H0:=by
 refine⟨fun i m σ H=>m=xs.length-i/\i<=xs.length/\∃ys,Pv i ys σ H,⟨xs.length,by simp,cK _,[],h0⟩,?_⟩;rintro i m σ H ⟨rfl,hi,ys,p⟩;have q:=hl i ys σ H hi p;by_cases eE:i<xs.length
 .refine .inr ⟨⟨xs,xs[i],q,by simp[eE]⟩,?_⟩;rintro x H' ⟨rfl,y⟩;exact hs i x ys σ _ (fun v σ2 H4=>∃ys,H4 D=some (.lst ys)/\ys.length<sizeLine/\∃m',m'<xs.length-i/\m'=xs.length-(i+1)/\i+1<=xs.length/\∃sg,Pv (i+1) sg σ2 (upd H4 D (.lst (ys++[v]))))
   (fun σ2 H3=>∃m',m'<xs.length-i/\m'=xs.length-(i+1)/\i+1<=xs.length/\∃sg,Pv (i+1) sg σ2 H3) (y xs q) p
   (fun v σ2 H4 z1 z2 z3=>⟨ys,z1,z2,_,by lia,rfl,eE,_,z3⟩) (fun σ2 H3 z=>⟨_,by lia,rfl,eE,_,z⟩)
 .have e:i=xs.length:=by lia
  subst e;exact .inl ⟨⟨xs,q,aK _⟩,hd ys σ H p⟩
theorem ge{lo:Int}{n:Nat}{D:Addr}{g:TG}{tt:TT}{te:TE}{cN:Hp->Prop}{σB:St}{H0:Hp}(Pv:Nat->List V->St->Hp->Prop)(h0:Pv 0 [] σB H0)(hs:∀i ys σ H (Kt:V->St->Hp->Prop) (Kf:St->Hp->Prop),i<n->Pv i ys σ H->
   (∀v σ2 H4,H4 D=some (.lst ys)->ys.length<sizeLine->Pv (i+1) (ys++[v]) σ2 (upd H4 D (.lst (ys++[v])))->Kt v σ2 H4)->(∀σ2 H3,Pv (i+1) ys σ2 H3->Kf σ2 H3)->
   g (.int (lo+i)) σ H fun σ2 H2=>tt σ2 H2 fun b H3=>if b=true then te σ2 H3 fun v H4=>Kt v σ2 H4 else Kf σ2 H3)(hd:∀ys σ H,Pv n ys σ H->cN H):jR (Bz lo n) g tt te D cN σB H0:=by
 refine⟨fun i m σ H=>m=n-i/\i<=n/\∃ys,Pv i ys σ H,⟨n,by simp,cK _,[],h0⟩,?_⟩;rintro i m σ H ⟨rfl,hi,ys,p⟩;by_cases eE:i<n
 .refine .inr ⟨eE,?_⟩;rintro x H' ⟨rfl,rfl⟩;exact hs i ys σ _ (fun v σ2 H4=>∃ys,H4 D=some (.lst ys)/\ys.length<sizeLine/\∃m',m'<n-i/\m'=n-(i+1)/\i+1<=n/\∃sg,Pv (i+1) sg σ2 (upd H4 D (.lst (ys++[v]))))
   (fun σ2 H3=>∃m',m'<n-i/\m'=n-(i+1)/\i+1<=n/\∃sg,Pv (i+1) sg σ2 H3) eE p
   (fun v σ2 H4 z1 z2 z3=>⟨ys,z1,z2,_,by lia,rfl,eE,_,z3⟩) (fun σ2 H3 z=>⟨_,by lia,rfl,eE,_,z⟩)
 .have e:i=n:=by lia
  subst e;exact .inl ⟨aK _,hd ys σ H p⟩
section
variable {κ:Type} [DecidableEq κ]
end
section
variable {P:Program} {w:World} {H:Hp} {h:Heap} {a:Addr}
end
section
variable {X:Cx} {ae:List (Addr×Obj)} {σ:St} {H:Hp} {s:Shared} {a:Addr} {y v:V} {u r:Value} {o:Option V} {A:Around} {E:Value->Shared->Prop}
end
section
variable {X:Cx} {ae:List (Addr×Obj)} {σ:St} {H:Hp} {s:Shared} {a:Addr} {jH:List (ow×V)} {k:ow} {u:Value} {A:Around} {E:Value->Shared->Prop}
end
section
variable {X:Cx} {o i e value:Expr} {pos xj yZ:Pos} {td ty tv:TE}
end
section
variable {X:Cx} {pos:Pos}
end
section
variable {X:Cx} {ae:List (Addr×Obj)} {σ:St} {H:Hp} {s:Shared} {a:Addr} {y d:V} {u r:Value} {o:Option V} {A:Around} {E:Value->Shared->Prop}
end
section
variable {X:Cx} {o e f:Expr} {iR lG:Pos} {td ty tx:TE}
end
section
variable {X:Cx} {ae:List (Addr×Obj)} {σ:St} {H:Hp} {s:Shared} {a:Addr} {jH:List (ow×V)} {A:Around} {E:Value->Shared->Prop}
end
section
variable {X:Cx} {ae:List (Addr×Obj)} {σ:St} {H:Hp} {s:Shared} {a:Addr} {y:V} {u:Value} {A:Around} {E:Value->Shared->Prop}
end
section
variable {X:Cx}
end
section
variable {κ:Type} [DecidableEq κ]
end
section
variable {X:Cx}
end
section
variable {prog:Program} {w:World} {A:Around} {E:Value->Shared->Prop} {s:Shared}
theorem nF(rF:s.heap.IsTupleIter it t i)(ht:s.heap.IsTuple t xs)(hx:xs[i]?=some x)(q:∀h',h'.IsTupleIter it t (i+1)->Heap.SameBut it s.heap h'->Q x { s with heap:=h' }):wpAny (model prog w) A (Builtin.SmallTypes.nextOf (.ref it)) Q E s:=by
 obtain⟨o,h1,h2,h3⟩:=id rF;obtain⟨p,k1,_,n,k3⟩:=ht;unfold Builtin.SmallTypes.nextOf;refine ao (ml (name:=Str.ofString "__next__") rF.typeIs F.slot_tuple_iterator_next (lw F.slot_tuple_iterator_next rF.typeIs F.entry_tuple_iterator_next ?_ (F.args_tuple_iterator_next_1 _)));change wpAny _ _ (field (.ref it) 0 >>= _) _ _ s;refine ao (cE h1 h3 (x:=.ref t) rfl ?_);change wpAny _ _ (if (Value.ref t==Value.none)=true then _ else _) _ _ s;rw[al (by exact bE)];change wpAny _ _ (field (.ref it) 1 >>= _) _ _ s;refine ao (cE h1 h3 (x:=.int i 0) rfl ?_);change wpAny _ _ (seqItems? (.ref t) >>= _) _ _ s;refine ao (gR k1 k3 ?_);simp only[uk,hx];refine ao (mS h1 h3 (by simp) (wpAny_pure ⟨x,rfl,wpAny_pure (q _ ?_ (Heap.SameBut.update ..))⟩));refine⟨_,mB _ h1 (ud (mJ h3 _)),(uC ..).trans h2,?_⟩;rw[mJ h3];simp[rawInt]
theorem xK(hh:A.handled=none)(rF:s.heap.IsTupleIter it t i)(ht:s.heap.IsTuple t xs)(hx:xs[i]?=none)(q:∀h' e,Heap.ExtBut it s.heap h'->(∃o,h'.get? e=some o/\o.cls=.type "StopIteration")->E (.ref e) { s with heap:=h' }):wpAny (model prog w) A (Builtin.SmallTypes.nextOf (.ref it)) Q E s:=by
 obtain⟨o,h1,h2,h3⟩:=id rF;obtain⟨p,k1,_,n,k3⟩:=ht;unfold Builtin.SmallTypes.nextOf;refine ao (ml (name:=Str.ofString "__next__") rF.typeIs F.slot_tuple_iterator_next (lw F.slot_tuple_iterator_next rF.typeIs F.entry_tuple_iterator_next ?_ (F.args_tuple_iterator_next_1 _)));change wpAny _ _ (field (.ref it) 0 >>= _) _ _ s;refine ao (cE h1 h3 (x:=.ref t) rfl ?_);change wpAny _ _ (if (Value.ref t==Value.none)=true then _ else _) _ _ s;rw[al (by exact bE)];change wpAny _ _ (field (.ref it) 1 >>= _) _ _ s;refine ao (cE h1 h3 (x:=.int i 0) rfl ?_);change wpAny _ _ (seqItems? (.ref t) >>= _) _ _ s;refine ao (gR k1 k3 ?_);simp only[uk,hx];refine ao (dS (ao (mS h1 h3 (by simp) ?stop)));case stop=>
  change wpAny _ _ (newExc (.type "StopIteration") [] >>= _) _ _ _;refine ao ?_;simp only[newExc,newTuple];refine ao (gN (ao (m:=firstArgMember _ _) (wpAny_of_eq (a:=Value.none) (by simp only[firstArgMember];rfl) (gN ?_ (by size_fits)))) (by size_fits));simp only[raiseNew];refine ao (wpAny_handled ?_);rw[show A.in1.handled=none from hh];exact ao (wpAny_pure (wpAny_throw (q _ _ (fun b u hb z=>bf _ (bf _ ((mz _ _ (cy hb)).trans z))) ⟨_,b_ _ rfl,rfl⟩)))
end
section
variable {X:Cx}
end
section
variable {X:Cx} {tg:Expr}
end
section
variable {prog:Program} {w:World} {A:Around} {E:Value->Shared->Prop} {s:Shared} {R:Result->Shared->Prop} {l d Ia:Addr}
end
section
variable {prog:Program} {w:World} {A:Around} {E:Value->Shared->Prop} {s:Shared} {l:Addr}
end
section
variable {X:Cx}
end
structure ck(P:Program)(w:World)(K:PySem.W.Frag)(mg:Str->Option Value)(base:Heap)(CX:lX)(k:Nat)(x:Str)(ps:List Str)(sp:Sp):Prop where
 ex:∃f fd,mg x=some (.ref f)/\PySem.W.keepIn K (.ref f)=true/\dN K fd ps []/\aU P w K mg base CX k f fd ps sp
theorem av(C:ck X.prog X.w X.K X.mg X.base CX k x ps sp)(hr:bh k X.A)(hx:dZ CX X E)(ha:PA X (e::es) t)(hg:Gl X x:=by rfl)(oC:(x==("__debug__":Str))=false:=by decide)(he:starEach (e::es) X.env=(false,eval e X.env)::starEach es X.env:=by rfl)(lT:(backTo pos (starEach es X.env)).any (·.1)=false:=by rfl):
  PE X (.Call (.Name x p) (e::es) [] pos) (nj sp [] E t):=by
 obtain⟨f,fd,a,b,c,d⟩:=C.ex;exact B8 d hr hg a b c .nil hx ha oC he lT
theorem am(h:H D=none):aB H (upd H D o):=fun b u e=>by rw[ap (aq e h)];exact e
def bz(p:Addr)(H H':Hp):Prop:=∀b o,H b=some o->b≠p->H' b=some o
theorem bz.trans(a:bz p H H1)(b:bz p H1 H2):bz p H H2:=fun c o h n=>b c o (a c o h n) n
theorem bz.upd:bz p H (upd H p o):=fun b u h n=>by rw[ap n];exact h
theorem bz.of(s:aB H H'):bz p H H':=fun b o h _=>s b o h
theorem jX(h:j<n):yy n (j:Int)=some j:=by
 unfold yy;rw[ak (by lia),ak (by lia)];simp
theorem xL(h:as.length=n):(as++[t]).getD j 0=if j=n then t else as.getD j 0:=by
 rw[dL,dL];by_cases hj:j=n
 .subst hj;subst h;rw[ak rfl,pY (aK _),Nat.sub_self];rfl
 .rw[al hj];by_cases eE:j<as.length
  .rw[oQ eE]
  .rw[pY (by lia),oW (by simp;lia),oW (by lia)]
def Holds(H:Hp)(as:List Addr)(n:Nat)(o:Nat->HO):Prop:=as.length=n/\∀j,j<n->H (as.getD j 0)=some (o j)
theorem Holds.nil:Holds H [] 0 o:=⟨rfl,fun j hj=>absurd hj (by lia)⟩
theorem Holds.snoc(h:Holds H as n o)(ht:H t=some (o n)):Holds H (as++[t]) (n+1) o:=by
 refine⟨by rw[gK,h.1];rfl,fun j hj=>?_⟩;rw[xL h.1];by_cases e:j=n
 .rw[ak e,e];exact ht
 .rw[al e];exact h.2 j (by lia)
theorem Holds.mono(h:Holds H as n o)(e:∀j,j<n->H (as.getD j 0)=some (o j)->H' (as.getD j 0)=some (o j)):Holds H' as n o:=⟨h.1,fun j hj=>e j hj (h.2 j hj)⟩
end L2
namespace PyProof.Rows
open PySem
def eU:Bool->Keyed->Array Keyed->Nat->Nat->Nat->StateT SortSt Sem (Option Nat):=sortPriv% PySem.Builtin.gallop
def nG:Array Keyed->Array Keyed->StateT SortSt Sem (Array Keyed):=sortPriv% PySem.Builtin.mergeLo
def nI:Array Keyed->Array Keyed->StateT SortSt Sem (Array Keyed):=sortPriv% PySem.Builtin.mergeHi
def e_:Nat->StateT SortSt Sem Unit:=sortPriv% PySem.Builtin.setMinGallop
def si(prog:Program)(w:World)(A:Around)(s:Shared)(κ:SortKind)(a₀:Array Keyed):Prop:=
 ∀x y,x∈a₀.toList->y∈a₀.toList->∀ (Q:Bool->Shared->Prop) (E:Value->Shared->Prop),(∀b,Q b s)->wpAny (model prog w) A (keyLt' κ x.1 y.1) Q E s
structure SQ(κ:SortKind)(a₀:Array Keyed)(pd:Array (Nat×Nat×Nat))(st:SortSt):Prop where
 perm:(arrOf st).Perm a₀
 kind:kindOf st=κ
 failed:failedOf st=none
 pend:pendingOf st=pd
section
variable {prog:Program} {w:World} {A:Around} {E:Value->Shared->Prop} {s:Shared} {κ:SortKind} {a₀:Array Keyed} {pd:Array (Nat×Nat×Nat)}
theorem SQ.size{st:SortSt}(h:SQ κ a₀ pd st):(arrOf st).size=a₀.size:=h.perm.size_eq
theorem SQ.setArr{st:SortSt}(h:SQ κ a₀ pd st){xs:Array Keyed}(hp:xs.Perm (arrOf st)):SQ κ a₀ pd (setArr st xs):=⟨hp.trans h.perm,h.kind,h.failed,h.pend⟩
theorem SQ.at{st:SortSt}(h:SQ κ a₀ pd st){i:Nat}(hi:i<a₀.size):∃p,(arrOf st)[i]?=some p/\p∈a₀.toList:=by
 have EF:i<(arrOf st).size:=by rw[h.size];exact hi
 exact⟨(arrOf st)[i],cn _ i EF,(jB.mp h.perm).mem_iff.mp (by simp)⟩
theorem nJ{st:SortSt}{x y:Keyed}{Q:Option Bool->SortSt->Prop}(hC:si prog w A s κ a₀)(hk:kindOf st=κ)(hx:x∈a₀.toList)(hy:y∈a₀.toList)(h:∀b,Q (some b) st):wpS (model prog w) A E s (lt' x y) Q st:=by
 rw[lt'_eq];refine aD (eI ?_);rw[hk];refine aD (ji (qr (hC x y hx hy _ _ fun b=>⟨rfl,?_⟩)));exact aE (h b)
theorem aS{st:SortSt}{arr:Array Keyed}{i:Nat}{p:Keyed}{Q:Keyed->SortSt->Prop}(hi:arr[i]?=some p)(h:Q p st):wpS (model prog w) A E s (elem' arr i) Q st:=by
 rw[elem'_eq,hi];exact aE h
theorem c_{st:SortSt}{i j:Nat}{Q:Option Bool->SortSt->Prop}(hC:si prog w A s κ a₀)(hB:SQ κ a₀ pd st)(hi:i<a₀.size)(hj:j<a₀.size)(h:∀b,Q (some b) st):wpS (model prog w) A E s (ltAt' i j) Q st:=by
 obtain⟨p,e1,m1⟩:=hB.at hi;obtain⟨q,e2,m2⟩:=hB.at hj;rw[ltAt'_eq];refine aD (eI ?_);exact aD (aS e1 (aD (aS e2 (nJ hC hB.kind m1 m2 h))))
theorem eC{st:SortSt}{i j:Nat}{Q:Unit->SortSt->Prop}(hB:SQ κ a₀ pd st)(h:∀aP,SQ κ a₀ pd aP->Q () aP):wpS (model prog w) A E s (reverseSlice' i j) Q st:=by
 rw[reverseSlice'_eq];exact dU (h _ (hB.setArr (mirror_perm _ _ _ _)))
theorem Aa{st:SortSt}{i j:Nat}{Q:Unit->SortSt->Prop}(hB:SQ κ a₀ pd st)(h:∀aP,SQ κ a₀ pd aP->Q () aP):wpS (model prog w) A E s (moveDown' i j) Q st:=by
 rw[moveDown'_eq];exact dU (h _ (hB.setArr (bubble_perm _ _ _)))
theorem CK{st:SortSt}{lo n ok:Nat}{Q:Bool->SortSt->Prop}(hC:si prog w A s κ a₀)(hn:lo+n<=a₀.size)(hB:SQ κ a₀ pd st)(h:∀aP,SQ κ a₀ pd aP->Q true aP):wpS (model prog w) A E s (binarySort' lo n ok) Q st:=by
 rw[binarySort'_eq];refine aD (cx (di (I:=fun _ c aP=>c=(none,())/\SQ κ a₀ pd aP) (Q:=fun c aP=>c=(none,())/\SQ κ a₀ pd aP) ?_ (fun c aP hh=>hh) ⟨rfl,hB⟩) ?_)
 .rintro k c aP VL TJ ⟨rfl,N3⟩;dsimp only;refine aD (cx (di (I:=fun _ c F2=>(∃l r,c=(none,l,r)/\r<=k)/\SQ κ a₀ pd F2) (Q:=fun c F2=>(∃l r,c=(none,l,r)/\r<=k)/\SQ κ a₀ pd F2) ?_ (fun c aP hh=>hh) ⟨⟨_,_,rfl,aK _⟩,N3⟩) ?_)
  .rintro x c o5 _ _ ⟨⟨l,r,rfl,hr⟩,oG⟩;dsimp only;by_cases wF:l>=r
   .rw[ak wF];exact aE ⟨⟨_,_,rfl,hr⟩,oG⟩
   .rw[al wF];refine aD (c_ hC oG (by lia) (by lia) fun b=>?_);cases b
    .exact aE ⟨⟨_,_,rfl,hr⟩,oG⟩
    .exact aE ⟨⟨_,_,rfl,by lia⟩,oG⟩
  .rintro c o5 ⟨⟨l,r,rfl,hr⟩,oG⟩;dsimp only;exact aD (Aa oG fun uR lI=>aE ⟨rfl,lI⟩)
 .rintro c aP ⟨rfl,N3⟩;exact aE (h aP N3)
end
theorem vx(left:Bool)(key:Keyed)(arr:Array Keyed)(base n js:Nat):eU left key arr base n js=(do
 let qN (i:Nat):StateT SortSt Sem (Option Bool):=do
  let x <- elem' arr (base+i)
  if left then lt' x key else return (<-lt' key x).map (!·)
 let mut lastofs:=0
 let mut ofs:=1
 let mut lo:=0
 let mut hi:=0
 let some right <- qN js|return none
 if right then
  let nK:=n-js
  for _ in [0:n] do
   if ofs>=nK then break
   let some more <- qN (js+ofs)|return none
   if !more then break
   lastofs:=ofs
   ofs:=2*ofs+1
  lo:=js+lastofs+1
  hi:=js+min ofs nK
 else
  let nK:=js+1
  for _ in [0:n] do
   if ofs>=nK then break
   let some Ab <- qN (js-ofs)|return none
   if Ab then break
   lastofs:=ofs
   ofs:=2*ofs+1
  lo:=js+1-min ofs nK
  hi:=js-lastofs
 for _ in [0:n] do
  if lo>=hi then break
  let m:=lo+(hi-lo) / 2
  let some more <- qN m|return none
  if more then lo:=m+1 else hi:=m
 return some hi):=rfl
section
variable {prog:Program} {w:World} {A:Around} {E:Value->Shared->Prop} {s:Shared} {κ:SortKind} {a₀:Array Keyed} {pd:Array (Nat×Nat×Nat)}
theorem eL{st:SortSt}{left:Bool}{key:Keyed}{arr:Array Keyed}{j:Nat}{Q:Option Bool->SortSt->Prop}(hC:si prog w A s κ a₀)(hk:kindOf st=κ)(oB:key∈a₀.toList)(pH:∀x∈arr.toList,x∈a₀.toList)(hj:j<arr.size)(h:∀b,Q (some b) st):
  wpS (model prog w) A E s (do
  let x <- elem' arr j
  if left then lt' x key else return (<-lt' key x).map (!·)) Q st:=by
 have hm:arr[j]∈a₀.toList:=pH _ (by simp);refine aD (aS (cn arr j hj) ?_);cases left
 .rw[al (by decide)];exact aD (nJ hC hk oB hm fun b=>aE (h (!b)))
 .rw[ak rfl];exact nJ hC hk hm oB h
theorem dv{st:SortSt}{left:Bool}{key:Keyed}{arr:Array Keyed}{base n js:Nat}{Q:Option Nat->SortSt->Prop}(hC:si prog w A s κ a₀)(hk:kindOf st=κ)(oB:key∈a₀.toList)(pH:∀x∈arr.toList,x∈a₀.toList)(hn:base+n<=arr.size)(hh:js<n)(h:∀k,k<=n->Q (some k) st):wpS (model prog w) A E s (eU left key arr base n js) Q st:=by
 rw[vx];refine aD (eL hC hk oB pH (by lia) fun right=>?_);cases right
 .dsimp only;rw[al (by decide)];refine aD (cx (di (I:=fun _ c aP=>(∃l o,c=(none,l,o))/\st=aP) (Q:=fun c aP=>(∃l o,c=(none,l,o))/\st=aP) ?_ (fun c aP hh=>hh) ⟨⟨_,_,rfl⟩,rfl⟩) ?_)
  .rintro x c aP _ _ ⟨⟨l,o,rfl⟩,rfl⟩;dsimp only;by_cases wF:o>=js+1
   .rw[ak wF];exact aE ⟨⟨_,_,rfl⟩,rfl⟩
   .rw[al wF];refine aD (eL hC hk oB pH (by lia) fun Ab=>?_);cases Ab
    .exact aE ⟨⟨_,_,rfl⟩,rfl⟩
    .exact aE ⟨⟨_,_,rfl⟩,rfl⟩
  .rintro c aP ⟨⟨l,o,rfl⟩,rfl⟩;dsimp only;refine aD (cx (di (I:=fun _ c aP=>(∃l u,c=(none,l,u)/\u<=n)/\st=aP) (Q:=fun c aP=>(∃l u,c=(none,l,u)/\u<=n)/\st=aP) ?_ (fun c aP hh=>hh) ⟨⟨_,_,rfl,by lia⟩,rfl⟩) ?_)
   .rintro x c aP _ _ ⟨⟨l,u,rfl,hu⟩,rfl⟩;dsimp only;by_cases wF:l>=u
    .rw[ak wF];exact aE ⟨⟨_,_,rfl,hu⟩,rfl⟩
    .rw[al wF];refine aD (eL hC hk oB pH (by lia) fun more=>?_);cases more
     .exact aE ⟨⟨_,_,rfl,by lia⟩,rfl⟩
     .exact aE ⟨⟨_,_,rfl,hu⟩,rfl⟩
   .rintro c aP ⟨⟨l,u,rfl,hu⟩,rfl⟩;exact aE (h u hu)
 .dsimp only;rw[ak rfl];refine aD (cx (di (I:=fun _ c aP=>(∃l o,c=(none,l,o))/\st=aP) (Q:=fun c aP=>(∃l o,c=(none,l,o))/\st=aP) ?_ (fun c aP hh=>hh) ⟨⟨_,_,rfl⟩,rfl⟩) ?_)
  .rintro x c aP _ _ ⟨⟨l,o,rfl⟩,rfl⟩;dsimp only;by_cases wF:o>=n-js
   .rw[ak wF];exact aE ⟨⟨_,_,rfl⟩,rfl⟩
   .rw[al wF];refine aD (eL hC hk oB pH (by lia) fun more=>?_);cases more
    .exact aE ⟨⟨_,_,rfl⟩,rfl⟩
    .exact aE ⟨⟨_,_,rfl⟩,rfl⟩
  .rintro c aP ⟨⟨l,o,rfl⟩,rfl⟩;dsimp only;refine aD (cx (di (I:=fun _ c aP=>(∃l u,c=(none,l,u)/\u<=n)/\st=aP) (Q:=fun c aP=>(∃l u,c=(none,l,u)/\u<=n)/\st=aP) ?_ (fun c aP hh=>hh) ⟨⟨_,_,rfl,by lia⟩,rfl⟩) ?_)
   .rintro x c aP _ _ ⟨⟨l,u,rfl,hu⟩,rfl⟩;dsimp only;by_cases wF:l>=u
    .rw[ak wF];exact aE ⟨⟨_,_,rfl,hu⟩,rfl⟩
    .rw[al wF];refine aD (eL hC hk oB pH (by lia) fun more=>?_);cases more
     .exact aE ⟨⟨_,_,rfl,by lia⟩,rfl⟩
     .exact aE ⟨⟨_,_,rfl,hu⟩,rfl⟩
   .rintro c aP ⟨⟨l,u,rfl,hu⟩,rfl⟩;exact aE (h u hu)
end
structure SM(κ:SortKind)(ar:Array Keyed)(pd:Array (Nat×Nat×Nat))(st:SortSt):Prop where
 arr:arrOf st=ar
 kind:kindOf st=κ
 failed:failedOf st=none
 pend:pendingOf st=pd
abbrev lJ:=Option (Array Keyed)
abbrev pI:=StateT SortSt Sem
def sj{τ:Type}(c:Bool)(d:Prop)[Decidable d](r:Array Keyed)(t:τ):pI (ForInStep (lJ×τ)):=if c then pure (.done (some r,t)) else if d then pure (.done (none,t)) else pure (.yield (none,t))
def Rc{α β γ:Type}(N:Nat)(f:Nat->lJ×α×β×γ×Nat×Nat->pI (ForInStep (lJ×α×β×γ×Nat×Nat)))(g:lJ×α×β×γ×Nat×Nat×Nat->pI (ForInStep (lJ×α×β×γ×Nat×Nat×Nat)))(s:lJ×α×β×γ×Nat):pI (ForInStep (lJ×α×β×γ×Nat)):=do
 let t <- forIn [0:N] ((none,s.2.1,s.2.2.1,s.2.2.2.1,0,0):lJ×α×β×γ×Nat×Nat) fun _ t=>f s.2.2.2.2 t
 match t.1 with
 |some r=>pure (.done (some r,t.2.1,t.2.2.1,t.2.2.2.1,s.2.2.2.2))
 |none=>do
  liftM (rule "list.sort.gallop")
  let u <- forIn [0:N] ((none,t.2.1,t.2.2.1,t.2.2.2.1,s.2.2.2.2+1,t.2.2.2.2.1,t.2.2.2.2.2):lJ×α×β×γ×Nat×Nat×Nat) fun _ u=>g u
  match u.1 with
  |some r=>pure (.done (some r,u.2.1,u.2.2.1,u.2.2.2.1,u.2.2.2.2.1))
  |none=>do
   e_ (u.2.2.2.2.1+1)
   pure (.yield (none,u.2.1,u.2.2.1,u.2.2.2.1,u.2.2.2.2.1+1))
def Ma{α β γ:Type}(N:Nat)(f:Nat->lJ×α×β×γ×Nat×Nat->pI (ForInStep (lJ×α×β×γ×Nat×Nat)))(g:lJ×α×β×γ×Nat×Nat×Nat->pI (ForInStep (lJ×α×β×γ×Nat×Nat×Nat)))(x:α)(y:β)(z:γ):pI (Array Keyed):=do
 let st <- get
 let s <- forIn [0:N] ((none,x,y,z,gallopOf st):lJ×α×β×γ×Nat) fun _ s=>Rc N f g s
 match s.1 with
 |some r=>pure r
 |none=>liftM (unsupported "internal:list.sort.merge-bound")
section
variable {prog:Program} {w:World} {A:Around} {E:Value->Shared->Prop} {s:Shared} {κ:SortKind} {a₀:Array Keyed} {pd:Array (Nat×Nat×Nat)} {ar:Array Keyed} {F:Array Keyed->Prop}
def GP{τ:Type}(κ:SortKind)(ar:Array Keyed)(pd:Array (Nat×Nat×Nat))(F:Array Keyed->Prop)(D J:τ->Prop)(r:ForInStep (lJ×τ))(st:SortSt):Prop:=SM κ ar pd st/\
 ((∃x t,r=.done (some x,t)/\F x)\/(∃t,r=.done (none,t)/\D t)\/∃t,r=.yield (none,t)/\J t)
theorem de{τ:Type}{D J:τ->Prop}{st:SortSt}{x:Array Keyed}{t:τ}(m:SM κ ar pd st)(h:F x):wpS (model prog w) A E s (pure (.done (some x,t))) (GP κ ar pd F D J) st:=aE ⟨m,.inl ⟨_,_,rfl,h⟩⟩
theorem fz{τ:Type}{D J:τ->Prop}{c:Bool}{d:Prop}[Decidable d]{r:Array Keyed}{t:τ}{st:SortSt}(m:SM κ ar pd st)(h1:c=true->F r)(h2:c=false->D t/\J t):wpS (model prog w) A E s (sj c d r t) (GP κ ar pd F D J) st:=by
 unfold sj;cases c
 .rw[al bE];split
  .exact aE ⟨m,.inr (.inl ⟨_,rfl,(h2 rfl).1⟩)⟩
  .exact aE ⟨m,.inr (.inr ⟨_,rfl,(h2 rfl).2⟩)⟩
 .rw[ak rfl];exact de m (h1 rfl)
theorem lf{τ:Type}{D:τ->Prop}{J:Nat->τ->Prop}{N:Nat}{f:lJ×τ->pI (ForInStep (lJ×τ))}{t:τ}{st:SortSt}{Q:lJ×τ->SortSt->Prop}(m:SM κ ar pd st)(hJ:J 0 t)(up:∀t,J N t->D t)(b:∀t st,SM κ ar pd st->∀i,J i t->wpS (model prog w) A E s (f (none,t)) (GP κ ar pd F D (J (i+1))) st)(h1:∀x t aP,SM κ ar pd aP->F x->Q (some x,t) aP)(h2:∀t aP,SM κ ar pd aP->D t->Q (none,t) aP):wpS (model prog w) A E s (forIn [0:N] ((none,t):lJ×τ) fun _ c=>f c) Q st:=by
 refine di (I:=fun i c aP=>c.1=none/\SM κ ar pd aP/\J i c.2) ?_ ?_ ⟨rfl,m,hJ⟩
 .rintro i ⟨_,t⟩ aP _ _ ⟨rfl,m',j⟩;refine cx (b t aP m' i j) ?_;rintro r o5 ⟨m2,⟨x,t,rfl,h⟩|⟨t,rfl,h⟩|⟨t,rfl,h⟩⟩
  .exact h1 _ _ _ m2 h
  .exact h2 _ _ m2 h
  .exact⟨rfl,m2,h⟩
 .rintro⟨_,t⟩ aP ⟨rfl,m',j⟩;rw[Nat.max_eq_right (cK _)] at j;exact h2 _ _ m' (up _ j)
theorem wG{α β γ:Type}{N:Nat}{f:Nat->lJ×α×β×γ×Nat×Nat->pI (ForInStep (lJ×α×β×γ×Nat×Nat))}{g:lJ×α×β×γ×Nat×Nat×Nat->pI (ForInStep (lJ×α×β×γ×Nat×Nat×Nat))}{x:α}{y:β}{z:γ}{J:Nat->α->β->γ->Prop}{st:SortSt}{Q:Array Keyed->SortSt->Prop}(m:SM κ ar pd st)(h0:J 0 x y z)(dn:∀i k x y z,J (i+k) x y z->J i x y z)(no:∀x y z,¬ J N x y z)(N1:1<=N)(hf:∀mg n k x y z p st,SM κ ar pd st->J (n+k) x y z->wpS (model prog w) A E s (f mg (none,x,y,z,p)) (GP κ ar pd F (fun t=>J (n+1) t.1 t.2.1 t.2.2.1) fun t=>J (n+(k+1)) t.1 t.2.1 t.2.2.1) st)(hg:∀n x y z p st,SM κ ar pd st->J n x y z->wpS (model prog w) A E s (g (none,x,y,z,p)) (GP κ ar pd F (fun t=>J n t.1 t.2.1 t.2.2.1) fun t=>J n t.1 t.2.1 t.2.2.1) st)(h:∀x aP,F x->SM κ ar pd aP->Q x aP):wpS (model prog w) A E s (Ma N f g x y z) Q st:=by
 unfold Ma;refine aD (eI ?_);refine aD (lf (F:=F) (D:=fun _=>False) (J:=fun n (t:α×β×γ×Nat)=>J n t.1 t.2.1 t.2.2.1) m h0 (fun t h=>no _ _ _ h) ?_ (fun x t st m hx=>aE (h _ _ hx m)) fun t st m j=>j.elim);intro t st m i j;unfold Rc;refine aD (lf (F:=F) (D:=fun t=>J (i+1) t.1 t.2.1 t.2.2.1) (J:=fun n (t:α×β×γ×Nat×Nat)=>J (i+n) t.1 t.2.1 t.2.2.1) m j (fun t h=>dn _ (N-1) _ _ _ (by rw[show i+1+(N-1)=i+N by lia];exact h)) (fun t st m n j=>hf _ _ _ _ _ _ _ _ m j) (fun x t st m hx=>de m hx) ?_);intro t st m j;refine aD (ji (dS ⟨rfl,?_⟩));refine aD (lf (F:=F) (D:=fun t=>J (i+1) t.1 t.2.1 t.2.2.1) (J:=fun n (t:α×β×γ×Nat×Nat×Nat)=>J (i+1) t.1 t.2.1 t.2.2.1) m j (fun _ h=>h) (fun t st m n j=>hg _ _ _ _ _ _ m j) (fun x t st m hx=>de m hx) ?_);intro t st m j;refine aD (dU ?_);exact aE ⟨⟨m.arr,m.kind,m.failed,m.pend⟩,.inr (.inr ⟨_,rfl,j⟩)⟩
end
abbrev ij(a b out:Array Keyed)(ia ib:Nat):=out++a.extract ia a.size++b.extract ib b.size
abbrev qO(a b out:Array Keyed)(ia ib:Nat):=out++b.extract ib b.size++a.extract ia a.size
abbrev EG ρ:=lJ×Array Keyed×Nat×Nat×ρ
def Re(a b:Array Keyed)(mg:Nat)(t:EG (Nat×Nat)):pI (ForInStep (EG (Nat×Nat))):=do
 let x <- elem' b t.2.2.2.1
 let y <- elem' a t.2.2.1
 let some w <- lt' x y|pure (.done (some (ij a b t.2.1 t.2.2.1 t.2.2.2.1),t.2.1,t.2.2.1,t.2.2.2.1,t.2.2.2.2.1,t.2.2.2.2.2))
 if w then do
  let x <- elem' b t.2.2.2.1
  sj (t.2.2.2.1+1==b.size) (t.2.2.2.2.2+1>=mg) (ij a b (t.2.1.push x) t.2.2.1 (t.2.2.2.1+1)) (t.2.1.push x,t.2.2.1,t.2.2.2.1+1,0,t.2.2.2.2.2+1)
 else do
  let x <- elem' a t.2.2.1
  sj (t.2.2.1+1+1==a.size) (t.2.2.2.2.1+1>=mg) (qO a b (t.2.1.push x) (t.2.2.1+1) t.2.2.2.1) (t.2.1.push x,t.2.2.1+1,t.2.2.2.1,t.2.2.2.2.1+1,0)
def N4(a b out:Array Keyed)(ia ib mg ac bc:Nat):pI (ForInStep (EG (Nat×Nat×Nat))):=do
 let x <- elem' a ia
 sj (ia+1+1==a.size) ((ac<7&&bc<7)=true) (qO a b (out.push x) (ia+1) ib) (out.push x,ia+1,ib,mg,ac,bc)
def N5(a b out:Array Keyed)(ia ib mg ac bc:Nat):pI (ForInStep (EG (Nat×Nat×Nat))):=do
 let x <- elem' b ib
 if ib+1==b.size then pure (.done (some (ij a b (out.push x) ia (ib+1)),out.push x,ia,ib+1,mg,ac,bc))
 else do
  let y <- elem' a ia
  let some k <- eU true y b (ib+1) (b.size-(ib+1)) 0|pure (.done (some (ij a b (out.push x) ia (ib+1)),out.push x,ia,ib+1,mg,ac,bc))
  if k > 0 then
   if ib+1+k==b.size then pure (.done (some (ij a b (out.push x++b.extract (ib+1) (ib+1+k)) ia (ib+1+k)),out.push x++b.extract (ib+1) (ib+1+k),ia,ib+1+k,mg,ac,k))
   else N4 a b (out.push x++b.extract (ib+1) (ib+1+k)) ia (ib+1+k) mg ac k
  else N4 a b (out.push x) ia (ib+1) mg ac k
def N6(a b out:Array Keyed)(ia ib mg ac bc:Nat):pI (ForInStep (EG (Nat×Nat×Nat))):=do
 e_ mg
 let y <- elem' b ib
 let some k <- eU false y a ia (a.size-ia) 0|pure (.done (some (ij a b out ia ib),out,ia,ib,mg,ac,bc))
 if k > 0 then
  if ia+k+1==a.size then pure (.done (some (qO a b (out++a.extract ia (ia+k)) (ia+k) ib),out++a.extract ia (ia+k),ia+k,ib,mg,k,bc))
  else if ia+k==a.size then pure (.done (some (ij a b (out++a.extract ia (ia+k)) (ia+k) ib),out++a.extract ia (ia+k),ia+k,ib,mg,k,bc))
  else N5 a b (out++a.extract ia (ia+k)) (ia+k) ib mg k bc
 else N5 a b out ia ib mg k bc
def Rg(a b:Array Keyed)(t:EG (Nat×Nat×Nat)):pI (ForInStep (EG (Nat×Nat×Nat))):=
 if t.2.2.2.2.1 > 1 then N6 a b t.2.1 t.2.2.1 t.2.2.2.1 (t.2.2.2.2.1-1) t.2.2.2.2.2.1 t.2.2.2.2.2.2 else N6 a b t.2.1 t.2.2.1 t.2.2.2.1 t.2.2.2.2.1 t.2.2.2.2.2.1 t.2.2.2.2.2.2
theorem sk(a b:Array Keyed):nG a b=(do
 liftM (rule "list.sort.merge-lo")
 let x <- elem' b 0
 if 1==b.size then pure (ij a b #[x] 0 1) else if 0+1==a.size then pure (qO a b #[x] 0 1) else Ma (a.size+b.size) (Re a b) (Rg a b) #[x] 0 1):=by kernel_rfl
def PI(a b out:Array Keyed)(ia ib:Nat):Prop:=out.toList.Perm (a.toList.take ia++b.toList.take ib)
theorem sq{l:List Keyed}{i:Nat}(h:i<l.length):l.take (i+1)=l.take i++[l[i]]:=by rw[eO,cV h];rfl
theorem PI.pJ{a b out:Array Keyed}{ia ib:Nat}(h:PI a b out ia ib)(hi:ia<a.size):PI a b (out.push a[ia]) (ia+1) ib:=by
 unfold PI at h |-;rw[ki,sq (by simpa using hi),cm];refine(h.append_right _).trans ?_;rw[cm];refine lq _ ?_;have:a.toList[ia]'(by simpa using hi)=a[ia]:=by simp
 rw[this];exact gJ
theorem PI.pK{a b out:Array Keyed}{ia ib:Nat}(h:PI a b out ia ib)(hi:ib<b.size):PI a b (out.push b[ib]) ia (ib+1):=by
 unfold PI at h |-;rw[ki,sq (by simpa using hi),<-cm];have:b.toList[ib]'(by simpa using hi)=b[ib]:=by simp
 rw[this];exact h.append_right _
theorem cG{a:Array Keyed}{i j:Nat}:(a.extract i j).toList=(a.toList.drop i).take (j-i):=by
 rw[tZ,List.extract_eq_take_drop]
theorem PI.xM{a b out:Array Keyed}{ia ib:Nat}(h:PI a b out ia ib)(k:Nat):PI a b (out++a.extract ia (ia+k)) (ia+k) ib:=by
 unfold PI at h |-;rw[cQ,cG,Nat.add_sub_cancel_left,List.take_add,cm];refine(h.append_right _).trans ?_;rw[cm];exact lq _ gJ
theorem PI.xN{a b out:Array Keyed}{ia ib:Nat}(h:PI a b out ia ib)(k:Nat):PI a b (out++b.extract ib (ib+k)) ia (ib+k):=by
 unfold PI at h |-;rw[cQ,cG,Nat.add_sub_cancel_left,List.take_add,<-cm];exact h.append_right _
theorem PI.done{a b out:Array Keyed}{ia ib:Nat}(h:PI a b out ia ib):(out++a.extract ia a.size++b.extract ib b.size).Perm (a++b):=by
 rw[jB];unfold PI at h;rw[cQ,cQ,cQ,cG,cG];have e1:(a.toList.drop ia).take (a.size-ia)=a.toList.drop ia:=List.take_of_length_le (by simp);have e2:(b.toList.drop ib).take (b.size-ib)=b.toList.drop ib:=List.take_of_length_le (by simp);rw[e1,e2];refine((h.append_right _).append_right _).trans ?_;conv=>rhs;rw[<-oU ia a.toList,<-oU ib b.toList]
 rw[cm,cm,cm];refine lq _ ?_;rw[<-cm,<-cm];exact tT _ gJ
theorem PI.last{a b out:Array Keyed}{ia ib:Nat}(h:PI a b out ia ib):(out++b.extract ib b.size++a.extract ia a.size).Perm (a++b):=by
 refine Array.Perm.trans ?_ h.done;rw[jB];rw[cQ,cQ,cQ,cQ,cm,cm];exact lq _ gJ
section
variable {prog:Program} {w:World} {A:Around} {E:Value->Shared->Prop} {s:Shared} {κ:SortKind} {a₀:Array Keyed} {pd:Array (Nat×Nat×Nat)} {ar:Array Keyed} {a b out:Array Keyed} {ia ib mg ac bc n:Nat} {st:SortSt}
def JL(a b:Array Keyed)(n:Nat)(out:Array Keyed)(ia ib:Nat):Prop:=PI a b out ia ib/\ia+1<a.size/\ib<b.size/\n<=ia+ib
abbrev GL{ρ:Type}(κ:SortKind)(ar:Array Keyed)(pd:Array (Nat×Nat×Nat))(a b:Array Keyed)(n m:Nat):ForInStep (EG ρ)->SortSt->Prop:=GP κ ar pd (fun x=>x.Perm (a++b)) (fun t=>JL a b n t.1 t.2.1 t.2.2.1) fun t=>JL a b m t.1 t.2.1 t.2.2.1
theorem wH(hB:SM κ ar pd st)(h:JL a b n out ia ib):wpS (model prog w) A E s (N4 a b out ia ib mg ac bc) (GL κ ar pd a b n n) st:=by
 obtain⟨p,la,lb,li⟩:=h;refine aD (aS (cn a ia (by lia)) ?_);have p:=p.pJ (show ia<a.size by lia);refine fz hB (fun _=>p.last) fun f=>?_;have g:=km f;have j:JL a b n (out.push a[ia]) (ia+1) ib:=⟨p,by lia,lb,by lia⟩
 exact⟨j,j⟩
theorem wI(hC:si prog w A s κ a₀)(ha:∀x∈a.toList,x∈a₀.toList)(hb:∀x∈b.toList,x∈a₀.toList)(hB:SM κ ar pd st)(h:JL a b n out ia ib):wpS (model prog w) A E s (N5 a b out ia ib mg ac bc) (GL κ ar pd a b n n) st:=by
 obtain⟨p,la,lb,li⟩:=h;refine aD (aS (cn b ib lb) ?_);have p:=p.pK lb;split
 .exact de hB p.done
 next f=>
 have g:ib+1≠b.size:=by simpa using f
 refine aD (aS (cn a ia (by lia)) ?_);refine aD (dv hC hB.kind (ha _ (by simp)) hb (by lia) (by lia) fun k hk=>?_);dsimp only;split
 .split
  .exact de hB (p.xN k).done
  next f=>
  have g:ib+1+k≠b.size:=by simpa using f
  exact wH hB ⟨p.xN k,la,by lia,by lia⟩
 .exact wH hB ⟨p,la,by lia,by lia⟩
theorem CL(hC:si prog w A s κ a₀)(ha:∀x∈a.toList,x∈a₀.toList)(hb:∀x∈b.toList,x∈a₀.toList)(hB:SM κ ar pd st)(h:JL a b n out ia ib):wpS (model prog w) A E s (N6 a b out ia ib mg ac bc) (GL κ ar pd a b n n) st:=by
 obtain⟨p,la,lb,li⟩:=h;refine aD (dU ?_);refine aD (aS (cn b ib lb) ?_);have oG:SM κ ar pd (SortSt.mk' (kindOf st) (arrOf st) (pendingOf st) mg (failedOf st)):=⟨hB.arr,hB.kind,hB.failed,hB.pend⟩
 refine aD (dv hC oG.kind (hb _ (by simp)) ha (by lia) (by lia) fun k hk=>?_);dsimp only;split
 .split
  .exact de oG (p.xM k).last
  next f=>
  split
  .exact de oG (p.xM k).done
  next f'=>
  have g:ia+k+1≠a.size:=by simpa using f
  have g':ia+k≠a.size:=by simpa using f'
  exact wI hC ha hb oG ⟨p.xM k,by lia,lb,by lia⟩
 .exact wI hC ha hb oG ⟨p,la,lb,li⟩
theorem CM{k:Nat}(hC:si prog w A s κ a₀)(ha:∀x∈a.toList,x∈a₀.toList)(hb:∀x∈b.toList,x∈a₀.toList)(hB:SM κ ar pd st)(h:JL a b (n+k) out ia ib){q:Nat×Nat}:wpS (model prog w) A E s (Re a b mg (none,out,ia,ib,q)) (GL κ ar pd a b (n+1) (n+(k+1))) st:=by
 obtain⟨p,la,lb,li⟩:=h;refine aD (aS (cn b ib lb) (aD (aS (cn a ia (by lia)) (aD (nJ hC hB.kind (hb _ (by simp)) (ha _ (by simp)) fun w=>?_)))));cases w
 .refine aD (aS (cn a ia (by lia)) ?_);have p:=p.pJ (show ia<a.size by lia);refine fz hB (fun _=>p.last) fun f=>?_;have g:=km f;exact⟨⟨p,by dsimp only;lia,lb,by dsimp only;lia⟩,p,by dsimp only;lia,lb,by dsimp only;lia⟩
 .refine aD (aS (cn b ib lb) ?_);have p:=p.pK lb;refine fz hB (fun _=>p.done) fun f=>?_;have g:=km f;exact⟨⟨p,la,by dsimp only at g |-;lia,by dsimp only;lia⟩,p,la,by dsimp only at g |-;lia,by dsimp only;lia⟩
theorem ss{Q:Array Keyed->SortSt->Prop}(hC:si prog w A s κ a₀)(hB:SM κ ar pd st)(ha:∀x∈a.toList,x∈a₀.toList)(hb:∀x∈b.toList,x∈a₀.toList)(a1:1<=a.size)(b1:1<=b.size)(h:∀out aP,out.Perm (a++b)->SM κ ar pd aP->Q out aP):wpS (model prog w) A E s (nG a b) Q st:=by
 rw[sk];refine aD (ji (dS ⟨rfl,?_⟩));refine aD (aS (cn b 0 (by lia)) ?_);have p0:PI a b #[b[0]] 0 1:=by
  have:PI a b #[] 0 0:=by unfold PI;simp
  exact this.pK (by lia)
 split
 .exact aE (h _ _ p0.done hB)
 next f=>
 split
 .exact aE (h _ _ p0.last hB)
 next f'=>
 have g:1≠b.size:=by simpa using f
 have g':0+1≠a.size:=by simpa using f'
 refine wG (J:=JL a b) hB ⟨p0,by lia,by lia,by lia⟩ (fun i k x y z h=>⟨h.1,h.2.1,h.2.2.1,by have:=h.2.2.2;lia⟩) (fun x y z h=>by have:=h.2;lia) (by lia) (fun mg n k x y z p st m j=>CM hC ha hb m j) (fun n x y z p st m j=>?_) h;unfold Rg;split <;> exact CL hC ha hb m j
end
abbrev ik(a b out:Array Keyed)(na nb:Nat):=a.extract 0 na++b.extract 0 nb++out.reverse
abbrev l7(a b out:Array Keyed)(na nb:Nat):=b.extract 0 nb++a.extract 0 na++out.reverse
abbrev EH ρ:=lJ×Nat×Nat×Array Keyed×ρ
def Rh(a b:Array Keyed)(mg:Nat)(t:EH (Nat×Nat)):pI (ForInStep (EH (Nat×Nat))):=do
 let x <- elem' b (t.2.2.1-1)
 let y <- elem' a (t.2.1-1)
 let some w <- lt' x y|pure (.done (some (ik a b t.2.2.2.1 t.2.1 t.2.2.1),t.2.1,t.2.2.1,t.2.2.2.1,t.2.2.2.2.1,t.2.2.2.2.2))
 if w then do
  let x <- elem' a (t.2.1-1)
  sj (t.2.1-1==0) (t.2.2.2.2.1+1>=mg) (ik a b (t.2.2.2.1.push x) (t.2.1-1) t.2.2.1) (t.2.1-1,t.2.2.1,t.2.2.2.1.push x,t.2.2.2.2.1+1,0)
 else do
  let x <- elem' b (t.2.2.1-1)
  sj (t.2.2.1-1==1) (t.2.2.2.2.2+1>=mg) (l7 a b (t.2.2.2.1.push x) t.2.1 (t.2.2.1-1)) (t.2.1,t.2.2.1-1,t.2.2.2.1.push x,0,t.2.2.2.2.2+1)
def N8(a b:Array Keyed)(na nb:Nat)(out:Array Keyed)(mg ac bc:Nat):pI (ForInStep (EH (Nat×Nat×Nat))):=do
 let x <- elem' a (na-1)
 sj (na-1==0) ((ac<7&&bc<7)=true) (ik a b (out.push x) (na-1) nb) (na-1,nb,out.push x,mg,ac,bc)
def N9(a b:Array Keyed)(na nb:Nat)(out:Array Keyed)(mg ac bc:Nat):pI (ForInStep (EH (Nat×Nat×Nat))):=do
 let x <- elem' b (nb-1)
 if nb-1==1 then pure (.done (some (l7 a b (out.push x) na (nb-1)),na,nb-1,out.push x,mg,ac,bc))
 else do
  let y <- elem' a (na-1)
  let some k <- eU true y b 0 (nb-1) (nb-1-1)|pure (.done (some (ik a b (out.push x) na (nb-1)),na,nb-1,out.push x,mg,ac,bc))
  if nb-1-k > 0 then
   if k==1 then pure (.done (some (l7 a b (out.push x++(b.extract k (nb-1)).reverse) na k),na,k,out.push x++(b.extract k (nb-1)).reverse,mg,ac,nb-1-k))
   else if k==0 then pure (.done (some (ik a b (out.push x++(b.extract k (nb-1)).reverse) na k),na,k,out.push x++(b.extract k (nb-1)).reverse,mg,ac,nb-1-k))
   else N8 a b na k (out.push x++(b.extract k (nb-1)).reverse) mg ac (nb-1-k)
  else N8 a b na (nb-1) (out.push x) mg ac (nb-1-k)
def N_(a b:Array Keyed)(na nb:Nat)(out:Array Keyed)(mg ac bc:Nat):pI (ForInStep (EH (Nat×Nat×Nat))):=do
 e_ mg
 let y <- elem' b (nb-1)
 let some k <- eU false y a 0 na (na-1)|pure (.done (some (ik a b out na nb),na,nb,out,mg,ac,bc))
 if na-k > 0 then
  if k==0 then pure (.done (some (ik a b (out++(a.extract k na).reverse) k nb),k,nb,out++(a.extract k na).reverse,mg,na-k,bc))
  else N9 a b k nb (out++(a.extract k na).reverse) mg (na-k) bc
 else N9 a b na nb out mg (na-k) bc
def Ri(a b:Array Keyed)(t:EH (Nat×Nat×Nat)):pI (ForInStep (EH (Nat×Nat×Nat))):=
 if t.2.2.2.2.1 > 1 then N_ a b t.2.1 t.2.2.1 t.2.2.2.1 (t.2.2.2.2.1-1) t.2.2.2.2.2.1 t.2.2.2.2.2.2 else N_ a b t.2.1 t.2.2.1 t.2.2.2.1 t.2.2.2.2.1 t.2.2.2.2.2.1 t.2.2.2.2.2.2
theorem su(a b:Array Keyed):nI a b=(do
 liftM (rule "list.sort.merge-hi")
 let x <- elem' a (a.size-1)
 if a.size-1==0 then pure (ik a b #[x] (a.size-1) b.size) else if b.size==1 then pure (l7 a b #[x] (a.size-1) b.size) else Ma (a.size+b.size) (Rh a b) (Ri a b) (a.size-1) b.size #[x]):=by kernel_rfl
def PH(a b out:Array Keyed)(na nb:Nat):Prop:=out.toList.Perm (a.toList.drop na++b.toList.drop nb)
theorem PH.pJ{a b out:Array Keyed}{na nb:Nat}(h:PH a b out na nb)(h1:1<=na)(hi:na-1<a.size):PH a b (out.push a[na-1]) (na-1) nb:=by
 unfold PH at h |-;have e:a.toList.drop (na-1)=a[na-1]::a.toList.drop na:=by
  have:=tI (l:=a.toList) (i:=na-1) (by simpa using hi);rw[this,Nat.sub_add_cancel h1];simp
 rw[ki,e];refine(h.append_right _).trans ?_;exact gJ
theorem PH.pK{a b out:Array Keyed}{na nb:Nat}(h:PH a b out na nb)(h1:1<=nb)(hi:nb-1<b.size):PH a b (out.push b[nb-1]) na (nb-1):=by
 unfold PH at h |-;have e:b.toList.drop (nb-1)=b[nb-1]::b.toList.drop nb:=by
  have:=tI (l:=b.toList) (i:=nb-1) (by simpa using hi);rw[this,Nat.sub_add_cancel h1];simp
 rw[ki,e];refine(h.append_right _).trans ?_;rw[cm];exact lq _ gJ
theorem jY{l:List Keyed}{i j:Nat}(h:i<=j):l.drop i=(l.drop i).take (j-i)++l.drop j:=by
 have:=(oU (j-i) (l.drop i)).symm;rw[List.drop_drop,show i+(j-i)=j by lia] at this;exact this
theorem PH.xM{a b out:Array Keyed}{na nb:Nat}(h:PH a b out na nb){k:Nat}(hk:k<=na):PH a b (out++(a.extract k na).reverse) k nb:=by
 unfold PH at h |-;rw[cQ,tY,cG];conv=>rhs;rw[jY hk]
 refine((h.append_left _).trans ?_ |> fun z=>(List.Perm.trans gJ ((ug _).append_right _)).trans z);rw[cm]
theorem PH.xN{a b out:Array Keyed}{na nb:Nat}(h:PH a b out na nb){k:Nat}(hk:k<=nb):PH a b (out++(b.extract k nb).reverse) na k:=by
 unfold PH at h |-;rw[cQ,tY,cG];conv=>rhs;rw[jY hk]
 refine(h.append_right _).trans ?_;rw[cm];refine lq _ ?_;exact gJ.trans ((ug _).append_right _)
theorem JR{a:Array Keyed}{j:Nat}:(a.extract 0 j).toList=a.toList.take j:=by rw[cG,uF,Nat.sub_zero]
theorem PH.done{a b out:Array Keyed}{na nb:Nat}(h:PH a b out na nb):(a.extract 0 na++b.extract 0 nb++out.reverse).Perm (a++b):=by
 rw[jB];unfold PH at h;rw[cQ,cQ,cQ,tY,JR,JR];conv=>rhs;rw[<-oU na a.toList,<-oU nb b.toList]
 refine(lq _ ((ug _).trans h)).trans ?_;rw[cm,cm];refine lq _ ?_;rw[<-cm,<-cm];exact tT _ gJ
theorem PH.first{a b out:Array Keyed}{na nb:Nat}(h:PH a b out na nb):(b.extract 0 nb++a.extract 0 na++out.reverse).Perm (a++b):=by
 refine Array.Perm.trans ?_ h.done;rw[jB];rw[cQ,cQ,cQ,cQ];exact tT _ gJ
section
variable {prog:Program} {w:World} {A:Around} {E:Value->Shared->Prop} {s:Shared} {κ:SortKind} {a₀:Array Keyed} {pd:Array (Nat×Nat×Nat)} {ar:Array Keyed} {a b out:Array Keyed} {na nb mg ac bc n:Nat} {st:SortSt}
def JH(a b:Array Keyed)(n na nb:Nat)(out:Array Keyed):Prop:=PH a b out na nb/\1<=na/\2<=nb/\na<=a.size/\nb<=b.size/\n+na+nb<=a.size+b.size
abbrev GH{ρ:Type}(κ:SortKind)(ar:Array Keyed)(pd:Array (Nat×Nat×Nat))(a b:Array Keyed)(n m:Nat):ForInStep (EH ρ)->SortSt->Prop:=GP κ ar pd (fun x=>x.Perm (a++b)) (fun t=>JH a b n t.1 t.2.1 t.2.2.1) fun t=>JH a b m t.1 t.2.1 t.2.2.1
theorem wJ(hB:SM κ ar pd st)(p:PH a b out na nb)(la:1<=na)(lb:2<=nb)(ma:na<=a.size)(mb:nb<=b.size)(li:n+na+nb<=a.size+b.size+1):wpS (model prog w) A E s (N8 a b na nb out mg ac bc) (GH κ ar pd a b n n) st:=by
 refine aD (aS (cn a (na-1) (by lia)) ?_);have p:=p.pJ la (show na-1<a.size by lia);refine fz hB (fun _=>p.done) fun f=>?_;have g:=km f;have j:JH a b n (na-1) nb (out.push a[na-1]):=⟨p,by lia,lb,by lia,mb,by lia⟩
 exact⟨j,j⟩
theorem wK(hC:si prog w A s κ a₀)(ha:∀x∈a.toList,x∈a₀.toList)(hb:∀x∈b.toList,x∈a₀.toList)(hB:SM κ ar pd st)(h:JH a b n na nb out):wpS (model prog w) A E s (N9 a b na nb out mg ac bc) (GH κ ar pd a b n n) st:=by
 obtain⟨p,la,lb,ma,mb,li⟩:=h;refine aD (aS (cn b (nb-1) (by lia)) ?_);have p:=p.pK (show 1<=nb by lia) (show nb-1<b.size by lia);split
 .exact de hB p.first
 next f=>
 have g:nb-1≠1:=by simpa using f
 refine aD (aS (cn a (na-1) (by lia)) ?_);refine aD (dv hC hB.kind (ha _ (by simp)) hb (by lia) (by lia) fun k hk=>?_);dsimp only;split
 .split
  .exact de hB (p.xN hk).first
  next f=>
  split
  .exact de hB (p.xN hk).done
  next f'=>
  have g:k≠1:=by simpa using f
  have g':k≠0:=by simpa using f'
  exact wJ hB (p.xN hk) la (by lia) ma (by lia) (by lia)
 .exact wJ hB p la (by lia) ma (by lia) (by lia)
theorem CN(hC:si prog w A s κ a₀)(ha:∀x∈a.toList,x∈a₀.toList)(hb:∀x∈b.toList,x∈a₀.toList)(hB:SM κ ar pd st)(h:JH a b n na nb out):wpS (model prog w) A E s (N_ a b na nb out mg ac bc) (GH κ ar pd a b n n) st:=by
 obtain⟨p,la,lb,ma,mb,li⟩:=h;refine aD (dU ?_);refine aD (aS (cn b (nb-1) (by lia)) ?_);have oG:SM κ ar pd (SortSt.mk' (kindOf st) (arrOf st) (pendingOf st) mg (failedOf st)):=⟨hB.arr,hB.kind,hB.failed,hB.pend⟩
 refine aD (dv hC oG.kind (hb _ (by simp)) ha (by lia) (by lia) fun k hk=>?_);dsimp only;split
 .split
  .exact de oG (p.xM hk).done
  next f=>
  have g:k≠0:=by simpa using f
  exact wK hC ha hb oG ⟨p.xM hk,by lia,lb,by lia,mb,by lia⟩
 .exact wK hC ha hb oG ⟨p,la,lb,ma,mb,li⟩
theorem CO{k:Nat}(hC:si prog w A s κ a₀)(ha:∀x∈a.toList,x∈a₀.toList)(hb:∀x∈b.toList,x∈a₀.toList)(hB:SM κ ar pd st)(h:JH a b (n+k) na nb out){q:Nat×Nat}:wpS (model prog w) A E s (Rh a b mg (none,na,nb,out,q)) (GH κ ar pd a b (n+1) (n+(k+1))) st:=by
 obtain⟨p,la,lb,ma,mb,li⟩:=h;refine aD (aS (cn b (nb-1) (by lia)) (aD (aS (cn a (na-1) (by lia)) (aD (nJ hC hB.kind (hb _ (by simp)) (ha _ (by simp)) fun w=>?_)))));cases w
 .refine aD (aS (cn b (nb-1) (by lia)) ?_);have p:=p.pK (show 1<=nb by lia) (show nb-1<b.size by lia);refine fz hB (fun _=>p.first) fun f=>?_;have g:nb-1≠1:=km f;have j:JH a b (n+(k+1)) na (nb-1) (out.push b[nb-1]):=⟨p,la,by lia,ma,by lia,by lia⟩
  exact⟨⟨p,la,j.2.2.1,ma,j.2.2.2.2.1,by have:=j.2.2.2.2.2;dsimp only;lia⟩,j⟩
 .refine aD (aS (cn a (na-1) (by lia)) ?_);have p:=p.pJ la (show na-1<a.size by lia);refine fz hB (fun _=>p.done) fun f=>?_;have g:na-1≠0:=km f;have j:JH a b (n+(k+1)) (na-1) nb (out.push a[na-1]):=⟨p,by lia,lb,by lia,mb,by lia⟩
  exact⟨⟨p,j.2.1,lb,j.2.2.2.1,mb,by have:=j.2.2.2.2.2;dsimp only;lia⟩,j⟩
theorem sv{Q:Array Keyed->SortSt->Prop}(hC:si prog w A s κ a₀)(hB:SM κ ar pd st)(ha:∀x∈a.toList,x∈a₀.toList)(hb:∀x∈b.toList,x∈a₀.toList)(a1:1<=a.size)(b1:1<=b.size)(h:∀out aP,out.Perm (a++b)->SM κ ar pd aP->Q out aP):wpS (model prog w) A E s (nI a b) Q st:=by
 rw[su];refine aD (ji (dS ⟨rfl,?_⟩));refine aD (aS (cn a (a.size-1) (by lia)) ?_);have p0:PH a b #[a[a.size-1]] (a.size-1) b.size:=by
  have:PH a b #[] a.size b.size:=by unfold PH;simp
  exact this.pJ a1 (by lia)
 split
 .exact aE (h _ _ p0.done hB)
 next f=>
 split
 .exact aE (h _ _ p0.first hB)
 next f'=>
 have g:a.size-1≠0:=by simpa using f
 have g':b.size≠1:=by simpa using f'
 refine wG (J:=JH a b) hB ⟨p0,by lia,by lia,by lia,by lia,by lia⟩ (fun i k x y z h=>⟨h.1,h.2.1,h.2.2.1,h.2.2.2.1,h.2.2.2.2.1,by have:=h.2.2.2.2.2;lia⟩) (fun x y z h=>by have:=h.2;lia) (by lia) (fun mg n k x y z p st m j=>CO hC ha hb m j) (fun n x y z p st m j=>?_) h;unfold Ri;split <;> exact CN hC ha hb m j
end
section
variable {prog:Program} {w:World} {A:Around} {E:Value->Shared->Prop} {s:Shared} {κ:SortKind} {a₀:Array Keyed} {pd:Array (Nat×Nat×Nat)}
theorem xO{st:SortSt}{lo lj:Nat}{Q:Option Nat->SortSt->Prop}(hC:si prog w A s κ a₀)(hn:lo+lj<=a₀.size)(h1:1<=lj)(hB:SQ κ a₀ pd st)(h:∀n aP,SQ κ a₀ pd aP->1<=n->n<=lj->Q (some n) aP):wpS (model prog w) A E s (countRun' lo lj) Q st:=by
 rw[countRun'_eq];refine aD (cx (di (I:=fun i c aP=>SQ κ a₀ pd aP/\∃m,c=(none,m)/\m=i) (Q:=fun c aP=>SQ κ a₀ pd aP/\∃m,c=(none,m)/\1<=m/\m<=lj) ?_ ?_ ⟨hB,_,rfl,rfl⟩) ?_)
 .rintro i c BM HW Cz ⟨Ac,m,rfl,rfl⟩;dsimp only;refine aD (c_ hC Ac (by lia) (by lia) fun b1=>?_);cases b1
  .exact aE ⟨Ac,_,rfl,rfl⟩
  .exact aE ⟨Ac,_,rfl,by lia,by lia⟩
 .rintro c BM ⟨Ac,m,rfl,rfl⟩;exact⟨Ac,_,rfl,by lia,by lia⟩
 .rintro c BM ⟨Ac,n,rfl,n1,n2⟩;dsimp only;by_cases e1:(n==lj)=true
  .rw[ak e1];exact aE (h n BM Ac n1 n2)
  rw[al e1];have g1:¬ (n=lj):=by simpa using e1
  by_cases e2:n > 1
  .rw[ak e2];refine aD (c_ hC Ac (by lia) (by lia) fun b2=>?_);cases b2
   .dsimp only;rw[al (by decide)];refine aD (eC Ac fun o5 oG=>?_);refine aD (ji (dS ⟨rfl,?_⟩));refine aD (cx (di (I:=fun i c aP=>SQ κ a₀ pd aP/\∃m q,c=(none,m,q)/\m=i) (Q:=fun c aP=>SQ κ a₀ pd aP/\∃m q,c=(none,m,q)/\1<=m/\m<=lj) ?_ ?_ ⟨oG,_,_,rfl,rfl⟩) ?_)
    .rintro i c uR HW Cz ⟨lI,m,q,rfl,rfl⟩;dsimp only;refine aD (c_ hC lI (by lia) (by lia) fun b3=>?_);cases b3
     .dsimp only;rw[al (by decide)];refine aD (c_ hC lI (by lia) (by lia) fun b4=>?_);cases b4
      .exact aE ⟨lI,_,_,rfl,rfl⟩
      .exact aE ⟨lI,_,_,rfl,by lia,by lia⟩
     .dsimp only;rw[ak rfl];split
      .exact aD (eC lI fun oo F3=>aE ⟨F3,_,_,rfl,rfl⟩)
      .exact aE ⟨lI,_,_,rfl,rfl⟩
    .rintro c uR ⟨lI,m,q,rfl,rfl⟩;exact⟨lI,_,_,rfl,by lia,by lia⟩
    .rintro c uR ⟨lI,m,q,rfl,m1,m2⟩;dsimp only;split
     .refine aD (eC lI fun oo F3=>?_);refine aD (eC F3 fun rA F4=>?_);refine aD (cx (di (I:=fun i c aP=>SQ κ a₀ pd aP/\∃m,c=(none,m)/\m=i) (Q:=fun c aP=>SQ κ a₀ pd aP/\∃m,c=(none,m)/\1<=m/\m<=lj) ?_ ?_ ⟨F4,_,rfl,rfl⟩) ?_)
      .rintro i c vy HW Cz ⟨jt,m,rfl,rfl⟩;dsimp only;refine aD (c_ hC jt (by lia) (by lia) fun b6=>?_);cases b6
       .exact aE ⟨jt,_,rfl,rfl⟩
       .exact aE ⟨jt,_,rfl,by lia,by lia⟩
      .rintro c vy ⟨jt,m,rfl,rfl⟩;exact⟨jt,_,rfl,by lia,by lia⟩
      .rintro c vy ⟨jt,m,rfl,h1,h2⟩;exact aE (h m vy jt h1 h2)
     .refine aD (eC lI fun rA F4=>?_);refine aD (cx (di (I:=fun i c aP=>SQ κ a₀ pd aP/\∃m,c=(none,m)/\m=i) (Q:=fun c aP=>SQ κ a₀ pd aP/\∃m,c=(none,m)/\1<=m/\m<=lj) ?_ ?_ ⟨F4,_,rfl,rfl⟩) ?_)
      .rintro i c vy HW Cz ⟨jt,m,rfl,rfl⟩;dsimp only;refine aD (c_ hC jt (by lia) (by lia) fun b6=>?_);cases b6
       .exact aE ⟨jt,_,rfl,rfl⟩
       .exact aE ⟨jt,_,rfl,by lia,by lia⟩
      .rintro c vy ⟨jt,m,rfl,rfl⟩;exact⟨jt,_,rfl,by lia,by lia⟩
      .rintro c vy ⟨jt,m,rfl,h1,h2⟩;exact aE (h m vy jt h1 h2)
   .exact aE (h n BM Ac n1 n2)
  .rw[al e2];have oG:=Ac;refine aD (ji (dS ⟨rfl,?_⟩));refine aD (cx (di (I:=fun i c aP=>SQ κ a₀ pd aP/\∃m q,c=(none,m,q)/\m=i) (Q:=fun c aP=>SQ κ a₀ pd aP/\∃m q,c=(none,m,q)/\1<=m/\m<=lj) ?_ ?_ ⟨oG,_,_,rfl,rfl⟩) ?_)
   .rintro i c uR HW Cz ⟨lI,m,q,rfl,rfl⟩;dsimp only;refine aD (c_ hC lI (by lia) (by lia) fun b3=>?_);cases b3
    .dsimp only;rw[al (by decide)];refine aD (c_ hC lI (by lia) (by lia) fun b4=>?_);cases b4
     .exact aE ⟨lI,_,_,rfl,rfl⟩
     .exact aE ⟨lI,_,_,rfl,by lia,by lia⟩
    .dsimp only;rw[ak rfl];split
     .exact aD (eC lI fun oo F3=>aE ⟨F3,_,_,rfl,rfl⟩)
     .exact aE ⟨lI,_,_,rfl,rfl⟩
   .rintro c uR ⟨lI,m,q,rfl,rfl⟩;exact⟨lI,_,_,rfl,by lia,by lia⟩
   .rintro c uR ⟨lI,m,q,rfl,m1,m2⟩;dsimp only;split
    .refine aD (eC lI fun oo F3=>?_);refine aD (eC F3 fun rA F4=>?_);refine aD (cx (di (I:=fun i c aP=>SQ κ a₀ pd aP/\∃m,c=(none,m)/\m=i) (Q:=fun c aP=>SQ κ a₀ pd aP/\∃m,c=(none,m)/\1<=m/\m<=lj) ?_ ?_ ⟨F4,_,rfl,rfl⟩) ?_)
     .rintro i c vy HW Cz ⟨jt,m,rfl,rfl⟩;dsimp only;refine aD (c_ hC jt (by lia) (by lia) fun b6=>?_);cases b6
      .exact aE ⟨jt,_,rfl,rfl⟩
      .exact aE ⟨jt,_,rfl,by lia,by lia⟩
     .rintro c vy ⟨jt,m,rfl,rfl⟩;exact⟨jt,_,rfl,by lia,by lia⟩
     .rintro c vy ⟨jt,m,rfl,h1,h2⟩;exact aE (h m vy jt h1 h2)
    .refine aD (eC lI fun rA F4=>?_);refine aD (cx (di (I:=fun i c aP=>SQ κ a₀ pd aP/\∃m,c=(none,m)/\m=i) (Q:=fun c aP=>SQ κ a₀ pd aP/\∃m,c=(none,m)/\1<=m/\m<=lj) ?_ ?_ ⟨F4,_,rfl,rfl⟩) ?_)
     .rintro i c vy HW Cz ⟨jt,m,rfl,rfl⟩;dsimp only;refine aD (c_ hC jt (by lia) (by lia) fun b6=>?_);cases b6
      .exact aE ⟨jt,_,rfl,rfl⟩
      .exact aE ⟨jt,_,rfl,by lia,by lia⟩
     .rintro c vy ⟨jt,m,rfl,rfl⟩;exact⟨jt,_,rfl,by lia,by lia⟩
     .rintro c vy ⟨jt,m,rfl,h1,h2⟩;exact aE (h m vy jt h1 h2)
end
abbrev HX:=Nat×Nat×Nat
def fA:List HX->Nat->Nat->Prop
 |[],s,e=>s=e
 |r::rs,s,e=>r.1=s/\1<=r.2.1/\fA rs (s+r.2.1) e
theorem fA.le:∀ {l:List HX} {s e:Nat},fA l s e->s<=e
 |[],_,_,h=>qp h
 |r::rs,s,e,⟨_,h2,h3⟩=>by have:=h3.le;lia
theorem fA.two:∀ {l:List HX} {s e i:Nat} {x y:HX},fA l s e->l[i]?=some x->l[i+1]?=some y->
  x.1+x.2.1=y.1/\y.1+y.2.1<=e/\1<=x.2.1/\1<=y.2.1/\∀p,fA ((l.set i (x.1,x.2.1+y.2.1,p)).eraseIdx (i+1)) s e
 |r::q::rs,s,e,0,x,y,⟨h1,h2,h3,h4,h5⟩,hx,hy=>by
  obtain rfl:=bA hx;obtain rfl:=bA hy;have:=h5.le;refine⟨by lia,by lia,h2,h4,fun p=>⟨h1,by show 1<=r.2.1+q.2.1;lia,?_⟩⟩;show fA rs (s+(r.2.1+q.2.1)) e;rw[<-mR];exact h5
 |r::rs,s,e,i+1,x,y,⟨h1,h2,h3⟩,hx,hy=>by
  obtain⟨a1,a2,a3,a4,a5⟩:=fA.two (i:=i) h3 hx hy;exact⟨a1,a2,a3,a4,fun p=>⟨h1,h2,a5 p⟩⟩
theorem fA.push:∀ {l:List HX} {s e n p:Nat},fA l s e->1<=n->fA (l++[(e,n,p)]) s (e+n)
 |[],s,e,n,p,h,hn=>⟨h.symm,hn,by rw[h];rfl⟩
 |r::rs,s,e,n,p,⟨h1,h2,h3⟩,hn=>⟨h1,h2,fA.push h3 hn⟩
theorem fA.pw:∀ {l:List HX} {s e:Nat} (i p:Nat),fA l s e->fA (l.modify i fun r=>(r.1,r.2.1,p)) s e
 |[],s,e,i,p,h=>by cases i <;> exact h
 |r::rs,s,e,0,p,⟨h1,h2,h3⟩=>⟨h1,h2,h3⟩
 |r::rs,s,e,i+1,p,⟨h1,h2,h3⟩=>⟨h1,h2,fA.pw i p h3⟩
theorem CP{M:Model}{A:Around}{E:Value->Shared->Prop}{s:Shared}{σ:Type}{x:σ}{Q:PUnit->σ->Prop}{st:σ}(h:Q ⟨⟩ x):wpS M A E s (set x:StateT σ Sem PUnit) Q st:=by
 unfold wpS;rw[StateT.run_set];exact wpAny_pure ⟨rfl,h⟩
theorem sw(i:Nat):mergeAt' i=(do
 let s <- get
 let (some (sa,na,JS),some (sb,nb,_)):=((pendingOf s)[i]?,(pendingOf s)[i+1]?)|unsupported "internal:list.sort.pending"
 set (setPending s (((pendingOf s).setIfInBounds i (sa,na+nb,JS)).eraseIdxIfInBounds (i+1)))
 let some k <- eU false (<-elem' (arrOf s) sb) (arrOf s) sa na 0|return false
 let (sa,na):=(sa+k,na-k)
 if na==0 then return true
 let some nb <- eU true (<-elem' (arrOf s) (sa+na-1)) (arrOf s) sb nb (nb-1)|return false
 if nb==0 then return true
 let x:=(arrOf s).extract sa sb
 let y:=(arrOf s).extract sb (sb+nb)
 let merged <- if na<=nb then nG x y else nI x y
 modify fun s=>setArr s (merged.toList.zipIdx.foldl (fun a (p,j)=>a.setIfInBounds (sa+j) p) (arrOf s))
 return (failedOf (<-get)).isNone):=rfl
theorem nM{sa:Nat}:∀ (l:List Keyed) (k:Nat) (arr:Array Keyed),sa+k+l.length<=arr.size->
  ((l.zipIdx k).foldl (fun (a:Array Keyed) (x:Keyed×Nat)=>a.setIfInBounds (sa+x.2) x.1) arr).toList=arr.toList.take (sa+k)++l++arr.toList.drop (sa+k+l.length)
 |[],k,arr,_=>by simp
 |x::l,k,arr,h=>by
  rw[cI] at h;have hs:sa+k<arr.toList.length:=by rw[mr];lia
  rw[ut,qh,nM l (k+1) _ (by rw[Array.size_setIfInBounds];lia),yI];dsimp only;have e1:(arr.toList.set (sa+k) x).take (sa+(k+1))=arr.toList.take (sa+k)++[x]:=by
   rw[<-mR,eO,mn hs,List.take_set_of_le (aK _)];rfl
  have e2:(arr.toList.set (sa+k) x).drop (sa+(k+1)+l.length)=arr.toList.drop (sa+k+(x::l).length):=by
   rw[List.drop_set_of_lt (by lia),cI];congr 1;lia
  rw[e1,e2,cm,cm,cm];rfl
section
variable {prog:Program} {w:World} {A:Around} {E:Value->Shared->Prop} {s:Shared} {κ:SortKind} {a₀:Array Keyed}
def SR(κ:SortKind)(a₀:Array Keyed)(lo:Nat)(st:SortSt):Prop:=∃pd,SQ κ a₀ pd st/\fA pd.toList 0 lo/\lo<=a₀.size
theorem il{st:SortSt}{i lo:Nat}{Q:Bool->SortSt->Prop}(hC:si prog w A s κ a₀)(hB:SR κ a₀ lo st)(hi:i+1<(pendingOf st).size)(h:∀aP,SR κ a₀ lo aP->Q true aP):wpS (model prog w) A E s (mergeAt' i) Q st:=by
 obtain⟨pd,hq,hr,L3⟩:=hB;rw[hq.pend] at hi;rw[sw];refine aD (eI ?_);have e1:pd[i]?=some pd[i]:=cn pd i (by lia);have e2:pd[i+1]?=some pd[i+1]:=cn pd (i+1) hi;obtain⟨a1,a2,a3,a4,a5⟩:=hr.two (i:=i) (x:=pd[i]) (y:=pd[i+1]) (by simpa using e1) (by simpa using e2);rw[hq.pend,e1,e2];revert a1 a2 a3 a4 a5;generalize pd[i]=x;generalize pd[i+1]=y;obtain⟨sa,na,pw⟩:=x;obtain⟨sb,nb,VM⟩:=y;intro a1 a2 a3 a4 a5;dsimp only at a1 a2 a3 a4 a5 |-;obtain⟨CQ,JT⟩:∃CQ,CQ=(pd.setIfInBounds i (sa,na+nb,pw)).eraseIdxIfInBounds (i+1):=⟨_,rfl⟩
 have wm:fA CQ.toList 0 lo:=by
  rw[JT,Array.toList_eraseIdxIfInBounds,yI];exact a5 pw
 refine aD (CP ?_);rw[<-JT];have Ez:SM κ (arrOf st) CQ (setPending st CQ):=⟨rfl,hq.kind,hq.failed,rfl⟩
 have j_:=hq.size;have pH:∀x∈(arrOf st).toList,x∈a₀.toList:=fun x hx=>(jB.mp hq.perm).mem_iff.mp hx;have cN:∀aP,SM κ (arrOf st) CQ aP->SR κ a₀ lo aP:=fun aP m=>⟨CQ,⟨by rw[m.arr];exact hq.perm,m.kind,m.failed,m.pend⟩,wm,L3⟩
 refine aD (aS (cn (arrOf st) sb (by lia)) ?_);refine aD (dv hC Ez.kind (pH _ (by simp)) pH (by lia) (by lia) fun k hk=>?_);dsimp only;by_cases f1:(na-k==0)=true
 .rw[ak f1];exact aE (h _ (cN _ Ez))
 rw[al f1];have g1:¬ (na-k=0):=by simpa using f1
 refine aD (aS (cn (arrOf st) (sa+k+(na-k)-1) (by lia)) ?_);refine aD (dv hC Ez.kind (pH _ (by simp)) pH (by lia) (by lia) fun k2 TJ=>?_);dsimp only;by_cases f2:(k2==0)=true
 .rw[ak f2];exact aE (h _ (cN _ Ez))
 rw[al f2];have g2:¬ (k2=0):=by simpa using f2
 have hx:∀x∈((arrOf st).extract (sa+k) sb).toList,x∈a₀.toList:=fun x hx=>pH x (by rw[cG] at hx;exact qa (oX hx));have hy:∀x∈((arrOf st).extract sb (sb+k2)).toList,x∈a₀.toList:=fun x hx=>pH x (by rw[cG] at hx;exact qa (oX hx));have sx:((arrOf st).extract (sa+k) sb).size=sb-(sa+k):=by rw[Array.size_extract];lia
 have sy:((arrOf st).extract sb (sb+k2)).size=k2:=by rw[Array.size_extract];lia
 have last:∀ (out:Array Keyed) (aP:SortSt),out.Perm ((arrOf st).extract (sa+k) sb++(arrOf st).extract sb (sb+k2))->SM κ (arrOf st) CQ aP->wpS (model prog w) A E s (do
   modify fun s=>setArr s (out.toList.zipIdx.foldl (fun a (p,j)=>a.setIfInBounds (sa+k+j) p) (arrOf s))
   return (failedOf (<-get)).isNone) Q aP:=by
  intro out aP hp m;refine aD (dU ?_);refine aD (eI (aE ?_));have Rj:out.toList.length=sb-(sa+k)+k2:=by
   rw[mr,hp.size_eq,Array.size_append,sx,sy]
  have wl:=nM (sa:=sa+k) out.toList 0 (arrOf aP) (by rw[m.arr,Rj];lia);have pm:(out.toList.zipIdx.foldl (fun a (p,j)=>a.setIfInBounds (sa+k+j) p) (arrOf aP)).Perm (arrOf st):=by
   rw[jB];refine(qj wl).trans ?_;rw[m.arr,Rj,Nat.add_zero];have HS:=jB.mp hp;rw[cQ,cG,cG] at HS;refine((HS.append_left _).append_right _).trans ?_;have e1:(arrOf st).toList.drop (sa+k)=((arrOf st).toList.drop (sa+k)).take (sb-(sa+k))++(arrOf st).toList.drop sb:=jY (by lia);have e2:(arrOf st).toList.drop sb=((arrOf st).toList.drop sb).take (sb+k2-sb)++(arrOf st).toList.drop (sb+k2):=jY (by lia);have e3:sa+k+(sb-(sa+k)+k2)=sb+k2:=by lia
   rw[e3];refine qj ?_;conv=>rhs;rw[<-oU (sa+k) (arrOf st).toList,e1,e2]
   simp only[cm]
  have hf:(failedOf aP).isNone=true:=by rw[m.failed];rfl
  show Q (failedOf aP).isNone _;rw[hf];exact h _ ⟨CQ,⟨pm.trans hq.perm,m.kind,m.failed,m.pend⟩,wm,L3⟩
 by_cases f3:na-k<=k2
 .rw[ak f3];exact aD (ss hC Ez hx hy (by lia) (by lia) fun out aP hp m=>last out aP hp m)
 .rw[al f3];exact aD (sv hC Ez hx hy (by lia) (by lia) fun out aP hp m=>last out aP hp m)
theorem sA{c:Prop}[Decidable c]{x:Nat}:(if c then x-1 else x)<=x:=by split <;> lia
theorem SR.pw{lo:Nat}{st:SortSt}(h:SR κ a₀ lo st)(i p:Nat):SR κ a₀ lo (setPending st ((pendingOf st).modify i fun r=>(r.1,r.2.1,p))):=by
 obtain⟨pd,hq,hr,hl⟩:=h;refine⟨_,⟨hq.perm,hq.kind,hq.failed,rfl⟩,?_,hl⟩;show fA ((pendingOf st).modify i fun r=>(r.1,r.2.1,p)).toList 0 lo;rw[hq.pend,Array.toList_modify];exact hr.pw i p
theorem SR.push{lo n:Nat}{st:SortSt}(h:SR κ a₀ lo st)(h1:1<=n)(hn:lo+n<=a₀.size):SR κ a₀ (lo+n) (setPending st ((pendingOf st).push (lo,n,0))):=by
 obtain⟨pd,hq,hr,hl⟩:=h;refine⟨_,⟨hq.perm,hq.kind,hq.failed,rfl⟩,?_,hn⟩;show fA ((pendingOf st).push (lo,n,0)).toList 0 (lo+n);rw[hq.pend,ki];exact hr.push h1
theorem xP{st:SortSt}{Q:Unit->SortSt->Prop}(hC:si prog w A s κ a₀)(hp:(arrOf st).Perm a₀)(hk:kindOf st=κ)(hf:failedOf st=none)(TK:pendingOf st=#[])(h:∀aP,(arrOf aP).Perm a₀->failedOf aP=none->Q () aP):wpS (model prog w) A E s sortRuns' Q st:=by
 have h0:SR κ a₀ 0 st:=⟨#[],⟨hp,hk,hf,TK⟩,rfl,cK _⟩
 have j_:(arrOf st).size=a₀.size:=hp.size_eq;rw[sortRuns'_eq];refine aD (eI ?_);dsimp only;rw[j_];refine aD (cx (di (I:=fun _ c aP=>∃lo,c=(none,lo)/\SR κ a₀ lo aP) (Q:=fun c aP=>∃lo,c=(none,lo)/\SR κ a₀ lo aP) ?_ (fun c aP hh=>hh) ⟨0,rfl,h0⟩) ?_)
 .rintro i c BM _ _ ⟨lo,rfl,hR⟩;dsimp only;by_cases e1:lo>=a₀.size
  .rw[ak e1];exact aE ⟨lo,rfl,hR⟩
  rw[al e1];have L3:lo<a₀.size:=by lia
  obtain⟨pd,hq,hr,hl⟩:=hR;refine aD (xO hC (by lia) (by lia) hq fun n o5 L7 n1 n2=>?_);dsimp only;by_cases hm:n<minRun' a₀.size a₀.size 0
  .rw[ak hm];refine aD (ji (dS ⟨rfl,?_⟩));refine aD (CK hC (by lia) L7 fun uR QQ=>?_);simp only[qm,kh,fT];have BF:SR κ a₀ lo uR:=⟨pd,QQ,hr,hl⟩
   refine aD (eI ?_);cases hb:(pendingOf uR).back? with
   |none=>
    dsimp only;exact aD (dU (aE ⟨_,rfl,BF.push (by lia) (by lia)⟩))
   |some r=>
    obtain⟨s1,TN,TQ⟩:=r;dsimp only;refine aD (cx (di (I:=fun _ c aP=>c=(none,())/\SR κ a₀ lo aP) (Q:=fun c aP=>c=(none,())/\SR κ a₀ lo aP) ?_ (fun c aP hh=>hh) ⟨rfl,BF⟩) ?_)
    .rintro x c oo _ _ ⟨rfl,sB⟩;refine aD (eI ?_);by_cases hs:(pendingOf oo).size > 1
     .rw[ak hs,cn (pendingOf oo) ((pendingOf oo).size-2) (by lia)];generalize (pendingOf oo)[(pendingOf oo).size-2]=r4;obtain⟨_,_,JU⟩:=r4;dsimp only;split
      .exact aE ⟨rfl,sB⟩
      .refine aD (il hC sB (by lia) fun rA JV=>?_);simp only[qm,kh,fT];exact aE ⟨rfl,JV⟩
     .rw[al hs];exact aE ⟨rfl,sB⟩
    .rintro c oo ⟨rfl,sB⟩;dsimp only;exact aD (dU (aD (dU (aE ⟨_,rfl,(sB.pw _ _).push (by lia) (by lia)⟩))))
  .rw[al hm];have BF:SR κ a₀ lo o5:=⟨pd,L7,hr,hl⟩
   refine aD (eI ?_);cases hb:(pendingOf o5).back? with
   |none=>
    dsimp only;exact aD (dU (aE ⟨_,rfl,BF.push (by lia) (by lia)⟩))
   |some r=>
    obtain⟨s1,TN,TQ⟩:=r;dsimp only;refine aD (cx (di (I:=fun _ c aP=>c=(none,())/\SR κ a₀ lo aP) (Q:=fun c aP=>c=(none,())/\SR κ a₀ lo aP) ?_ (fun c aP hh=>hh) ⟨rfl,BF⟩) ?_)
    .rintro x c oo _ _ ⟨rfl,sB⟩;refine aD (eI ?_);by_cases hs:(pendingOf oo).size > 1
     .rw[ak hs,cn (pendingOf oo) ((pendingOf oo).size-2) (by lia)];generalize (pendingOf oo)[(pendingOf oo).size-2]=r4;obtain⟨_,_,JU⟩:=r4;dsimp only;split
      .exact aE ⟨rfl,sB⟩
      .refine aD (il hC sB (by lia) fun rA JV=>?_);simp only[qm,kh,fT];exact aE ⟨rfl,JV⟩
     .rw[al hs];exact aE ⟨rfl,sB⟩
    .rintro c oo ⟨rfl,sB⟩;dsimp only;exact aD (dU (aD (dU (aE ⟨_,rfl,(sB.pw _ _).push (by lia) (by lia)⟩))))
 .rintro c BM ⟨lo,rfl,hR⟩;dsimp only;refine aD (cx (di (I:=fun _ c aP=>c=(none,())/\SR κ a₀ lo aP) (Q:=fun c aP=>c=(none,())/\SR κ a₀ lo aP) ?_ (fun c aP hh=>hh) ⟨rfl,hR⟩) ?_)
  .rintro x c oo _ _ ⟨rfl,sB⟩;refine aD (eI ?_);by_cases hs:(pendingOf oo).size<=1
   .rw[ak hs];exact aE ⟨rfl,sB⟩
   rw[al hs];refine aD (il hC sB ?_ fun rA JV=>?_)
   .exact gm (Nat.succ_le_succ sA) (show (pendingOf oo).size-2+1<(pendingOf oo).size by lia)
   .simp only[qm,kh,fT];exact aE ⟨rfl,JV⟩
  .rintro c oo ⟨rfl,pd,hq,_⟩;exact aE (h _ hq.perm hq.failed)
end
end PyProof.Rows
namespace L2
open PySem PySem.Spec PyProof.Rows PySem.W
def gf(h:Heap)(vs:List Value):Prop:=∀v∈vs,∃a o n x t y u,v=Value.ref a/\h.get? a=some o/\o.cls=.type "tuple"/\o.data=.seq #[.int x t,.int y u] n
theorem gf.fU{h:Heap}:∀ {vs:List Value},gf h vs->∃fs,KatTups h vs fs/\fs.length=vs.length/\∀v∈fs,∃n t,v=Value.int n t
 |[],_=>⟨[],trivial,rfl,fun v hv=>nomatch hv⟩
 |v::vs,hp=>by
  obtain⟨fs,k1,k2,k3⟩:=gf.fU (vs:=vs) fun b hb=>hp b (bD _ hb);obtain⟨a,o,n,x,t,y,u,rfl,e,c,d⟩:=hp v b9;refine⟨.int x t::fs,KatTups.cons e c d rfl k1,by simp[k2],fun v hv=>?_⟩;rcases a_.mp hv with z|z
  .exact⟨x,t,z⟩
  .exact k3 v z
section
variable {prog:Program} {w:World} {A:Around} {E:Value->Shared->Prop} {s:Shared}
theorem xQ{vs:List Value}(hp:gf s.heap vs):si prog w A s (tuples' true) (vs.toArray.zip vs.toArray):=by
 have mem:∀x∈(vs.toArray.zip vs.toArray).toList,x.1∈vs:=by
  intro x hx;rw[Array.toList_zip] at hx;exact(kq hx).1
 intro x y hx hy Q E' q;obtain⟨a,o,n,x1,t1,x2,t2,e1,eo,_,ed⟩:=hp x.1 (mem x hx);obtain⟨b,o',n',y1,u1,y2,u2,e2,TR,_,TU⟩:=hp y.1 (mem y hy);rw[e1,e2];refine kat_lt eo ed TR TU (kat_cons (uG ?_));by_cases h1:x1=y1
 .rw[eH.mpr h1];refine kat_yes (kat_cons (uG ?_));by_cases h2:x2=y2
  .rw[eH.mpr h2];exact kat_yes (kat_nil (q _))
  .rw[ka.mpr h2];exact kat_no (kat_one _ _ (lt_int (q _)))
 .rw[ka.mpr h1];exact kat_no (oneLt_int (q _))
theorem CU{vs:List Value}:((vs.toArray.zip vs.toArray).map (·.2)).toList=vs:=by
 rw[qd,Array.toList_zip];show (vs.zip vs).map (·.2)=vs;rw[<-List.unzip_snd,List.unzip_zip_right (aK _)]
theorem lK{a:Addr}{vs:List Value}{n:Nat}{P:PySem.Fin->Shared->Prop}(ho:s.heap.get? a=some (seqObj "list" vs.toArray n))(hp:gf s.heap vs)(hz:vs.length<=4096)(h:∀ (out:Array Value),out.toList.Perm vs->P (.done (.ret .none)) { s with heap:=sortedHeap s.heap a vs out }):
  wpAny (model prog w) A (Builtin.«list.sort» ⟨[.ref a],[]⟩) P E s:=by
 rw[list_sort_plain];have ha:a<s.heap.objs.size:=a9 ho;have HR:vs.toArray.size<=sizeLine:=by rw[ce,gX];lia
 refine ao (listItems_at ho rfl ?_);refine ao (listUpdate_at ho rfl ?_ HR (cK _));obtain⟨e1,Mb⟩:∃e1,(s.heap.update a (Obj.mapSeq fun _=>#[])).get? a=some (seqObj "list" #[] e1):=⟨_,get?_update_seq ho (fun _=>#[])⟩
 refine ao (seqEpoch_at Mb rfl ?_);refine ao (wpAny_newTuple ?_ (by show vs.length<=_;rw[gX];lia));refine ao (wpAny_newList ?_ (cK _));refine gQ ?_;have HY:(((s.heap.update a (Obj.mapSeq fun _=>#[])).push (seqObj "tuple" vs.toArray 0)).push (seqObj "list" #[] 0)).get? a=some (seqObj "list" #[] e1):=by
  rw[gp _ _ _ (by rw[jh,iZ];exact aT (dg ha)),gp _ _ _ (by rw[iZ];exact aT ha)];exact Mb
 have Rk:gf (((s.heap.update a (Obj.mapSeq fun _=>#[])).push (seqObj "tuple" vs.toArray 0)).push (seqObj "list" #[] 0)) vs:=by
  intro v hv;obtain⟨b,o,n,x,t,y,u,ev,e,c,d⟩:=hp v hv;have hb:b<s.heap.objs.size:=a9 e;have yz:b≠a:=by
   rintro rfl;rw[ho] at e;cases e;exact absurd (Value.type.inj c) (by decide)
  refine⟨b,o,n,x,t,y,u,ev,?_,c,d⟩;rw[gp _ _ _ (by rw[jh,iZ];exact aT (dg hb)),gp _ _ _ (by rw[iZ];exact aT hb),mD _ _ _ _ yz];exact e
 show wpAny (model prog w) A _ P E { s with heap:=((s.heap.update a (Obj.mapSeq fun _=>#[])).push (seqObj "tuple" vs.toArray 0)).push (seqObj "list" #[] 0) };dsimp only;have cN:∀aP:SortSt,(arrOf aP).Perm (vs.toArray.zip vs.toArray)->P (.done (.ret .none)) { s with heap:=sortedHeap s.heap a vs ((arrOf aP).map (·.2)) }:=by
  intro aP Mc;refine h _ ?_;have:=(jB.mp Mc).map (·.2);rw[<-qd,<-qd,CU] at this;exact this
 have Rl:(vs.toArray.zip vs.toArray).size=vs.length:=by simp
 by_cases h2:vs.toArray.size<2
 .rw[ak h2,ak h2];refine ao (wpAny_pure ?_);rw[StateT.run_pure];refine ao (wpAny_pure ?_);dsimp only;refine ao (seqEpoch_at HY rfl ?_);refine ao (listUpdate_at HY rfl ?_ (cK _) (by show ((vs.toArray.zip vs.toArray).map (·.2)).size<=_;rw[jG,Rl,gX];lia));simp only[bne_self_eq_false,kh,fT];exact wpAny_pure (cN (SortSt.mk' general' (vs.toArray.zip vs.toArray) #[] 7 none) (Array.Perm.refl _))
 .rw[al h2,al h2];have dt:2<=vs.length:=by rw[ce] at h2;lia
  obtain⟨fs,k1,k2,k3⟩:=Rk.fU;refine ao (kat_kind (T:=.type "int") k1 (by lia) (fun v hv=>?_) rfl ?_)
  .obtain⟨m,t,rfl⟩:=k3 v hv;exact .now
  refine ao (eX (xP (a₀:=vs.toArray.zip vs.toArray) (κ:=tuples' true) (st:=SortSt.mk' (tuples' true) (vs.toArray.zip vs.toArray) #[] 7 none)
   (Q:=fun _ aP=>(arrOf aP).Perm (vs.toArray.zip vs.toArray)/\failedOf aP=none) (xQ Rk) (Array.Perm.refl _) rfl rfl rfl fun aP b1 b2=>⟨b1,b2⟩) ?_ fun _ _ e=>e)
  rintro⟨⟨⟩,aP⟩ s' ⟨rfl,Mc,hf⟩;dsimp only;refine ao (seqEpoch_at HY rfl ?_);refine ao (listUpdate_at HY rfl ?_ (cK _) (by refine bb (qp ((jG ..).trans (Mc.size_eq.trans Rl))) ?_;rw[gX];lia));rw[hf];simp only[bne_self_eq_false,kh,fT];exact wpAny_pure (cN aP Mc)
theorem qP{l:Addr}{vs:List Value}{Q:Value->Shared->Prop}(hl:s.heap.IsList l vs.toArray)(hp:gf s.heap vs)(hz:vs.length<=4096)(h:∀ (out:Array Value),out.toList.Perm vs->Q (.ref (s.heap.objs.size+1)) { s with heap:=sortedAll s.heap vs out }):
  wpAny (model prog w) A (call (.builtin "sorted") [.ref l]) Q E s:=by
 have HR:vs.length<=sizeLine:=by rw[gX];lia
 refine Calls.call_function_entry kind_sorted plain_sorted entry_sorted (args_sorted1 _) ?_;unfold Builtin.«sorted»;refine ao (m:=checkCount "sorted" 1 1 _) (wpAny_pure ?_);refine ao (collect_list hl ?_ HR);refine ao (wpAny_newList ?_ HR);have j_:((s.heap.push (seqObj "list" #[] 0)).update s.heap.objs.size (Obj.mapSeq (·++vs.toArray))).objs.size=s.heap.objs.size+1:=by
  rw[iZ,jh]
 have BR:(((s.heap.push (seqObj "list" #[] 0)).update s.heap.objs.size (Obj.mapSeq (·++vs.toArray))).push (seqObj "list" vs.toArray 0)).get? (s.heap.objs.size+1)=some (seqObj "list" vs.toArray 0):=by
  rw[<-j_];exact b_ _ rfl
 have TV:gf (((s.heap.push (seqObj "list" #[] 0)).update s.heap.objs.size (Obj.mapSeq (·++vs.toArray))).push (seqObj "list" vs.toArray 0)) vs:=by
  intro v hv;obtain⟨b,o,n,x,t,y,u,ev,e,c,d⟩:=hp v hv;have hb:b<s.heap.objs.size:=a9 e;refine⟨b,o,n,x,t,y,u,ev,?_,c,d⟩;rw[gp _ _ _ (by rw[j_];exact aT (dg hb)),mD _ _ _ _ (aT hb),gp _ _ _ (aT hb)];exact e
 show wpAny _ _ _ _ _ { s with heap:=((s.heap.push (seqObj "list" #[] 0)).update s.heap.objs.size (Obj.mapSeq (·++vs.toArray))).push (seqObj "list" vs.toArray 0) };rw[j_];refine ao (gQ (lw slot_list_sort ⟨_,BR,rfl⟩ entry_list_sort (lK BR TV hz fun out a1=>⟨_,rfl,?_⟩) (args_list_sort _)));exact wpAny_pure ⟨_,rfl,h out a1⟩
end
theorem sC:∀ {as:List Addr} {its:List Value},aL (as.map V.ref) its->its=as.map Value.ref
 |[],_,r=>by cases r;rfl
 |a::as,_,r=>by
  cases r with
  |cons r rr=>
   obtain rfl:=(show _=Value.ref a from r)
   rw[sC rr];rfl
theorem pL:∀ {as:List Addr},aL (as.map V.ref) (as.map Value.ref)
 |[]=>.nil
 |_::_=>.cons rfl pL
theorem xR{as:List Addr}{vs:List Value}(h:vs.Perm (as.map Value.ref)):∃s_:List Addr,vs=s_.map Value.ref/\s_.Perm as:=by
 let un:Value->Addr:=fun v=>match v with|.ref a=>a|_=>0
 refine⟨vs.map un,?_,?_⟩
 .rw[gw];have:∀v∈vs,(Value.ref ∘ un) v=v:=by
   intro v hv;obtain⟨a,_,rfl⟩:=a8.mp (h.mem_iff.mp hv);rfl
  conv=>lhs;rw[<-gW vs]
  exact lr fun v hv=>(this v hv).symm
 .have:=h.map un;rw[gw] at this;have e:as.map (un ∘ Value.ref)=as:=by
   conv=>rhs;rw[<-gW as]
   exact lr fun a _=>rfl
  rw[e] at this;exact this
def Ad(K:PySem.W.Frag):List V->Hp->VK->Prop:=fun xs H Q=>∃ (l:Addr) (as:List Addr),xs=[.ref l]/\bg K H l (as.map V.ref)/\(∀a∈as,∃x y:Int,cu K H a [.int x,.int y])/\as.length<=4096/\
 ∀ (D:Addr) (s_:List Addr),H D=none->s_.Perm as->Q (.ref D) (upd H D (.lst (s_.map V.ref)))
theorem vz{X:Cx}:eT X (.builtin "sorted") (Ad X.K):=by
 intro ae s σ H xs us Q I r h;obtain⟨l,as,rfl,hl,hp,hz,q⟩:=h;obtain⟨u1,rfl,r1⟩:=r.one;obtain rfl:u1=Value.ref l:=r1;obtain⟨its,rv,pl,_⟩:=I.list hl;have FX:=sC rv;subst FX;have TW:gf s.heap (as.map Value.ref):=by
  intro v hv;obtain⟨a,ha,rfl⟩:=a8.mp hv;obtain⟨x,y,HZ⟩:=hp a ha;obtain⟨its,r,⟨o,e,c,n,d⟩,_⟩:=I.tuple HZ;obtain⟨u1,u2,rfl,r1,r2⟩:=r.two;obtain⟨t,rfl⟩:=r1;obtain⟨t',rfl⟩:=r2;exact⟨a,o,n,x,t,y,t',rfl,e,c,d⟩
 refine qP pl.isList TW (by rw[bJ];exact hz) fun out JW=>?_;obtain⟨s_,eo,pa⟩:=xR JW;have xI:out=(s_.map Value.ref).toArray:=by rw[<-eo]
 subst xI;have Oa:((s.heap.push (seqObj "list" #[] 0)).update s.heap.objs.size (Obj.mapSeq (·++(as.map Value.ref).toArray))).objs.size=s.heap.objs.size+1:=by rw[iZ,jh]
 have k1:∀b u,s.heap.get? b=some u->(((s.heap.push (seqObj "list" #[] 0)).update s.heap.objs.size (Obj.mapSeq (·++(as.map Value.ref).toArray))).push (seqObj "list" (as.map Value.ref).toArray 0)).get? b=some u:=fun b u e=>by
  have hb:b<s.heap.objs.size:=a9 e;rw[gp _ _ _ (by rw[Oa];exact aT (dg hb)),mD _ _ _ _ (aT hb),gp _ _ _ (aT hb)];exact e
 have BR:(((s.heap.push (seqObj "list" #[] 0)).update s.heap.objs.size (Obj.mapSeq (·++(as.map Value.ref).toArray))).push (seqObj "list" (as.map Value.ref).toArray 0)).get? (s.heap.objs.size+1)=some (seqObj "list" (as.map Value.ref).toArray 0):=by
  rw[<-Oa];exact b_ _ rfl
 have H_:(((s.heap.push (seqObj "list" #[] 0)).update s.heap.objs.size (Obj.mapSeq (·++(as.map Value.ref).toArray))).push (seqObj "list" (as.map Value.ref).toArray 0)).objs.size=s.heap.objs.size+2:=by rw[jh,Oa]
 show EP X ae σ Q (.ref (s.heap.objs.size+1)) { s with heap:=sortedHeap (((s.heap.push (seqObj "list" #[] 0)).update s.heap.objs.size (Obj.mapSeq (·++(as.map Value.ref).toArray))).push (seqObj "list" (as.map Value.ref).toArray 0)) (s.heap.objs.size+1) (as.map Value.ref) (s_.map Value.ref).toArray };revert k1 BR H_;generalize ((s.heap.push (seqObj "list" #[] 0)).update s.heap.objs.size (Obj.mapSeq (·++(as.map Value.ref).toArray))).push (seqObj "list" (as.map Value.ref).toArray 0)=h1;intro k1 BR H_;obtain⟨e1,Mb⟩:∃e1,(h1.update (s.heap.objs.size+1) (Obj.mapSeq fun _=>(#[]:Array Value))).get? (s.heap.objs.size+1)=some (seqObj "list" #[] e1):=⟨_,get?_update_seq BR (fun _=>#[])⟩
 have HY:(((h1.update (s.heap.objs.size+1) (Obj.mapSeq fun _=>(#[]:Array Value))).push (seqObj "tuple" (as.map Value.ref).toArray 0)).push (seqObj "list" #[] 0)).get? (s.heap.objs.size+1)=some (seqObj "list" #[] e1):=by
  rw[gp _ _ _ (by rw[jh,iZ,H_];exact aT (dg (ja _))),gp _ _ _ (by rw[iZ,H_];exact aT (ja _))];exact Mb
 obtain⟨e2,TX⟩:∃e2,(sortedHeap h1 (s.heap.objs.size+1) (as.map Value.ref) (s_.map Value.ref).toArray).get? (s.heap.objs.size+1)=some (seqObj "list" (s_.map Value.ref).toArray e2):=⟨_,get?_update_seq HY (fun _=>(s_.map Value.ref).toArray)⟩
 have keep:∀b u,s.heap.get? b=some u->(sortedHeap h1 (s.heap.objs.size+1) (as.map Value.ref) (s_.map Value.ref).toArray).get? b=some u:=fun b u e=>by
  have hb:b<s.heap.objs.size:=a9 e;unfold sortedHeap;rw[mD _ _ _ _ (aT (dg hb)),gp _ _ _ (by rw[jh,iZ,H_];exact aT (dg (dg (dg hb)))),gp _ _ _ (by rw[iZ,H_];exact aT (dg (dg hb))),mD _ _ _ _ (aT (dg hb))];exact k1 b u e
 have EI:s.heap.get? (s.heap.objs.size+1)=none:=ul (by lia);refine⟨.ref (s.heap.objs.size+1),_,I.Eu (t':=s.toks) (o:=.lst (s_.map V.ref)) keep EI ⟨?_,s_.map Value.ref,e2,pL,TX⟩,rfl,q _ s_ (I.be.nB EI) pa⟩;rw[bJ,pa.length_eq];exact bb hz (by decide)
open PySem PySem.Spec PyProof.Rows
theorem bw(sb:Heap.SameBut c h h')(n:b≠c)(e:h.get? b=some o):h'.get? b=some o:=(sb.2 b n).trans e
theorem df(r:h.IsTupleIter it t k)(sb:Heap.SameBut c h h')(n:it≠c):h'.IsTupleIter it t k:=r.at fun o e=>bw sb n e
theorem nP(r:h.IsTuple t xs)(sb:Heap.SameBut c h h')(n:t≠c):h'.IsTuple t xs:=let ⟨o,e,z⟩:=r;⟨o,bw sb n e,z⟩
section
variable {prog:Program} {w:World} {A:Around} {E:Value->Shared->Prop} {s:Shared}
theorem xS{z ti tq i1 i2 t1 t2:Addr}{k:Nat}{xs ys:Array Value}{x y a b:Value}{Q:Value->Shared->Prop}(dj:ZipApart z ti tq i1 i2 t1 t2)(gz:IsZip s.heap z ti tq .none)(gi:IsPair s.heap ti (.ref i1) (.ref i2))(gq:IsPair s.heap tq a b)(r1:s.heap.IsTupleIter i1 t1 k)(r2:s.heap.IsTupleIter i2 t2 k)(g1:s.heap.IsTuple t1 xs)(g2:s.heap.IsTuple t2 ys)(ex:xs[k]?=some x)(ey:ys[k]?=some y)(q:∀h',IsZip h' z ti tq (rawInt s.heap.objs.size)->IsPair h' tq x y->h'.IsTupleIter i1 t1 (k+1)->h'.IsTupleIter i2 t2 (k+1)->IsPair h' s.heap.objs.size x y->(∀c o,c≠z->c≠tq->c≠i1->c≠i2->s.heap.get? c=some o->h'.get? c=some o)->Q (.ref s.heap.objs.size) { s with heap:=h' }):
  wpAny (model prog w) A (Builtin.«zip.__next__» ⟨[.ref z],[]⟩) (fun cN s'=>∃v,cN=.done (.ret v)/\Q v s') E s:=by
 change wpAny _ _ (field (.ref z) 2 >>= _) _ _ _;refine ao (cE gz rfl (x:=.bool false) rfl ?_);change wpAny _ _ (field (.ref z) 3 >>= _) _ _ _;refine ao (cE gz rfl (x:=.ref ti) rfl (ao (gR gi rfl ?_)));change wpAny _ _ (Builtin.SmallTypes.ownedTupleIsFree (.ref z) >>= _) _ _ _;refine ao ?_;unfold Builtin.SmallTypes.ownedTupleIsFree;refine ao (cE gz rfl (x:=.none) rfl (wpAny_pure ?_));simp only[if_true];refine ao (dS (ao (cE gz rfl (x:=.ref tq) rfl ?_)));refine ao (mI gz (by simp) fun m1 CV pA=>?_);replace CV:IsZip m1 z ti tq .ellipsis:=CV;refine ao ?_;simp only[ut,List.zipIdx_nil,qg,qk];refine ao (ao (qq ?_));change wpAny _ _ (Builtin.SmallTypes.nextOf (.ref i1) >>= _) _ _ _;refine ao (nF (df r1 pA dj.i1z) (nP g1 pA dj.l1z) ex fun m2 TY on=>wpAny_pure ?_);have Rm:IsPair m2 tq a b:=bw on dj.TOi1 (bw pA dj.TOz gq);refine ao (gR Rm rfl (ao (wpAny_updateSeq_pair Rm fun m3 Ob CW=>?_)));replace Ob:IsPair m3 tq x b:=Ob;refine ao (wpAny_letGo (wpAny_pure ?_));refine ao (ao (qq ?_));change wpAny _ _ (Builtin.SmallTypes.nextOf (.ref i2) >>= _) _ _ _;refine ao (nF (df (df (df r2 pA dj.i2z) on dj.i12.symm) CW dj.TOi2.symm) (nP (nP (nP g2 pA dj.l2z) on dj.l2i1) CW dj.l2TO) ey fun m4 TZ JX=>wpAny_pure ?_);have Rn:IsPair m4 tq x b:=bw JX dj.TOi2 Ob;refine ao (gR Rn rfl (ao (wpAny_updateSeq_pair Rn fun m5 Md JY=>?_)));replace Md:IsPair m5 tq x y:=Md;refine ao (wpAny_letGo (wpAny_pure (wpAny_pure ?_)));refine ao (gR Md rfl (ao (wpAny_newTuple ?_)));have sz:m5.objs.size=s.heap.objs.size:=by rw[JY.1,JX.1,CW.1,on.1,pA.1]
 have Ro:IsZip m5 z ti tq .ellipsis:=bw JY dj.TOz.symm (bw JX dj.i2z.symm (bw CW dj.TOz.symm (bw on dj.i1z.symm CV)));have T4:∀c o,c≠z->c≠tq->c≠i1->c≠i2->s.heap.get? c=some o->m5.get? c=some o:=fun c o c1 c2 c3 c4 e=>
  bw JY c2 (bw JX c4 (bw CW c2 (bw on c3 (bw pA c1 e))))
 have T5:m5.IsTupleIter i1 t1 (k+1):=df (df (df TY CW dj.TOi1.symm) JX dj.i12) JY dj.TOi1.symm;have T6:m5.IsTupleIter i2 t2 (k+1):=df TZ JY dj.TOi2.symm;have zl:z<m5.objs.size:=a9 Ro;change wpAny _ _ (Builtin.SmallTypes.ownedTupleHandOut (.ref z) (.ref m5.objs.size) >>= _) _ _ _;refine ao ?_;unfold Builtin.SmallTypes.ownedTupleHandOut;have T7:IsZip (m5.push { cls:=.type "tuple",data:=.seq #[x,y] }) z ti tq .ellipsis:=bf _ Ro;refine ao (mI T7 (by simp) fun m7 Oc Rp=>?_);replace Oc:IsZip m7 z ti tq (rawInt m5.objs.size):=Oc;refine mI Oc (by simp) fun m8 Me Rq=>?_;replace Me:IsZip m8 z ti tq (rawInt m5.objs.size):=Me;have up:∀c o,c≠z->m5.get? c=some o->m8.get? c=some o:=fun c o c1 e=>bw Rq c1 (bw Rp c1 (bf _ e));have Rr:IsPair m8 m5.objs.size x y:=bw Rq (fQ zl) (bw Rp (fQ zl) (b_ _ rfl));rw[sz] at Me Rr;refine wpAny_pure ⟨_,rfl,?_⟩;change Q (.ref m5.objs.size) _;rw[sz];exact q m8 Me (up _ _ dj.TOz Md) (T5.at fun o e=>up _ o dj.i1z e) (T6.at fun o e=>up _ o dj.i2z e) Rr fun c o c1 c2 c3 c4 e=>up c o c1 (T4 c o c1 c2 c3 c4 e)
theorem Ae(hh:A.handled=none)(dj:ZipApart z ti tq i1 i2 t1 t2)(gz:IsZip s.heap z ti tq .none)(gi:IsPair s.heap ti (.ref i1) (.ref i2))(r1:s.heap.IsTupleIter i1 t1 k)(g1:s.heap.IsTuple t1 xs)(ex:xs[k]?=none)(q:∀h' e,(∀c o,c≠z->c≠i1->s.heap.get? c=some o->h'.get? c=some o)->(∃o,h'.get? e=some o/\o.cls=.type "StopIteration")->E (.ref e) { s with heap:=h' }):
  wpAny (model prog w) A (Builtin.«zip.__next__» ⟨[.ref z],[]⟩) Q E s:=by
 change wpAny _ _ (field (.ref z) 2 >>= _) _ _ _;refine ao (cE gz rfl (x:=.bool false) rfl ?_);change wpAny _ _ (field (.ref z) 3 >>= _) _ _ _;refine ao (cE gz rfl (x:=.ref ti) rfl (ao (gR gi rfl ?_)));change wpAny _ _ (Builtin.SmallTypes.ownedTupleIsFree (.ref z) >>= _) _ _ _;refine ao ?_;unfold Builtin.SmallTypes.ownedTupleIsFree;refine ao (cE gz rfl (x:=.none) rfl (wpAny_pure ?_));simp only[if_true];refine ao (dS (ao (cE gz rfl (x:=.ref tq) rfl ?_)));refine ao (mI gz (by simp) fun m1 CV pA=>?_);replace CV:IsZip m1 z ti tq .ellipsis:=CV;refine ao ?_;simp only[ut,List.zipIdx_nil,qg,qk];refine ao (ao (qq ?_));change wpAny _ _ (Builtin.SmallTypes.nextOf (.ref i1) >>= _) _ _ _;refine ao (xK hh (df r1 pA dj.i1z) (nP g1 pA dj.l1z) ex fun m2 e on he=>?_);obtain⟨oe,Jv,Rt⟩:=he;have Mf:IsZip m2 z ti tq .ellipsis:=on _ _ dj.i1z.symm CV;have T8:e≠z:=fun y=>by subst y;rw[Mf] at Jv;cases Jv;simp at Rt
 exact mI Mf (by simp) fun m3 _ CW=>q m3 e (fun c o c1 c3 y=>bw CW c1 (on _ _ c3 (bw pA c1 y))) ⟨oe,bw CW T8 Jv,Rt⟩
theorem vA(dj:ZipApart z ti tq i1 i2 t1 t2)(gz:IsZip s.heap z ti tq .none)(gi:IsPair s.heap ti (.ref i1) (.ref i2))(gq:IsPair s.heap tq a b)(r1:s.heap.IsTupleIter i1 t1 k)(r2:s.heap.IsTupleIter i2 t2 k)(g1:s.heap.IsTuple t1 xs)(g2:s.heap.IsTuple t2 ys)(ex:xs[k]?=some x)(ey:ys[k]?=some y)(q:∀h',IsZip h' z ti tq (rawInt s.heap.objs.size)->IsPair h' tq x y->h'.IsTupleIter i1 t1 (k+1)->h'.IsTupleIter i2 t2 (k+1)->IsPair h' s.heap.objs.size x y->(∀c o,c≠z->c≠tq->c≠i1->c≠i2->s.heap.get? c=some o->h'.get? c=some o)->Q (some (.ref s.heap.objs.size)) { s with heap:=h' }):
  wpAny (model prog w) A (pyNext (.ref z)) Q E s:=by
 have ty:s.TypeIs (.ref z) "zip":=⟨_,gz,rfl⟩
 unfold pyNext;refine ao (qr (ml (name:=Str.ofString "__next__") ty F.slot_zip_next (lw F.slot_zip_next ty F.entry_zip_next ?_ (F.args_zip_next_1 _))));exact xS dj gz gi gq r1 r2 g1 g2 ex ey fun h' a1 a2 a3 a4 a5 a6=>wpAny_pure (q h' a1 a2 a3 a4 a5 a6)
theorem vB(hh:A.handled=none)(dj:ZipApart z ti tq i1 i2 t1 t2)(gz:IsZip s.heap z ti tq .none)(gi:IsPair s.heap ti (.ref i1) (.ref i2))(r1:s.heap.IsTupleIter i1 t1 k)(g1:s.heap.IsTuple t1 xs)(ex:xs[k]?=none)(q:∀h',(∀c o,c≠z->c≠i1->s.heap.get? c=some o->h'.get? c=some o)->Q none { s with heap:=h' }):wpAny (model prog w) A (pyNext (.ref z)) Q E s:=by
 have ty:s.TypeIs (.ref z) "zip":=⟨_,gz,rfl⟩
 unfold pyNext;refine ao (qr (ml (name:=Str.ofString "__next__") ty F.slot_zip_next (lw F.slot_zip_next ty F.entry_zip_next (Ae hh dj gz gi r1 g1 ex fun h' e hk he=>?_) (F.args_zip_next_1 _))));obtain⟨o,ho,hc⟩:=he;exact ao (wpAny_isInstance (T:="StopIteration") (b:=true) ⟨o,ho,hc⟩ isSubtype_stop (wpAny_pure (q _ hk)))
abbrev zT(t:Addr):Obj:={ cls:=.type "tuple_iterator",data:=.fields #[.ref t,.int 0 0] }
abbrev Mg(h:Heap)(t1 t2:Addr):Heap:=((h.push (zT t1)).push (zT t2)).push { cls:=.type "tuple",data:=.seq #[.ref h.objs.size,.ref (h.push (zT t1)).objs.size] }
abbrev Mh(h:Heap)(t1 t2:Addr):Heap:=(Mg h t1 t2).push { cls:=.type "tuple",data:=.seq #[.none,.none] }
abbrev Ib(h:Heap)(t1 t2:Addr):Heap:=(Mh h t1 t2).push { cls:=.type "zip",data:=.fields #[.none,.bool false,.bool false,.ref ((h.push (zT t1)).push (zT t2)).objs.size,.ref (Mg h t1 t2).objs.size] }
theorem Af(t1 t2:Addr)(xs ys:Array Value):
  Meets (Builtin.«zip.__new__» ⟨[.type "zip",.ref t1,.ref t2],[]⟩) (fun _ R s=>s.heap.IsTuple t1 xs/\s.heap.IsTuple t2 ys/\R (.ok (.ret (.ref (Mh s.heap t1 t2).objs.size))) { s with heap:=Ib s.heap t1 t2 }):=
 .of_wp fun prog w A R s h=>by
  obtain⟨hp,g,d,tk,os⟩:=s;obtain⟨g1,g2,h⟩:=h;have Jt:=sub_zip;have gA:Heap.IsTuple (Shared.heap ⟨hp,g,d,tk,os⟩) t1 xs:=g1;have gB:Heap.IsTuple (Shared.heap ⟨hp.push (zT t1),g,d,tk,os⟩) t2 ys:=let ⟨o,e,z⟩:=g2;⟨o,bf _ e,z⟩
  wp_walk using uz gA,uz gB
  exact⟨_,rfl,h⟩
theorem xT(g1:s.heap.IsTuple t1 xs)(g2:s.heap.IsTuple t2 ys)(q:∀h',IsZip h' (s.heap.objs.size+4) (s.heap.objs.size+2) (s.heap.objs.size+3) .none->IsPair h' (s.heap.objs.size+2) (.ref s.heap.objs.size) (.ref (s.heap.objs.size+1))->IsPair h' (s.heap.objs.size+3) .none .none->
   h'.IsTupleIter s.heap.objs.size t1 0->h'.IsTupleIter (s.heap.objs.size+1) t2 0->(∀c o,s.heap.get? c=some o->h'.get? c=some o)->Q (.ref (s.heap.objs.size+4)) { s with heap:=h' }):
  wpAny (model prog w) A (call (.type "zip") [.ref t1,.ref t2]) Q E s:=by
 refine callType_new F.called_zip (by decide) (F.typeCall_zip_2 _ _) (F.newCall_zip_2 _ _) (fun obj=>F.args_object_init_3 obj _ _) F.entry_zip_new (Af t1 t2 xs ys) ⟨g1,g2,?_⟩;have n1:(s.heap.push (zT t1)).objs.size=s.heap.objs.size+1:=gP ..;have n2:((s.heap.push (zT t1)).push (zT t2)).objs.size=s.heap.objs.size+2:=by rw[gP,n1]
 have n3:(Mg s.heap t1 t2).objs.size=s.heap.objs.size+3:=by rw[gP,n2]
 have n4:(Mh s.heap t1 t2).objs.size=s.heap.objs.size+4:=by rw[gP,n3]
 have e5:(Ib s.heap t1 t2).get? (Mh s.heap t1 t2).objs.size=some _:=b_ _ rfl;have e4:(Ib s.heap t1 t2).get? (Mg s.heap t1 t2).objs.size=some _:=bf _ (b_ _ rfl);have e3:(Ib s.heap t1 t2).get? ((s.heap.push (zT t1)).push (zT t2)).objs.size=some _:=bf _ (bf _ (b_ _ rfl));have e2:(Ib s.heap t1 t2).get? (s.heap.push (zT t1)).objs.size=some _:=bf _ (bf _ (bf _ (b_ _ rfl)));have e1:(Ib s.heap t1 t2).get? s.heap.objs.size=some _:=bf _ (bf _ (bf _ (bf _ (b_ _ rfl))));change _/\_;rw[n2,n3,n4] at e5;rw[n1,n2] at e3;rw[n3] at e4;rw[n1] at e2;rw[n4];exact⟨⟨_,e5,rfl⟩,q _ e5 e3 e4 ⟨_,e1,rfl,rfl⟩ ⟨_,e2,rfl,rfl⟩ fun c o y=>
  bf _ (bf _ (bf _ (bf _ (bf _ y))))⟩
end
theorem aA.CY{X:Cx}{ae:List (Addr×Obj)}{σ:St}{H:Hp}{s:Shared}{h':Heap}{t':Nat}{ch:List Addr}(I:aA X ae σ H s)(fe:∀e∈ch,gC X ae H e)(k:∀b o,b∉ch->s.heap.get? b=some o->h'.get? b=some o):aA X ae σ H { s with heap:=h',toks:=t' }:=by
 have Ei:∀b u,H b=some u->b∉ch:=fun b u e z=>by rw[(fe b z).1] at e;cases e
 refine I.step (g':=s.gens) (d':=s.drawn) (ch:=ch) (fun b hb=>?_) (fun b o _ _ hc e _=>k b o hc e) (fun b o _ _ hc e _=>⟨o.slots,k b o hc e⟩) (fun _ _ _ _ n=>n) (fun b o hc e=>⟨o,k b o hc e⟩) (fun _ _ e=>e) (fun _ _ _ e=>e) (fun b ps e=>⟨#[],by rw[e];simp⟩) (fun m hm=>?_) (fun b u e=>?_) I.bare
 .obtain⟨_,f1,_,f3,f4,f5⟩:=fe b hb;exact⟨f3,f1,f4,f5⟩
 .obtain⟨o,es,ep,ho,r⟩:=hm;exact⟨o,es,ep,k _ o (fun z=>(fe _ z).2.1 rfl) ho,r⟩
 .refine(I.be b u e).kD (fun c v hc q=>k c v ?_ q) (fun _ q=>q) fun _ _ q=>q;rcases hc with z|z
  .rw[z];exact Ei b u e
  .exact Ei c _ z
theorem aA.CZ{X:Cx}{ae:List (Addr×Obj)}{σ:St}{H:Hp}{s:Shared}{h':Heap}{p:Addr}{t':Nat}{ch:List Addr}{xs:List V}{its:List Value}(I:aA X ae σ H s)(fe:∀e∈ch,gC X ae H e)(k:∀b o,b∉ch->s.heap.get? b=some o->h'.get? b=some o)(hp:s.heap.objs.size<=p)(hl:xs.length<=sizeLine)(r:aL xs its)(ht:h'.get? p=some { cls:=.type "tuple",data:=.seq its.toArray }):aA X ae σ (upd H p (.tup xs)) { s with heap:=h',toks:=t' }:=by
 have hn:=I.be.fresh hp;have ne:∀b o,s.heap.get? b=some o->b≠p:=fun b o q=>aT (bp (a9 q) hp);have Ei:∀b u,H b=some u->b∉ch:=fun b u e z=>by rw[(fe b z).1] at e;cases e
 refine I.step (g':=s.gens) (d':=s.drawn) (ch:=ch) (fun b hb=>?_) (fun b o _ _ hb q _=>k b o hb q) (fun b o _ _ hb q _=>⟨o.slots,k b o hb q⟩) (fun b o hb q n=>by rw[ap (ne b o q)];exact n) (fun b o hb q=>⟨o,k b o hb q⟩)
  (fun b ys q=>by rw[ap (aq q hn)];exact q) (fun b o u q=>by rw[ap (aq q hn)];exact q) (fun b ps q=>⟨#[],by rw[ap (aq q hn),q];simp⟩) (fun m hm=>?_) (fun b o q=>?_) I.bare
 .obtain⟨_,f1,_,f3,f4,f5⟩:=fe b hb;exact⟨f3,f1,f4,f5⟩
 .obtain⟨o,es,ep,q,d,r'⟩:=hm;exact⟨o,es,ep,k _ _ (fun z=>(fe _ z).2.1 rfl) q,d,r'⟩
 .by_cases hb:b=p
  .subst hb;rw[ag] at q;cases q;exact⟨hl,its,r,_,ht,rfl,_,rfl,rfl⟩
  .rw[ap hb] at q;refine(I.be b o q).kD (fun c u hc z=>k c u ?_ z) (fun c z=>by rw[ap (aq z hn)];exact z) fun c ys z=>by rw[ap (aq z hn)];exact z
   rcases hc with rfl|hc
   .exact Ei _ _ q
   .exact Ei _ _ hc
def JZ(K:PySem.W.Frag)(a b:Addr):It:=
 ⟨fun i H=>∃xs ys x y,cu K H a xs/\cu K H b ys/\xs[i]?=some x/\ys[i]?=some y,fun i H v H'=>∃p x y,v=.ref p/\H p=none/\H'=upd H p (.tup [x,y])/\(∀xs,cu K H a xs->xs[i]?=some x)/\∀ys,cu K H b ys->ys[i]?=some y,fun i H=>∃xs,cu K H a xs/\xs.length<=i,fun _ _=>False⟩
theorem Ag{P:Program}{w:World}{K:PySem.W.Frag}{es:List Expr}{x1:Nat}{pos:Pos}(a b z ti tq i1 i2:Addr)(dj:ZipApart z ti tq i1 i2 a b):
  uN P w K (.Tuple es x1 pos) (JZ K a b) [z,ti,tq,i1,i2] z (fun i h=>IsZip h z ti tq .none/\IsPair h ti (.ref i1) (.ref i2)/\(∃u v,IsPair h tq u v)/\h.IsTupleIter i1 a i/\h.IsTupleIter i2 b i) where
 mem:=by simp
 obj:=fun i h st c hc=>by
  obtain⟨gz,gi,⟨u,v,gq⟩,⟨o1,q1,c1,d1⟩,⟨o2,q2,c2,d2⟩⟩:=st;simp only[a_,jD,fS] at hc;rcases hc with rfl|rfl|rfl|rfl|rfl
  .exact⟨_,gz,fun v z=>by have z':Data.fields _=Data.cell v:=z;cases z'⟩
  .exact⟨_,gi,fun v z=>by have z':Data.seq _ _=Data.cell v:=z;cases z'⟩
  .exact⟨_,gq,fun v z=>by have z':Data.seq _ _=Data.cell v:=z;cases z'⟩
  .exact⟨o1,q1,fun v z=>by rw[d1] at z;cases z⟩
  .exact⟨o2,q2,fun v z=>by rw[d2] at z;cases z⟩
 keep:=fun i h h' st k=>by
  obtain⟨gz,gi,⟨u,v,gq⟩,r1,r2⟩:=st;exact⟨k z (by simp) _ gz,k ti (by simp) _ gi,⟨u,v,k tq (by simp) _ gq⟩,r1.at fun o q=>k i1 (by simp) o q,r2.at fun o q=>k i2 (by simp) o q⟩
 item:=by
  intro X hP hw hK i ae s σ H E y9 I hf st hg;subst hP hw hK;have hc:X.calm=true:=y9.elim id fun z=>(show False from z).elim;obtain⟨xs,ys,x,y,hx,hy,ex,ey⟩:=hg;obtain⟨us,rx,px,_⟩:=I.tuple hx;obtain⟨vs,ry,py,_⟩:=I.tuple hy;obtain⟨u,hu,ru⟩:=rx.get ex;obtain⟨v,hv,rv⟩:=ry.get ey;obtain⟨gz,gi,⟨u0,v0,gq⟩,r1,r2⟩:=st;refine vA dj gz gi gq r1 r2 (show s.heap.IsTuple a us.toArray from px) (show s.heap.IsTuple b vs.toArray from py) (x:=u) (y:=v) (by simpa using hu) (by simpa using hv) fun h1 CV T9 Od T_ Ua kp=>?_;refine⟨_,rfl,wpAny_letOwnedTupleGo_zip CV fun h2 Mf on=>?_⟩;have zl:z<s.heap.objs.size:=a9 gz;have nz:s.heap.objs.size≠z:=fQ zl;have Ru:∀c o,c∉[z,tq,i1,i2]->s.heap.get? c=some o->h2.get? c=some o:=fun c o hc e=>by
   simp only[a_,jD,fS,not_or] at hc;exact bw on hc.1 (kp c o hc.1 hc.2.1 hc.2.2.1 hc.2.2.2 e)
  have Ub:IsPair h2 ti (.ref i1) (.ref i2):=Ru _ _ (by simp only[a_,jD,fS,not_or];exact⟨dj.TIz,dj.TITO,dj.TIi1,dj.TIi2⟩) gi;have fe:∀e∈[z,tq,i1,i2],gC X ae H e:=fun e he=>hf e (by simp only[a_,jD,fS] at he |-;rcases he with h|h|h|h <;> simp[h]);have I2:aA X ae σ (upd H s.heap.objs.size (.tup [x,y])) { s with heap:=h2,toks:=s.toks }:=
   I.CZ (its:=[u,v]) fe Ru (aK _) (by show 2<=sizeLine;decide) (.cons ru (.cons rv .nil)) (bw on nz Ua)
  refine⟨.ref s.heap.objs.size,_,I2,rfl,⟨_,x,y,rfl,I.be.fresh (aK _),rfl,fun zs hz=>by rw[I.kK hz hx];exact ex,fun zs hz=>by rw[I.kK hz hy];exact ey⟩,⟨Mf,Ub,⟨u,v,bw on dj.TOz T9⟩,df Od on dj.i1z,df T_ on dj.i2z⟩,fun c hc=>?_⟩;have f0:=(hf c hc).1;have cl:c<s.heap.objs.size:=by
   simp only[a_,jD,fS] at hc;rcases hc with rfl|rfl|rfl|rfl|rfl
   .exact zl
   .exact a9 gi
   .exact a9 gq
   .obtain⟨o,q,_⟩:=r1;exact a9 q
   .obtain⟨o,q,_⟩:=r2;exact a9 q
  rw[ap (aT cl)];exact f0
 done:=by
  intro X hP hw hK i ae s σ H E y9 I hf st hg;subst hP hw hK;have hc:X.calm=true:=y9.elim id fun z=>(show False from z).elim;obtain⟨xs,hx,hi⟩:=hg;obtain⟨us,rx,px,_⟩:=I.tuple hx;obtain⟨gz,gi,⟨u0,v0,gq⟩,r1,r2⟩:=st;have hl:=rx.length;refine vB (I.ok.hd hc) dj gz gi r1 (show s.heap.IsTuple a us.toArray from px) (by simp;lia) fun h' kp=>⟨rfl,?_⟩
  have fe:∀e∈[z,i1],gC X ae H e:=fun e he=>hf e (by simp only[a_,jD,fS] at he |-;rcases he with h|h <;> simp[h]);refine I.CY (t':=s.toks) fe fun c o hc e=>?_;simp only[a_,jD,fS,not_or] at hc;exact kp c o hc.1 hc.2 e
 self:=fun _ _ _ _ _ st h=>wpAny_pyIter_zip st.1 h
section
variable {X:Cx}
def J0(K:PySem.W.Frag)(ta:TA):TI:=fun σ H R=>ta σ H fun vs H1=>∃a b xs ys,vs=[.ref a,.ref b]/\cu K H1 a xs/\cu K H1 b ys/\xs.length=ys.length/\R (JZ K a b) H1
theorem C0{es:List Expr}{x1:Nat}{yZ:Pos}{a b:Expr}{ta:TA}{p pos:Pos}(hg:Gl X "zip")(hm:X.mg "zip"=none)(ha:PA X [a,b] ta)(hs:starEach [a,b] X.env=[(false,eval a X.env),(false,eval b X.env)]:=by rfl)(uW:starEach [b] X.env=[(false,eval b X.env)]:=by rfl):
  PI X (.Tuple es x1 yZ) (.Call (.Name "zip" p) [a,b] [] pos) (J0 X.K ta):=by
 intro ae s σ H R I h;refine Call_ (kI I hg hm PyProof.Rows.boot_zip (tD (bC (ha pos ae s σ H _ I h) fun us s1 ⟨vs,H1,I1,r1,q1⟩=>?_) (by rw[hs,uW]) (by rw[uW];rfl)));obtain⟨l,m,xs,ys,rfl,hl,Uc,HZ,q⟩:=q1;obtain⟨u1,u2,rfl,Ud,Ue⟩:=r1.two;obtain rfl:u1=Value.ref l:=Ud;obtain rfl:u2=Value.ref m:=Ue;obtain⟨its,rv,pt,_⟩:=I1.tuple hl;obtain⟨Ch,VN,HL,_⟩:=I1.tuple Uc;have eE:l<s1.heap.objs.size:=by obtain⟨o,e,_⟩:=pt;exact a9 e
 have F5:m<s1.heap.objs.size:=by obtain⟨o,e,_⟩:=HL;exact a9 e
 refine xT (show s1.heap.IsTuple l its.toArray from pt) (show s1.heap.IsTuple m Ch.toArray from HL) fun h' gz gi gq r1 r2 k=>?_;refine wpAny_pyIter_zip gz ?_;have I2:aA X ae σ H1 { s1 with heap:=h' }:=I1.kept (t':=s1.toks) k;refine⟨s1.heap.objs.size+4,[s1.heap.objs.size+4,s1.heap.objs.size+2,s1.heap.objs.size+3,s1.heap.objs.size,s1.heap.objs.size+1],_,_,H1,rfl,I2,Ag l m _ _ _ _ _ (zipApart_new eE F5),⟨gz,gi,⟨_,_,gq⟩,r1,r2⟩,fun b hb=>?_,q⟩;have wg:s1.heap.objs.size<=b:=by
  simp only[a_,jD,fS] at hb;rcases hb with rfl|rfl|rfl|rfl|rfl
  .exact qc _ _
  .exact qc _ _
  .exact qc _ _
  .exact aK _
  .exact qc _ _
 exact I1.y7 wg (I1.be.fresh wg)
end
end L2
namespace iT
abbrev Ts:=List (Int×Int)
def T(ts:Ts)(a b:Nat):Prop:=(((a:Nat):Int),((b:Nat):Int))∈ts
instance (ts:Ts) (a b:Nat):Decidable (T ts a b):=inferInstanceAs (Decidable (_∈_))
def gg(ts:Ts):Nat->Nat->Nat->Prop
 |0,a,b=>a=b
 |k+1,a,b=>∃c,gg ts k a c/\T ts c b
theorem gg.trans(h:gg ts k a b):∀ {l:Nat} {c:Nat},gg ts l b c->gg ts (k+l) a c
 |0,_,e=>by cases e;exact h
 |l+1,_,⟨d,w,t⟩=>⟨d,h.trans w,t⟩
theorem gg.one(h:T ts a b):gg ts 1 a b:=⟨a,rfl,h⟩
theorem gg.cons(h:T ts a b)(w:gg ts k b c):gg ts (k+1) a c:=by
 have:=(gg.one h).trans w;rwa [Nat.add_comm] at this
def pM(ts:Ts)(a b d:Nat):Prop:=gg ts d a b/\∀k,gg ts k a b->d<=k
theorem pM.uniq(h:pM ts a b d)(g:pM ts a b e):d=e:=Nat.le_antisymm (h.2 _ g.1) (g.2 _ h.1)
open Classical in
noncomputable def EJ(ts:Ts)(a b:Nat):Nat:=if h:∃d,pM ts a b d then h.choose else 0
theorem F6(h:pM ts a b d):EJ ts a b=d:=by
 unfold EJ;have hx:∃d,pM ts a b d:=⟨d,h⟩
 rw[dif_pos hx];exact hx.choose_spec.uniq h
structure iU(n:Nat)(ts:Ts):Prop where
 n1:2<=n
 n2:n<=32
 nd:ts.Nodup
 rg:∀t∈ts,(0<=t.1/\t.1<n)/\(0<=t.2/\t.2<n)
 ne:∀t∈ts,t.1≠t.2
 Uf:∀h:Int,(ts.filter fun t=>decide (t.1=h)).length=(ts.filter fun t=>decide (t.2=h)).length
 most:∀h:Int,(ts.filter fun t=>decide (t.1=h)).length<=8
 con:∀a b,a<n->b<n->∃k,gg ts k a b
theorem xU(f:α->Int):∀ (l:List α) (n:Nat),(∀x∈l,0<=f x/\f x<n)->(∀h:Int,(l.filter fun t=>decide (f t=h)).length<=8)->l.length<=8*n:=by
 intro l n;induction n generalizing l with
 |zero=>
  intro h _;cases l with
  |nil=>simp
  |cons x xs=>have:=h x b9;lia
 |succ n ih=>
  intro h h8;have e:l.length=(l.filter fun t=>decide (f t=(n:Int))).length+(l.filter fun t=>!decide (f t=(n:Int))).length:=by
   induction l with
   |nil=>rfl
   |cons x xs Ug=>
    have:=Ug (fun y hy=>h y (bD _ hy)) (fun hh=>bb (by rw[fk];split <;> simp) (h8 hh));by_cases q:f x=(n:Int) <;> simp[fk,q] <;> lia
  have i2:=ih (l.filter fun t=>!decide (f t=(n:Int))) (fun x hx=>by
   have a:=h x (fq.mp hx |>.1);have b:=(fq.mp hx).2;simp at b;lia) (fun hh=>by
   refine bb ?_ (h8 hh);exact(ua.filter _).length_le)
  have:=h8 (n:Int);lia
theorem iU.len(F:iU n ts):ts.length<=256:=by
 have:=xU (·.1) ts n (fun t ht=>(F.rg t ht).1) F.most;have:=F.n2;lia
theorem iU.Rv(F:iU n ts)(h:T ts a b):a<n/\b<n/\a≠b:=by
 have q:=F.rg _ h;have q2:=F.ne _ h;refine⟨by have:=q.1;simp at this;lia,by have:=q.2;simp at this;lia,fun e=>q2 (by rw[e])⟩
def d9(n:Nat)(ts:Ts)(h:Nat):List Nat:=((List.range n).map fun s=>(h+s) % n).filter fun o=>decide (T ts h o)
theorem fD(F:iU n ts)(hh:h<n):o∈d9 n ts h↔T ts h o:=by
 unfold d9;rw[fq,mE];refine⟨fun z=>z.2,fun z=>⟨?_,z⟩⟩;obtain⟨_,h2,_⟩:=F.Rv z;refine a8.mpr ⟨if h<=o then o-h else o+n-h,dM.mpr (by split <;> lia),?_⟩;split
 .rw[show h+(o-h)=o by lia,kl h2]
 .rw[show h+(o+n-h)=o+n by lia,Nat.add_mod_right,kl h2]
theorem C1(F:iU n ts)(hh:h<n)(ho:o∈d9 n ts h):o<n:=(F.Rv ((fD F hh).mp ho)).2.1
def key(n h o:Nat):Int:=((o:Int)-(h:Int)) % (n:Int)
theorem Ah(hh:h<n)(hs:s<n):key n h ((h+s) % n)=(s:Int):=by
 unfold key;by_cases c:h+s<n
 .rw[kl c,show (((h+s:Nat):Int)-(h:Int))=(s:Int) by lia];exact Int.emod_eq_of_lt (by lia) (by lia)
 .have e:(h+s) % n=h+s-n:=by
   rw[Nat.mod_eq_sub_mod (by lia),kl (by lia)]
  rw[e,show ((((h+s-n:Nat)):Int)-(h:Int))=(s:Int)-(n:Int) by lia,Int.sub_emod_right];exact Int.emod_eq_of_lt (by lia) (by lia)
theorem sF(hh:h<n):(d9 n ts h).Pairwise fun a b=>key n h a<key n h b:=by
 unfold d9;refine List.Pairwise.filter _ ?_;refine lu.mpr ?_;refine List.Pairwise.imp_of_mem ?_ (List.pairwise_lt_range (n:=n));intro a b ha hb Mi;rw[Ah hh (dM.mp ha),Ah hh (dM.mp hb)];lia
theorem lD{α:Type}{k:α->Int}:∀ {a b:List α},a.Pairwise (fun x y=>k x<k y)->b.Pairwise (fun x y=>k x<k y)->(∀x,x∈a↔x∈b)->a=b
 |[],[],_,_,_=>rfl
 |[],y::ys,_,_,h=>absurd ((h y).mpr b9) (by simp)
 |x::xs,[],_,_,h=>absurd ((h x).mp b9) (by simp)
 |x::xs,y::ys,ha,hb,h=>by
  obtain⟨a1,a2⟩:=List.pairwise_cons.mp ha;obtain⟨b1,b2⟩:=List.pairwise_cons.mp hb;have e:x=y:=by
   rcases a_.mp ((h x).mp b9) with z|z
   .exact z
   .rcases a_.mp ((h y).mpr b9) with z'|z'
    .exact z'.symm
    .have q1:=b1 x z;have q2:=a1 y z';lia
  subst e;refine congrArg (x::·) (lD a2 b2 fun z=>⟨fun hz=>?_,fun hz=>?_⟩)
  .rcases a_.mp ((h z).mp (bD _ hz)) with q|q
   .subst q;exact absurd (a1 _ hz) (by lia)
   .exact q
  .rcases a_.mp ((h z).mpr (bD _ hz)) with q|q
   .subst q;exact absurd (b1 _ hz) (by lia)
   .exact q
structure xV(n:Nat)(ts:Ts)(s i:Nat)(R:List Nat)(f:Nat->Nat):Prop where
 nd:R.Nodup
 lt:∀x∈R,x<n
 st:s∈R
 z:f s=0
 wk:∀x∈R,gg ts (f x) s x
 up:R.Pairwise fun a b=>f a<=f b
 bd:∀u,R[i]?=some u->∀x∈R,f x<=f u+1
 cl:∀j u,j<i->R[j]?=some u->∀v,T ts u v->v∈R/\f v<=f u+1
theorem xV.start(hs:s<n):xV n ts s 0 [s] (fun _=>0):=
 ⟨by simp,fun x hx=>by simp at hx;lia,by simp,rfl,fun x hx=>by simp at hx;subst hx;rfl,by simp,fun u _ x _=>by lia,fun j u h=>absurd h (by lia)⟩
def put(f:Nat->Nat)(v k:Nat):Nat->Nat:=fun y=>if y=v then k else f y
theorem im:put f v k v=k:=by simp[put]
theorem d_(h:x≠v):put f v k x=f x:=by simp[put,h]
theorem xV.add(B:xV n ts s i R f)(hu:R[i]?=some u)(hv:v<n)(t:T ts u v)(hn:v∉R):xV n ts s i (R++[v]) (put f v (f u+1)):=by
 have Rx:u∈R:=cD hu;have nv:∀x∈R,x≠v:=fun x hx e=>hn (e ▸ hx);have hi:i<R.length:=(cC.mp hu).1;refine⟨?_,fun x hx=>?_,iX _ B.st,by rw[d_ (nv s B.st)];exact B.z,fun x hx=>?_,?_,fun w hw x hx=>?_,fun j w hj hw x hx=>?_⟩
 .rw[uh];exact⟨B.nd,by simp,fun a ha b hb e=>by simp at hb;subst hb;exact hn (e ▸ ha)⟩
 .rcases cJ.mp hx with z|z
  .exact B.lt x z
  .simp at z;lia
 .rcases cJ.mp hx with z|z
  .rw[d_ (nv x z)];exact B.wk x z
  .simp at z;subst z;rw[im];exact⟨u,B.wk u Rx,t⟩
 .rw[List.pairwise_append];refine⟨B.up.imp_of_mem fun {a b} ha hb h=>by rw[d_ (nv a ha),d_ (nv b hb)];exact h,by simp,fun a ha b hb=>?_⟩;simp at hb;subst hb;rw[d_ (nv a ha),im];exact B.bd u hu a ha
 .have xW:w=u:=by
   rw[oQ hi,hu] at hw;exact(bA hw).symm
  subst xW;rw[d_ (nv w Rx)];rcases cJ.mp hx with z|z
  .rw[d_ (nv x z)];exact B.bd w hu x z
  .simp at z;subst z;rw[im];exact aK _
 .rw[oQ (by lia)] at hw;obtain⟨a,b⟩:=B.cl j w hj hw x hx;refine⟨iX _ a,?_⟩;rw[d_ (nv x a),d_ (nv w (cD hw))];exact b
theorem xV.next(B:xV n ts s i R f)(hu:R[i]?=some u)(h:∀v,T ts u v->v∈R/\f v<=f u+1):xV n ts s (i+1) R f:=by
 refine⟨B.nd,B.lt,B.st,B.z,B.wk,B.up,fun w hw x hx=>?_,fun j w hj hw v hv=>?_⟩
 .have h1:=B.bd u hu x hx;have h2:f u<=f w:=by
   have hi:i<R.length:=(cC.mp hu).1;have EF:i+1<R.length:=(cC.mp hw).1;have:=List.pairwise_iff_getElem.mp B.up i (i+1) hi EF (by lia);rw[cV hi] at hu;rw[cV EF] at hw;rw[bA hu,bA hw] at this;exact this
  lia
 .by_cases e:j=i
  .subst e;rw[hu] at hw;cases hw;exact h v hv
  .exact B.cl j w (by lia) hw v hv
theorem gh:∀ {n:Nat} {R:List Nat},R.Nodup->(∀x∈R,x<n)->R.length<=n:=by
 intro n R hn hl;have key:∀ (a b:List Nat),a.Nodup->(∀x∈a,x∈b)->a.length<=b.length:=by
  intro a;induction a with
  |nil=>intro b _ _;exact cK _
  |cons x xs ih=>
   intro b hn hs;obtain⟨h1,h2⟩:=gv.mp hn;have hx:x∈b:=hs x b9;have:=ih (b.erase x) h2 fun y hy=>(List.mem_erase_of_ne (fun (e:y=x)=>h1 (e ▸ hy))).mpr (hs y (bD _ hy));rw[yN hx] at this;have:0<b.length:=List.length_pos_of_mem hx;rw[cI];lia
 have:=key R (List.range n) hn fun x hx=>dM.mpr (hl x hx);rwa [mG] at this
theorem xV.done(B:xV n ts s i R f)(F:iU n ts)(hi:R.length<=i)(hx:x<n):x∈R/\f x=EJ ts s x:=by
 have cl:∀u∈R,∀v,T ts u v->v∈R/\f v<=f u+1:=fun u hu v hv=>by
  obtain⟨j,hj,e⟩:=tX.mp hu;exact B.cl j u (by lia) (by rw[cV hj,e]) v hv
 have walk:∀k x,gg ts k s x->x∈R/\f x<=k:=by
  intro k;induction k with
  |zero=>intro x e;cases e;exact⟨B.st,by rw[B.z];exact aK _⟩
  |succ k ih=>
   rintro x ⟨c,w,t⟩;obtain⟨c1,c2⟩:=ih c w;obtain⟨d1,d2⟩:=cl c c1 x t;exact⟨d1,by lia⟩
 obtain⟨k,w⟩:=F.con s x (B.lt s B.st) hx;obtain⟨m,_⟩:=walk k x w;exact⟨m,(F6 ⟨B.wk x m,fun k w=>(walk k x w).2⟩).symm⟩
end iT
namespace L2
open PySem PySem.Spec PyProof.Rows
section
variable {X:Cx}
end
end L2
namespace iT
abbrev wL(u:Int×Int):Int×Int:=(u.2,u.1)
def jz(ps:Ts):Ts:=ps.flatMap fun u=>[u,wL u]
theorem vC:jz (ps++qs)=jz ps++jz qs:=List.flatMap_append
theorem io:∀ {ps:Ts},(jz ps).Perm (ps++ps.map wL)
 |[]=>List.Perm.refl _
 |u::ps=>by
  have ih:=io (ps:=ps);show (u::wL u::jz ps).Perm (u::(ps++wL u::ps.map wL));refine List.Perm.cons _ ?_;exact(ih.cons _).trans List.perm_middle.symm
theorem qQ:∀ {ps:Ts},(jz ps).length=2*ps.length
 |[]=>rfl
 |u::ps=>by
  have ih:=qQ (ps:=ps);show (jz ps).length+2=2*(ps.length+1);lia
theorem C2(h:u∈jz ps):wL u∈jz ps:=by
 obtain⟨v,hv,hu⟩:=uw.mp h;refine uw.mpr ⟨v,hv,?_⟩;rcases a_.mp hu with e|e
 .rw[e];exact bD _ (gn.mpr rfl)
 .rw[gn.mp e];exact b9
theorem dG:u∈jz ps↔u∈ps\/wL u∈ps:=by
 rw[(io (ps:=ps)).mem_iff,cJ];refine or_congr Iff.rfl ⟨fun h=>?_,fun h=>a8.mpr ⟨_,h,rfl⟩⟩;obtain⟨v,hv,rfl⟩:=a8.mp h;exact hv
theorem C3:((jz ps).map wL).Perm (jz ps):=by
 refine((io (ps:=ps)).map wL).trans (List.Perm.trans ?_ (io (ps:=ps)).symm);rw[eQ,gw];have e:ps.map (wL ∘ wL)=ps:=(lr fun u _=>rfl).trans (gW ps);rw[e];exact gJ
abbrev l8(q:Nat×Nat):Int×Int:=((q.1:Int),(q.2:Int))
def b1(b:Bool):Nat:=cond b 1 0
def ju(h:Nat):List (Nat×Nat)->Nat
 |[]=>0
 |q::qs=>b1 (Nat.beq q.1 h)+(b1 (Nat.beq q.2 h)+ju h qs)
theorem wM{h:Nat}:∀ {qs:List (Nat×Nat)},((jz (qs.map l8)).filter fun t=>decide (t.1=(h:Int))).length=ju h qs
 |[]=>rfl
 |q::qs=>by
  have ih:=wM (h:=h) (qs:=qs);have e:∀a:Nat,(if decide ((a:Int)=(h:Int))=true then 1 else 0)=b1 (Nat.beq a h):=fun a=>by
   by_cases c:a=h
   .subst c;rw[ak (by simp),Nat.beq_refl];rfl
   .rw[al (by simp;lia),show Nat.beq a h=false from um.mpr fun z=>c (Nat.eq_of_beq_eq_true z)];rfl
  show ((l8 q::wL (l8 q)::jz (qs.map l8)).filter _).length=b1 (Nat.beq q.1 h)+(b1 (Nat.beq q.2 h)+ju h qs);rw[<-ih,<-e q.1,<-e q.2,fk,fk];split <;> split <;> simp <;> lia
def pr:List Nat->Nat
 |[]=>1
 |n::ns=>n*pr ns
def oH(m st n:Nat):List (Nat×Nat):=((List.range m).filter fun h=>decide (h / st % n+1<n)).map fun h=>(h,h+st)
def bx(m:Nat):Nat->List Nat->List (Nat×Nat)
 |_,[]=>[]
 |st,n::ns=>oH m st n++bx m (st*n) ns
def gj(ns:List Nat):List (Nat×Nat):=bx (pr ns) 1 ns
def C4:Nat->List Nat->Nat->Nat->Prop
 |_,[],_,_=>False
 |st,n::ns,a,b=>(a / st % n+1<n/\b=a+st)\/C4 (st*n) ns a b
theorem wN:q∈oH m st n↔q.1<m/\q.1 / st % n+1<n/\q.2=q.1+st:=by
 unfold oH;rw[a8];constructor
 .rintro⟨h,hh,rfl⟩;obtain⟨h1,h2⟩:=fq.mp hh;exact⟨dM.mp h1,fj h2,rfl⟩
 .rintro⟨h1,h2,h3⟩;exact⟨q.1,fq.mpr ⟨dM.mpr h1,bj h2⟩,jg rfl h3.symm⟩
theorem ll:∀ {ns:List Nat} {st:Nat},q∈bx m st ns↔q.1<m/\C4 st ns q.1 q.2
 |[],st=>⟨fun h=>(nomatch h),fun h=>h.2.elim⟩
 |n::ns,st=>by
  unfold bx C4;rw[cJ,wN,ll (ns:=ns)];constructor
  .rintro(⟨a,b,c⟩|⟨a,b⟩)
   .exact⟨a,.inl ⟨b,c⟩⟩
   .exact⟨a,.inr b⟩
  .rintro⟨a,⟨b,c⟩|b⟩
   .exact .inl ⟨a,b,c⟩
   .exact .inr ⟨a,b⟩
abbrev U(ns:List Nat):Nat->Nat->Prop:=C4 1 ns
theorem qR:∀ {ns:List Nat} {st a b:Nat},0<st->(∀n∈ns,0<n)->(C4 st ns a b↔a % st=b % st/\U ns (a / st) (b / st))
 |[],st,a,b,h,_=>⟨fun z=>z.elim,fun z=>z.2.elim⟩
 |n::ns,st,a,b,h,hn=>by
  have BC:=hn n b9;have vv:∀n∈ns,0<n:=fun x hx=>hn x (bD _ hx);show (_\/C4 (st*n) ns a b)↔a % st=b % st/\(_\/C4 (1*n) ns (a / st) (b / st))
  rw[qt,qR (ky h BC) vv,qR BC vv,kA,mm a st n,mm b st n,Nat.mod_mul,Nat.mod_mul];have e1:=gO a st;have e2:=gO b st;constructor
  .rintro(⟨c,rfl⟩|⟨c,d⟩)
   .refine⟨by rw[Nat.add_mod_right],.inl ⟨c,by rw[Nat.add_div_right _ h]⟩⟩
   .have m1:a % st=b % st:=by
     have:=congrArg (· % st) c;simp only[yJ,Nat.mod_mod] at this;exact this
    refine⟨m1,.inr ⟨?_,d⟩⟩;rw[m1] at c;exact Nat.eq_of_mul_eq_mul_left h (Nat.add_left_cancel c)
  .rintro⟨m1,⟨c,d⟩|⟨c,d⟩⟩
   .refine .inl ⟨c,?_⟩;rw[<-e2,d,<-m1,eW,gU,Nat.add_right_comm,e1]
   .exact .inr ⟨by rw[m1,c],d⟩
theorem qS(h:∀x∈n::ns,0<x):U (n::ns) a b↔(a % n+1<n/\b=a+1)\/(a % n=b % n/\U ns (a / n) (b / n)):=by
 show (_\/C4 (1*n) ns a b)↔_;rw[qt,qR (h n b9) fun x hx=>h x (bD _ hx),kA]
theorem jv(h:a % n+1<n):(a+1) / n=a / n/\(a+1) % n=a % n+1:=by
 have e:=gO a n;have e2:a+1=n*(a / n)+(a % n+1):=by lia
 have hn:0<n:=by lia
 rw[e2,Nat.mul_add_div hn,Nat.mul_add_mod,ur h,kl h];exact⟨rfl,rfl⟩
theorem J1:∀ {ns:List Nat} {a b:Nat},(∀x∈ns,0<x)->U ns a b->a<pr ns->a<b/\b<pr ns
 |[],a,b,_,h,_=>h.elim
 |n::ns,a,b,hn,h,ha=>by
  have BC:=hn n b9;have vv:∀n∈ns,0<n:=fun x hx=>hn x (bD _ hx);have Je:a<n*pr ns:=ha;have hq:a / n<pr ns:=tW Je;show a<b/\b<n*pr ns;rcases(qS hn).mp h with ⟨c,rfl⟩|⟨c,d⟩
  .refine⟨by lia,?_⟩;have e:=gO a n;have:=ke n hq;rw[Nat.succ_eq_add_one,eW,gU] at this;lia
  .obtain⟨i1,i2⟩:=J1 vv d hq;refine⟨?_,?_⟩
   .have e1:=gO a n;have e2:=gO b n;have:=yH i1 BC;lia
   .have e2:=gO b n;have hm:=jf b BC;have:=ke n i2;rw[Nat.succ_eq_add_one,eW,gU] at this;lia
theorem Ai:∀ {ns:List Nat} {v:Nat},(∀x∈ns,0<x)->0<v->v<pr ns->∃u,u<v/\U ns u v
 |[],v,_,h1,h2=>by have h2:v<1:=h2;lia
 |n::ns,v,hn,h1,h2=>by
  have BC:=hn n b9;have vv:∀n∈ns,0<n:=fun x hx=>hn x (bD _ hx);have lv:=jf v BC;have ev:=gO v n;by_cases c:v % n=0
  .have hq:0<v / n:=by
    rcases Nat.eq_zero_or_pos (v / n) with z|z
    .rw[z,c] at ev;simp at ev;lia
    .exact z
   obtain⟨u,hu,uu⟩:=Ai (v:=v / n) vv hq (tW h2);refine⟨n*u,?_,(qS hn).mpr (.inr ⟨by rw[Nat.mul_mod_right,c],by rw[Nat.mul_div_cancel_left _ BC];exact uu⟩)⟩;have:=yH hu BC;lia
  .have hv:v-1=n*(v / n)+(v % n-1):=by lia
   have hm:(v-1) % n=v % n-1:=by rw[hv,Nat.mul_add_mod,kl (by lia)]
   exact⟨v-1,by lia,(qS hn).mpr (.inl ⟨by lia,by lia⟩)⟩
theorem wO:∀ {ns:List Nat} {st a b:Nat},(∀x∈ns,0<x)->C4 st ns a b->a+st<=b
 |[],st,a,b,_,h=>h.elim
 |n::ns,st,a,b,hn,h=>by
  rcases h with ⟨_,rfl⟩|h
  .exact aK _
  .have:=wO (fun x hx=>hn x (bD _ hx)) h;have h1:=tO st (hn n b9);lia
theorem xX:(oH m st n).Nodup:=by
 unfold oH;refine oP.mpr (lu.mpr ?_);exact(oP.mp (uv.sublist ua)).imp fun {a b} h e=>h (congrArg Prod.fst e)
theorem sG:∀ {ns:List Nat} {st:Nat},0<st->(∀x∈ns,2<=x)->(bx m st ns).Nodup
 |[],_,_,_=>uE
 |n::ns,st,h,hn=>by
  have HQ:=hn n b9;have vv:∀x∈ns,2<=x:=fun x hx=>hn x (bD _ hx);refine uh.mpr ⟨xX,sG (ky h (by lia)) vv,fun x hx y hy e=>?_⟩;subst e;have h1:=(wN.mp hx).2.2;have h2:=wO (fun x hx=>by have:=vv x hx;lia) (ll.mp hy).2;have h3:=ke st HQ;lia
theorem xY(nd:ps.Nodup)(h:∀u∈ps,u.1<u.2):(jz ps).Nodup:=by
 refine(io (ps:=ps)).nodup_iff.mpr (uh.mpr ⟨nd,?_,fun x hx y hy e=>?_⟩)
 .refine oP.mpr (lu.mpr ((oP.mp nd).imp fun {a b} Mi e=>Mi ?_));exact jg (congrArg Prod.snd e) (congrArg Prod.fst e)
 .subst e;obtain⟨u,hu,rfl⟩:=a8.mp hy;have h1:=h _ hx;have h2:=h u hu;have h1:u.2<u.1:=h1;lia
theorem xZ{qs:List (Nat×Nat)}(h:qs.Nodup):(qs.map l8).Nodup:=by
 refine oP.mpr (lu.mpr ((oP.mp h).imp fun {a b} Mi e=>Mi ?_));exact jg (eh (congrArg Prod.fst e)) (eh (congrArg Prod.snd e))
theorem lE:∀ {a b:List (Nat×Nat)},ju h (a++b)=ju h a+ju h b
 |[],b=>by show ju h b=0+_;lia
 |q::a,b=>by
  have:=lE (h:=h) (a:=a) (b:=b);show b1 _+(b1 _+ju h (a++b))=b1 _+(b1 _+ju h a)+ju h b;lia
theorem EK:b1 (Nat.beq a b)=if a=b then 1 else 0:=by
 by_cases c:a=b
 .subst c;rw[ak rfl,Nat.beq_refl];rfl
 .rw[al c,show Nat.beq a b=false from um.mpr fun z=>c (Nat.eq_of_beq_eq_true z)];rfl
theorem wP:∀ {L:List Nat},L.Nodup->ju h (L.map fun x=>(x,x+st))<=(if h∈L then 1 else 0)+(if st<=h/\h-st∈L then 1 else 0)
 |[],_=>cK _
 |x::L,nd=>by
  obtain⟨n1,n2⟩:=gv.mp nd;have ih:=wP (h:=h) (st:=st) n2;show b1 (Nat.beq x h)+(b1 (Nat.beq (x+st) h)+ju h (L.map fun x=>(x,x+st)))<=_;rw[EK,EK];have e1:(if h∈x::L then 1 else 0)=(if x=h then 1 else 0)+(if h∈L then 1 else 0):=by
   by_cases c:x=h
   .subst c;rw[ak b9,ak rfl,al n1]
   .rw[al c];by_cases d:h∈L
    .rw[ak (bD _ d),ak d]
    .rw[al d,al (fun z=>(a_.mp z).elim (fun z=>c z.symm) d)]
  have e2:(if st<=h/\h-st∈x::L then 1 else 0)=(if x+st=h then 1 else 0)+(if st<=h/\h-st∈L then 1 else 0):=by
   by_cases c:x+st=h
   .have e:h-st=x:=by lia
    rw[ak c,e,ak ⟨by lia,b9⟩,al (fun z=>n1 z.2)]
   .rw[al c];by_cases d:st<=h/\h-st∈L
    .rw[ak d,ak ⟨d.1,bD _ d.2⟩]
    .rw[al d,al];rintro⟨z1,z2⟩;rcases a_.mp z2 with z|z
     .lia
     .exact d ⟨z1,z⟩
  rw[e1,e2];lia
def wt:List Nat->Nat
 |[]=>0
 |n::ns=>(if n=2 then 1 else 2)+wt ns
theorem C5(hs:0<st):ju h (oH m st n)<=if n=2 then 1 else 2:=by
 have c:=wP (h:=h) (st:=st) (L:=(List.range m).filter fun h=>decide (h / st % n+1<n)) (uv.sublist ua);refine bb c ?_;by_cases e:n=2
 .rw[ak e];by_cases c1:h∈(List.range m).filter fun h=>decide (h / st % n+1<n)
  .rw[ak c1,al]
   .lia
   .rintro⟨z1,z2⟩;have d1:h / st % n+1<n:=fj (fq.mp c1).2;have d2:(h-st) / st % n+1<n:=fj (fq.mp z2).2;have d3:h / st=(h-st) / st+1:=by
     have:=Nat.add_div_right (h-st) hs;rw[show h-st+st=h by lia] at this;exact this
    obtain⟨_,d4⟩:=jv d2;rw[<-d3] at d4;lia
  .rw[al c1];split <;> lia
 .rw[al e];split <;> split <;> lia
theorem Aj:∀ {ns:List Nat} {st:Nat},0<st->(∀x∈ns,0<x)->ju h (bx m st ns)<=wt ns
 |[],_,_,_=>aK _
 |n::ns,st,hs,hn=>by
  show ju h (oH m st n++bx m (st*n) ns)<=_+wt ns;rw[lE];have h1:=C5 (m:=m) (n:=n) (h:=h) hs;have h2:=Aj (m:=m) (h:=h) (ns:=ns) (st:=st*n) (ky hs (hn n b9)) fun x hx=>hn x (bD _ hx);lia
theorem Ak:∀ {ns:List Nat},(∀x∈ns,2<=x)->3 ^ wt ns<=pr ns*pr ns
 |[],_=>aK _
 |n::ns,hn=>by
  have ih:=Ak (ns:=ns) fun x hx=>hn x (bD _ hx);have h2:=hn n b9;show 3 ^ ((if n=2 then 1 else 2)+wt ns)<=n*pr ns*(n*pr ns);rw[Nat.pow_add,Nat.mul_mul_mul_comm];refine uD ?_ ih;by_cases c:n=2
  .rw[ak c,c];decide
  .rw[al c];have:3<=n:=by lia
   exact uD this this
theorem J2(hn:∀x∈ns,2<=x)(hp:pr ns<=32):wt ns<=8:=by
 refine p7 fun z=>?_;have h1:3 ^ 9<=3 ^ wt ns:=Nat.pow_le_pow_right (by decide) (by lia);have h2:=Ak hn;have h3:pr ns*pr ns<=32*32:=uD hp hp;have h4:(3:Nat) ^ 9=19683:=by decide
 lia
theorem Al{ns:List Nat}(hn:∀x∈ns,2<=x)(h0:ns≠[])(hp:pr ns<=32):iU (pr ns) (jz ((gj ns).map l8)):=by
 have rT:∀x∈ns,0<x:=fun x hx=>by have:=hn x hx;lia
 have q:∀q∈gj ns,q.1<q.2/\q.2<pr ns:=fun q hq=>by
  obtain⟨a,b⟩:=ll.mp hq;exact J1 rT b a
 have n1:2<=pr ns:=by
  cases ns with
  |nil=>exact absurd rfl h0
  |cons n ns=>
   have h2:=hn n b9;have:∀ {l:List Nat},(∀x∈l,2<=x)->1<=pr l:=fun {l}=>by
    induction l with
    |nil=>intro _;exact aK _
    |cons x l ih=>intro hl;exact ky (by have:=hl x b9;lia) (ih fun y hy=>hl y (bD _ hy))
   have h3:=this (l:=ns) fun x hx=>hn x (bD _ hx);show 2<=n*pr ns;exact bb h2 (tO n h3)
 have mem:∀t∈jz ((gj ns).map l8),∃q∈gj ns,t=l8 q\/t=wL (l8 q):=fun t ht=>by
  rcases dG.mp ht with z|z
  .obtain⟨q,hq,e⟩:=a8.mp z;exact⟨q,hq,.inl e.symm⟩
  .obtain⟨q,hq,e⟩:=a8.mp z;exact⟨q,hq,.inr (by rw[e])⟩
 have rg:∀t∈jz ((gj ns).map l8),((0<=t.1/\t.1<pr ns)/\(0<=t.2/\t.2<pr ns))/\t.1≠t.2:=fun t ht=>by
  obtain⟨p,hq,e⟩:=mem t ht;obtain⟨a,b⟩:=q p hq;rcases e with rfl|rfl
  .exact⟨⟨⟨by show (0:Int)<=(p.1:Int);lia,by show (p.1:Int)<(pr ns:Int);lia⟩,by show (0:Int)<=(p.2:Int);lia,by show (p.2:Int)<(pr ns:Int);lia⟩,by show ((p.1:Nat):Int)≠(p.2:Nat);lia⟩
  .exact⟨⟨⟨by show (0:Int)<=(p.2:Int);lia,by show (p.2:Int)<(pr ns:Int);lia⟩,by show (0:Int)<=(p.1:Int);lia,by show (p.1:Int)<(pr ns:Int);lia⟩,by show ((p.2:Nat):Int)≠(p.1:Nat);lia⟩
 have nd:(jz ((gj ns).map l8)).Nodup:=xY (xZ (sG (by decide) hn)) fun u hu=>by
  obtain⟨p,hq,rfl⟩:=a8.mp hu;have:=(q p hq).1;show (p.1:Int)<(p.2:Int);lia
 refine⟨n1,hp,nd,fun t ht=>(rg t ht).1,fun t ht=>(rg t ht).2,fun h=>?_,fun h=>?_,fun a b ha hb=>?_⟩
 .rw[<-(C3 (ps:=(gj ns).map l8)).filter (fun t=>decide (t.1=h)) |>.length_eq,List.filter_map,bJ];rfl
 .by_cases c:0<=h/\h<pr ns
  .have:=Aj (m:=pr ns) (h:=h.toNat) (ns:=ns) (st:=1) (by decide) rT;have e:=wM (h:=h.toNat) (qs:=gj ns);rw[Int.toNat_of_nonneg c.1] at e;rw[e];exact bb this (J2 hn hp)
  .have e:(jz ((gj ns).map l8)).filter (fun t=>decide (t.1=h))=[]:=List.filter_eq_nil_iff.mpr fun t ht e=>c ((show t.1=h from fj e) ▸ (rg t ht).1.1);rw[e];exact cK _
 .have Cn:∀v,v<pr ns->(∃k,gg (jz ((gj ns).map l8)) k 0 v)/\∃k,gg (jz ((gj ns).map l8)) k v 0:=by
   intro v;induction v using Nat.strongRecOn with
   |ind v ih=>
    intro hv;rcases Nat.eq_zero_or_pos v with e|e
    .subst e;exact⟨⟨0,rfl⟩,0,rfl⟩
    .obtain⟨u,hu,uu⟩:=Ai rT e hv;obtain⟨⟨k,w⟩,l,w'⟩:=ih u hu (by lia);have t:T (jz ((gj ns).map l8)) u v:=dG.mpr (.inl (a8.mpr ⟨(u,v),ll.mpr ⟨by show u<pr ns;lia,uu⟩,rfl⟩));have t':T (jz ((gj ns).map l8)) v u:=C2 t;exact⟨⟨k+1,u,w,t⟩,l+1,gg.cons t' w'⟩
  obtain⟨_,k,w⟩:=Cn a ha;obtain⟨⟨l,w'⟩,_⟩:=Cn b hb;exact⟨_,w.trans w'⟩
end iT
namespace oI
open PySem L2
def fg(i:Nat):Stmt:=PySem.Challenge.pw_neverwait_k42_ways_phases_wishes.main.body.getD i (.Pass ⟨0,0,0,0⟩)
abbrev vD:Stmt:=fg 16
abbrev qT:Stmt:=fg 17
abbrev vE:Stmt:=fg 18
abbrev F7:Stmt:=fg 20
structure Bl(mg:Str->Option Value):Prop where
 qU:mg "isinstance"=none
 int:mg "int"=none
 bool:mg "bool"=none
 tup:mg "tuple"=none
 lst:mg "list"=none
 str:mg "str"=none
 set:mg "set"=none
 len:mg "len"=none
 range:mg "range"=none
 sorted:mg "sorted"=none
 any:mg "any"=none
 max:mg "max"=none
 min:mg "min"=none
 Oe:mg "ValueError"=none
 all:mg "all"=none
def Am(K:PySem.W.Frag)(H:Hp)(x:V):Prop:=∃t,FO K H x t/\(PySem.W.kitOne K t (.type "int")=some false\/(PySem.W.kitOne K t (.type "int")=some true/\PySem.W.kitOne K t (.type "bool")=some true))
theorem sI:PySem.W.kitOne K (.type "int") (.type "int")=some true:=by kernel_rfl
theorem qV:PySem.W.kitOne K (.type "int") (.type "bool")=some false:=by kernel_rfl
inductive Wh (K:PySem.W.Frag) (H:Hp):V->Option Int->Prop where
 |int (i:Int):Wh K H (.int i) (some i)
 |no {x:V} (h:Am K H x):Wh K H x none
def qW(K:PySem.W.Frag):Sp:=fun vs H Q _=>∃x o,vs=[x]/\Wh K H x o/\Q (.bl o.isSome) H
section
variable {P:Program} {w:World} {K:PySem.W.Frag} {mg:Str->Option Value} {base:Heap}
theorem C6:aw ["thing"] ["thing"] (aj vD):=⟨rfl,rfl,rfl,by decide +kernel,rfl,by decide +kernel,by decide +kernel⟩
theorem An(F:dE K "is_whole" "is_whole" vD f fd)(B:Bl mg):aU P w K mg base aZ 1 f fd ["thing"] (qW K):=by
 refine F.ok C6 (fun vs H Q E h=>?_) (fun bX A outer s H vs Q E hr h=>?_)
 .obtain⟨x,o,rfl,_⟩:=h;rfl
 .obtain⟨x,o,rfl,W,k⟩:=h;refine⟨_,ai (aG (jm (az eK (by rfl) B.qU cW (aa (pv 0) (aa (fX (v:=.ty "int") rfl B.int PyProof.Rows.boot_int rfl) af)))
   (kJ (Fj (az eK (by rfl) B.qU cW (aa (pv 0) (aa (fX (v:=.ty "bool") rfl B.bool PyProof.Rows.boot_bool rfl) af))))))),?_⟩
  cases W with
  |int i=>
   refine⟨_,rfl,_,_,_,.type "int",true,rfl,⟨rfl,sI⟩,.of (.int _),true,rfl,?_⟩;exact⟨_,rfl,_,_,_,.type "int",false,rfl,⟨rfl,qV⟩,.of (.int _),false,rfl,k⟩
  |no h=>
   obtain⟨t,ty,h|⟨h1,h2⟩⟩:=h
   .exact⟨_,rfl,_,_,_,t,false,rfl,⟨rfl,h⟩,ty,false,rfl,k⟩
   .refine⟨_,rfl,_,_,_,t,true,rfl,⟨rfl,h1⟩,ty,true,rfl,?_⟩;exact⟨_,rfl,_,_,_,t,true,rfl,⟨rfl,h2⟩,ty,true,rfl,k⟩
def aI(o:Option Int)(lo hi:Int):Bool:=match o with
 |some i=>decide (lo<=i)&&decide (i<=hi)
 |none=>false
def ip(K:PySem.W.Frag):Sp:=fun vs H Q _=>∃x o lo hi,vs=[x,.int lo,.int hi]/\Wh K H x o/\Q (.bl (aI o lo hi)) H
theorem Ao:aw ["thing","least","most"] ["thing","least","most"] (aj qT):=⟨rfl,rfl,rfl,by decide +kernel,rfl,by decide +kernel,by decide +kernel⟩
theorem x0(F:dE K "is_whole_within" "is_whole_within" qT f fd)(W:ck P w K mg base aZ 1 "is_whole" ["thing"] (qW K)):aU P w K mg base aZ 2 f fd ["thing","least","most"] (ip K):=by
 refine F.ok Ao (fun vs H Q E h=>?_) (fun bX A outer s H vs Q E hr h=>?_)
 .obtain⟨x,o,lo,hi,rfl,_⟩:=h;rfl
 .obtain⟨x,o,lo,hi,rfl,wh,k⟩:=h;refine⟨_,ai (aG (jm (av W hr aF (aa (pv 0) af)) (kJ (zj zg zg (pv 1) (pv 0) (pv 2))))),?_⟩;refine⟨_,rfl,x,o,rfl,wh,?_⟩;cases wh with
  |no h=>exact⟨false,rfl,k⟩
  |int i=>
   refine⟨true,rfl,_,rfl,_,rfl,_,_,rfl,rfl,_,rfl,?_⟩;show if decide (lo<=i)=true then _ else _
   have k':Q (.bl (decide (lo<=i)&&decide (i<=hi))) H:=k;by_cases h:lo<=i
   .rw[bj h] at k' |-;exact⟨_,rfl,_,_,rfl,rfl,k'⟩
   .rw[cS h] at k' |-;exact k'
def iI(K:PySem.W.Frag):Sp:=fun vs H Q _=>∃x o n,vs=[.int n,x]/\Wh K H x o/\Q (.bl (aI o 0 (n-1))) H
theorem C7:aw ["many","thing"] ["many","thing"] (aj vE):=⟨rfl,rfl,rfl,by decide +kernel,rfl,by decide +kernel,by decide +kernel⟩
theorem Ap(F:dE K "is_house" "is_house" vE f fd)(W:ck P w K mg base aZ 2 "is_whole_within" ["thing","least","most"] (ip K)):aU P w K mg base aZ 3 f fd ["many","thing"] (iI K):=by
 refine F.ok C7 (fun vs H Q E h=>?_) (fun bX A outer s H vs Q E hr h=>?_)
 .obtain⟨x,o,n,rfl,_⟩:=h;rfl
 .obtain⟨x,o,n,rfl,wh,k⟩:=h;refine⟨_,ai (aG (av W hr aF (aa (pv 1) (aa au (aa (aV kN (pv 0) au) af))))),?_⟩;exact⟨_,rfl,_,rfl,_,_,rfl,rfl,x,o,0,n-1,rfl,wh,k⟩
inductive Rw (K:PySem.W.Frag) (H:Hp):V->Option (List V)->Prop where
 |tup {p:Addr} {xs:List V} (h:H p=some (.tup xs)):Rw K H (.ref p) (some xs)
 |no {x:V} {t:Value} (ty:FO K H x t) (h:PySem.W.kitOne K t (.type "tuple")=some false):Rw K H x none
def J3(o:Option (List V))(m:Int):Bool:=match o with
 |some xs=>decide ((xs.length:Int)=m)
 |none=>false
theorem wQ:PySem.W.kitOne K (.type "tuple") (.type "tuple")=some true:=by kernel_rfl
def sJ(K:PySem.W.Frag):Sp:=fun vs H Q _=>∃x o m,vs=[x,.int m]/\Rw K H x o/\Q (.bl (J3 o m)) H
theorem J4:aw ["thing","length"] ["thing","length"] (aj F7):=⟨rfl,rfl,rfl,by decide +kernel,rfl,by decide +kernel,by decide +kernel⟩
theorem F8(F:dE K "is_row" "is_row" F7 f fd)(B:Bl mg):aU P w K mg base aZ 1 f fd ["thing","length"] (sJ K):=by
 refine F.ok J4 (fun vs H Q E h=>?_) (fun bX A outer s H vs Q E hr h=>?_)
 .obtain⟨x,o,m,rfl,_⟩:=h;rfl
 .obtain⟨x,o,m,rfl,W,k⟩:=h;refine⟨_,ai (aG (jm (az eK (by rfl) B.qU cW (aa (pv 0) (aa (fX (v:=.ty "tuple") rfl B.tup oR rfl) af)))
   (kJ (iD ng (az aQ (by rfl) B.len eF (aa (pv 0) af)) (pv 1) (a7 _))))),?_⟩
  cases W with
  |@tup p xs h=>
   refine⟨_,rfl,_,_,_,.type "tuple",true,rfl,⟨rfl,wQ⟩,.of (.tup h),true,rfl,?_⟩;refine⟨_,rfl,_,_,rfl,.inr (cu.of h),_,rfl,rfl,?_⟩;have e:decide (V.int ((xs.length:Nat):Int)=V.int m)=decide (((xs.length:Nat):Int)=m):=by simp
   rw[e];exact k
  |no ty h=>exact⟨_,rfl,_,_,_,_,false,rfl,⟨rfl,h⟩,ty,false,rfl,k⟩
end
theorem cj(s:aB H H')(hD:H D=none):aB H (upd H' D o):=fun b u e=>by rw[ap (aq e hD)];exact s b u e
abbrev IV(ns:List Int):List V:=ns.map V.int
abbrev NV(ns:List Nat):List V:=ns.map fun (x:Nat)=>V.int (x:Int)
theorem fE(G:St->Hp->Prop)(hr:∀σ H,G σ H->u D σ H)(ht:∀N:St->Hp->Prop,(∀σ H,G σ H->N σ H)->t { D with nx:=N } σ H):IA t u D σ H:=ht _ hr
abbrev Zs:=List (Addr×(Int×Int))
abbrev Ic(u:Int×Int):HO:=.tup [.int u.1,.int u.2]
def zr(zs:Zs):List V:=zs.map fun z=>V.ref z.1
def zp(zs:Zs):List (Int×Int):=zs.map (·.2)
def PO(H:Hp)(zs:Zs):Prop:=∀z∈zs,H z.1=some (Ic z.2)
theorem pN:zr (a++b)=zr a++zr b:=eQ
theorem pO:zp (a++b)=zp a++zp b:=eQ
theorem iq:(zr a).length=a.length:=bJ _
theorem cw:(zp a).length=a.length:=bJ _
theorem qX:zr a=(a.map (·.1)).map V.ref:=by unfold zr;rw[gw];rfl
theorem qY{zs:Zs}{i:Nat}{x:V}(h:(zr zs)[i]?=some x):∃z,zs[i]?=some z/\x=.ref z.1:=by
 unfold zr at h;rw[bQ] at h;cases e:zs[i]? with
 |none=>rw[e] at h;cases h
 |some z=>rw[e] at h;exact⟨z,rfl,(bA h).symm⟩
theorem PO.nil:PO H []:=fun z hz=>(nomatch hz)
theorem PO.same(h:PO H zs)(s:aB H H'):PO H' zs:=fun z hz=>s _ _ (h z hz)
theorem PO.putL(h:PO H zs)(e:H D=some (.lst xs)):PO (upd H D o) zs:=fun z hz=>by
 have:=h z hz;rw[ap (by rintro rfl;rw[e] at this;cases this)];exact this
theorem PO.putN(h:PO H zs)(e:H D=none):PO (upd H D o) zs:=h.same (am e)
theorem PO.append(h:PO H a)(h':PO H b):PO H (a++b):=fun z hz=>(cJ.mp hz).elim (h z) (h' z)
theorem PO.one(h:H p=some (Ic u)):PO H [(p,u)]:=fun z hz=>by rw[gn.mp hz];exact h
theorem Aq{zs:Zs}{i:Nat}(h:i<zs.length):(zs.map (·.1)).getD i 0=zs[i].1:=by
 rw[dL,bQ,cV h];rfl
theorem C8(h:i<zs.length):(zp zs).getD i (0,0)=zs[i].2:=by
 unfold zp;rw[dL,bQ,cV h];rfl
theorem x_{H:Hp}{zs:Zs}(ho:PO H zs){as:List Addr}(h:as.Perm (zs.map (·.1))):∃EL:Zs,EL.Perm zs/\as=EL.map (·.1):=by
 classical
 let f:Addr->Int×Int:=fun a=>match H a with
  |some (.tup [.int x,.int y])=>(x,y)
  |_=>(0,0)
 have e:(zs.map (·.1)).map (fun a=>(a,f a))=zs:=by
  rw[gw];conv=>rhs;rw[<-gW zs]
  refine lr fun z hz=>?_;have:=ho z hz;show (z.1,f z.1)=z;have e2:f z.1=z.2:=by
   show (match H z.1 with|some (.tup [.int x,.int y])=>(x,y)|_=>(0,0))=z.2;rw[this]
  rw[e2]
 refine⟨as.map fun a=>(a,f a),?_,?_⟩
 .have:=h.map (fun a=>(a,f a));rw[e] at this;exact this
 .rw[gw];exact(gW as).symm
abbrev Ry(us:List (Int×Int)):Prop:=us=us
theorem C9{K:PySem.W.Frag}{H:Hp}{l:Addr}{zs:Zs}{Q:VK}(hl:H l=some (.lst (zr zs)))(ho:PO H zs)(hz:zs.length<=4096)(hb:∀u∈zp zs,0<=u.2/\u.2<64)(q:∀ (D:Addr) (EL:Zs),H D=none->EL.Perm zs->Ry (zp EL)->Q (.ref D) (upd H D (.lst (zr EL)))):Ad K [.ref l] H Q:=by
 refine⟨l,zs.map (·.1),rfl,bg.of (by rw[<-qX];exact hl),fun a ha=>?_,by rw[bJ];exact hz,fun D s_ hD hp=>?_⟩
 .obtain⟨z,hz,rfl⟩:=a8.mp ha;exact⟨_,_,cu.of (ho z hz)⟩
 .obtain⟨EL,h1,rfl⟩:=x_ ho hp;rw[<-qX];exact q D EL hD h1 rfl
theorem Ar{K:PySem.W.Frag}{a D:Addr}{BG:Zs}{g:TG}{tt:TT}{te:TE}{cN:Hp->Prop}{σB:St}{H0:Hp}(F:Int×Int->Int×Int)(et:St->Prop)(ha:H0 a=some (.lst (zr BG)))(Uh:PO H0 BG)(hD:H0 D=none)(hn:BG.length<=100000)(h0:et σB)(hs:∀z σ H (R:V->St->Hp->Prop) (Kf:St->Hp->Prop),z∈BG->et σ->H z.1=some (Ic z.2)->(∀σ2 p,et σ2->H p=none->R (.ref p) σ2 (upd H p (Ic (F z.2))))->g (.ref z.1) σ H fun σ2 H2=>tt σ2 H2 fun b H3=>if b=true then te σ2 H3 fun v H4=>R v σ2 H4 else Kf σ2 H3)(hd:∀zs H,aB H0 H->H D=some (.lst (zr zs))->PO H zs->zp zs=(zp BG).map F->(∀z∈zs,H0 z.1=none)->cN H):jR (BZ K a) g tt te D cN σB (upd H0 D (.lst [])):=by
 refine fw (xs:=zr BG) (fun i ys σ H=>et σ/\aB H0 H/\H D=some (.lst ys)/\∃zs:Zs,ys=zr zs/\PO H zs/\zp zs=((zp BG).take i).map F/\∀z∈zs,H0 z.1=none) ⟨h0,am hD,ag,[],rfl,PO.nil,rfl,fun z hz=>nomatch hz⟩ (fun i ys σ H _ z=>bg.of (z.2.1 _ _ ha)) ?_ ?_
 .rintro i x ys σ H Kt Kf hx ⟨sh,sm,tf,zs,rfl,po,ep,fr⟩ kt kf;obtain⟨z,hz,rfl⟩:=qY hx;have hi:i<BG.length:=(cC.mp hz).1;have EM:z∈BG:=cD hz;have hl:zs.length=i:=by rw[<-cw,ep,bJ,iY,cw];lia
  refine hs z σ H Kt Kf EM sh (sm _ _ (Uh z EM)) (fun σ2 p C_ hp=>?_)
  .have nD:D≠p:=aq tf hp;refine kt _ _ _ (by rw[ap nD];exact tf) (by rw[iq,hl];exact bp hi (bb hn (by decide))) ⟨C_,cj (sm.trans (am hp)) hD,ag,zs++[(p,F z.2)],?_,?_,?_,?_⟩
   .rw[pN];rfl
   .refine PO.putL (xs:=zr zs) ?_ (by rw[ap nD];exact tf);exact(po.putN hp).append (PO.one ag)
   .have e2:(zp BG)[i]?=some z.2:=by unfold zp;rw[bQ,hz];rfl
    rw[pO,ep,eO,e2,Option.toList_some,eQ];rfl
   .intro z hz;rcases cJ.mp hz with z'|z'
    .exact fr z z'
    .rw[gn.mp z'];exact sm.free hp
 .rintro ys σ H ⟨_,sm,tf,zs,rfl,po,ep,fr⟩;rw[iq,<-cw,gs] at ep;exact hd zs H sm tf po ep fr
open iT
abbrev wR:Stmt:=dD (fg 25) 0
abbrev As:Stmt:=dD (fg 25) 1
abbrev F9:Stmt:=dD (fg 25) 3
abbrev vF:Stmt:=dD (fg 25) 8
structure Er(K:PySem.W.Frag)(mg:Str->Option Value)(x:Str)(C:Addr):Prop where
 at_:mg x=some (.ref C)
 ok:iS K C
theorem Ui:¬ (("house_count":Str)="tie_list"):=by decide +kernel
theorem Uj:¬ (("house_count":Str)="out_lists"):=by decide +kernel
theorem Uk:¬ (("house_count":Str)="distances"):=by decide +kernel
theorem Ul:¬ (("out_lists":Str)="distances"):=by decide +kernel
def oJ(n:Int)(tl ol ds:Addr):List (Str×V):=bU "distances" (.ref ds) (bU "out_lists" (.ref ol) (bU "tie_list" (.ref tl) (bU "house_count" (.int n) [])))
theorem wS(n:Int)(tl ol ds:Addr):(oJ n tl ol ds).lookup ("house_count":Str)=some (.int n):=by
 unfold oJ;rw[aJ,al Uk,aJ,al Uj,aJ,al Ui,aJ,ak rfl]
theorem qZ(n:Int)(tl ol ds:Addr){m:Str}(h1:¬ m="house_count")(h2:¬ m="tie_list")(h3:¬ m="out_lists")(h4:¬ m="distances"):(oJ n tl ol ds).lookup m=none:=by
 unfold oJ;rw[aJ,al h4,aJ,al h3,aJ,al h2,aJ,al h1];all_goals rfl
theorem Da(n:Int)(tl ol ds:Addr):(oJ n tl ol ds).lookup ("out_lists":Str)=some (.ref ol):=by
 unfold oJ;rw[aJ,al Ul,aJ,ak rfl]
def fc(H:Hp)(L:Addr->Prop)(l:Addr)(n:Nat)(r:Nat->List Nat):Prop:=∃bs:List Addr,H l=some (.lst (bs.map V.ref))/\(∀b∈bs,L b)/\Holds H bs n (fun h=>.lst (NV (r h)))
theorem fc.keep(R:fc H L l n r)(hl:L l)(k:∀b o,L b->H b=some o->H' b=some o):fc H' L l n r:=
 let ⟨bs,a,b,c⟩:=R
 ⟨bs,k _ _ hl a,b,c.mono fun j hj e=>k _ _ (b _ (by rw[dL,cV (by rw[c.1];exact hj)];exact jE _)) e⟩
theorem fc.row(R:fc H L l n r)(hh:h<n):∃ (bs:List Addr) (b:Addr),H l=some (.lst (bs.map V.ref))/\(bs.map V.ref)[h]?=some (V.ref b)/\H b=some (.lst (NV (r h)))/\L b:=by
 obtain⟨bs,a,b,c⟩:=R;have hl:h<bs.length:=by rw[c.1];exact hh
 refine⟨bs,bs[h],a,by rw[bQ,cV hl];rfl,?_,b _ (jE _)⟩;have:=c.2 h hh;rw[dL,cV hl] at this;exact this
def Db(H:Hp)(L:Addr->Prop)(tl:Addr)(ts:Ts):Prop:=L tl/\∃zs:Zs,H tl=some (.lst (zr zs))/\PO H zs/\(∀z∈zs,L z.1)/\(zp zs).Perm ts/\Ry (zp zs)
theorem Db.keep(h:Db H L tl ts)(k:∀b o,L b->H b=some o->H' b=some o):Db H' L tl ts:=
 let ⟨a,zs,b,c,d,e⟩:=h;⟨a,zs,k _ _ a b,fun z hz=>k _ _ (d z hz) (c z hz),d,e⟩
structure eA(C:Addr)(H:Hp)(L:Addr->Prop)(p:Addr)(n:Nat)(ts:Ts):Prop where
 oK:iU n ts
 ob:∃dx tl ol ds,H p=some (.ins C dx (oJ n tl ol ds))/\L ol/\L ds/\fc H L ol n (d9 n ts)/\fc H L ds n (fun h=>(List.range n).map (EJ ts h))/\Db H L tl ts
theorem eA.keep(N:eA C H L p n ts)(k:∀b o,L b->H b=some o->H' b=some o)(kp:∀o,H p=some o->H' p=some o):eA C H' L p n ts:=
 let ⟨dx,tl,ol,ds,a,l1,l2,b,c,d⟩:=N.ob
 ⟨N.oK,dx,tl,ol,ds,kp _ a,l1,l2,b.keep l1 k,c.keep l2 k,d.keep k⟩
theorem eA.same(N:eA C H L p n ts)(s:aB H H'):eA C H' L p n ts:=N.keep (fun b o _ e=>s b o e) (fun o e=>s _ o e)
structure NT(K:PySem.W.Frag)(mg:Str->Option Value)(C:Addr):Prop where
 cl:xo K C
 nH:dY K C "house_count"
 nT:dY K C "tie_list"
 nO:dY K C "out_lists"
 nD:dY K C "distances"
 Of:mg "Net"=some (.ref C)
structure ff(P:Program)(w:World)(K:PySem.W.Frag)(mg:Str->Option Value)(base:Heap)(CX:lX)(k:Nat)(C:Addr)(x:Str)(ps:List Str)(sp:Sp):Prop where
 ex:∃f fd,zu K C x f/\dN K fd ps []/\aU P w K mg base CX k f fd ps sp
section
variable {P:Program} {w:World} {K:PySem.W.Frag} {mg:Str->Option Value} {base:Heap}
theorem Dd:aw ["self","thing"] ["self","thing"] (aj vF):=⟨rfl,rfl,rfl,by decide +kernel,rfl,by decide +kernel,by decide +kernel⟩
def l9(K:PySem.W.Frag)(C CE:Addr):Sp:=fun vs H Q E=>∃ (L:Addr->Prop) (p:Addr) (n:Nat) (ts:Ts) (x:V) (o:Option Int),vs=[.ref p,x]/\eA C H L p n ts/\Wh K H x o/\(aI o 0 ((n:Int)-1)=false->E (.ref CE) none H)/\(aI o 0 ((n:Int)-1)=true->Q .bt H)
theorem At{f C CE:Addr}{fd:FuncData}(F:dE K "check_house" "Net.check_house" vF f fd)(T:NT K mg C)(e:Er K mg "NoHouse" CE)(HH:ck P w K mg base aZ 3 "is_house" ["many","thing"] (iI K)):
  aU P w K mg base (d6 P w) 4 f fd ["self","thing"] (l9 K C CE):=by
 refine F.Ev Dd (fun vs H Q E h=>?_) (fun bX A outer s H vs Q E hr h=>?_)
 .obtain⟨L,p,n,ts,x,o,rfl,_⟩:=h;rfl
 .obtain⟨L,p,n,ts,x,o,rfl,N,wh,k1,k2⟩:=h;obtain⟨dx,tl,ol,ds,h1,_⟩:=N.ob;refine⟨_,ai (bq (cz (cr (av HH hr aF (aa (eZ (pv 0) rfl) (aa (pv 1) af))))) (ai (ie (q:=fun H1=>E (.ref CE) none H1) rfl e.ok rfl e.at_ (aa kG af) (fun _ _ _ _ _ _ _ I m q=>ic I m q))) aN),?_⟩;refine⟨_,rfl,p,C,dx,_,_,rfl,h1,T.cl,T.nH,wS _ _ _ _,_,rfl,x,o,n,rfl,wh,_,rfl,?_⟩;cases hw:aI o 0 ((n:Int)-1) with
  |false=>exact gG ⟨by show 1<=sizeLine;decide,k1 hw⟩
  |true=>exact du (k2 hw)
theorem J5(n:Int)(tl ol ds:Addr):(oJ n tl ol ds).lookup ("check_house":Str)=none:=qZ n tl ol ds (by decide +kernel) (by decide +kernel) (by decide +kernel) (by decide +kernel)
theorem ba:(NV xs).length=xs.length:=bJ _
theorem dw{o:Option Int}{n:Nat}(h:aI o 0 ((n:Int)-1)=true):∃i:Nat,i<n/\o=some (i:Int):=by
 cases o with
 |none=>cases h
 |some i=>
  unfold aI at h;simp at h;exact⟨i.toNat,by lia,by congr 1;lia⟩
theorem bN{i n:Nat}(h:i<n):aI (some (i:Int)) 0 ((n:Int)-1)=true:=by unfold aI;simp;lia
def Au(K:PySem.W.Frag)(C CE:Addr)(Um:Hp->Nat->Ts->Nat->VK->Prop):Sp:=fun vs H Q E=>∃ (L:Addr->Prop) (p:Addr) (n:Nat) (ts:Ts) (x:V) (o:Option Int),vs=[.ref p,x]/\eA C H L p n ts/\Wh K H x o/\(aI o 0 ((n:Int)-1)=false->E (.ref CE) none H)/\∀i:Nat,i<n->o=some (i:Int)->Um H n ts i Q
theorem J6:aw ["self","house"] ["self","house"] (aj F9):=⟨rfl,rfl,rfl,by decide +kernel,rfl,by decide +kernel,by decide +kernel⟩
def F_:Hp->Nat->Ts->Nat->VK->Prop:=fun H n ts i Q=>∀r H',aB H H'->H r=none->H' r=some (.lst (NV (d9 n ts i)))->Q (.ref r) H'
theorem nQ{H:Hp}{x:V}{i:Int}(h:Wh K H x (some i)):x=.int i:=by cases h;rfl
theorem Ga{f C CE:Addr}{fd:FuncData}(F:dE K "out" "Net.out" F9 f fd)(T:NT K mg C)(B:Bl mg)(M:ff P w K mg base (d6 P w) 4 C "check_house" ["self","thing"] (l9 K C CE)):
  aU P w K mg base (d6 P w) 5 f fd ["self","house"] (Au K C CE F_):=by
 obtain⟨fM,Mj,mM,bM,GM⟩:=M.ex;refine F.Ev J6 (fun vs H Q E h=>?_) (fun bX A outer s H vs Q E hr h=>?_)
 .obtain⟨L,p,n,ts,x,o,rfl,_⟩:=h;rfl
 .obtain⟨L,p,n,ts,x,o,rfl,N,wh,k1,k2⟩:=h;obtain⟨dx,tl,ol,ds,h1,_,_,R,_⟩:=N.ob;refine⟨_,ah (cH (cX (pv 0) T.cl mM GM hr bM .nil (pk (E':=E) fun _ _ _ z=>z) (aa (pv 1) af)))
   (ai (aG (dq jO (by rfl) B.lst p8 (aa (bu bi (eZ (pv 0) rfl) (pv 1) (fun _ _=>rfl)) af)))),?_⟩
  refine⟨_,rfl,p,dx,_,rfl,h1,J5 _ _ _ _,_,rfl,L,p,n,ts,x,o,rfl,N,wh,k1,fun hw=>?_⟩;obtain⟨i,hi,rfl⟩:=dw hw;obtain rfl:=nQ wh;obtain⟨bs,b,r1,r2,r3,_⟩:=R.row hi;exact⟨_,rfl,p,C,dx,_,_,rfl,h1,T.cl,T.nO,Da _ _ _ _,_,rfl,ol,_,_,_,rfl,rfl,bg.of r1,aO r2,b,_,rfl,.inl (bg.of r3),fun l hl=>k2 i hi rfl l _ (am hl) hl ag⟩
end
open PySem L2 iT
abbrev vG:Stmt:=fg 26
abbrev Gb:Stmt:=fg 27
abbrev Gc:Stmt:=fg 28
section
variable {P:Program} {w:World} {K:PySem.W.Frag} {mg:Str->Option Value} {base:Heap}
abbrev Gd:Stmt:=fg 19
theorem J7:aw ["many","one","other"] ["many","one","other"] (aj Gd):=⟨rfl,rfl,rfl,by decide +kernel,rfl,by decide +kernel,by decide +kernel⟩
def Av:Sp:=fun vs H Q _=>∃ (n a b:Int),vs=[.int n,.int a,.int b]/\0<=a/\a<n/\0<=b/\b<n/\a≠b/\Q (.bl true) H
theorem Ge(F:dE K "are_unlike_houses" "are_unlike_houses" Gd f fd)(HH:ck P w K mg base aZ 3 "is_house" ["many","thing"] (iI K)):
  aU P w K mg base aZ 4 f fd ["many","one","other"] Av:=by
 refine F.ok J7 (fun vs H Q E h=>?_) (fun bX A outer s H vs Q E hr h=>?_)
 .obtain⟨n,a,b,rfl,_⟩:=h;rfl
 .obtain⟨n,a,b,rfl,a1,a2,b1,b2,yz,k⟩:=h;refine⟨_,ai (aG (jm (av HH hr aF (aa (pv 0) (aa (pv 1) af))) (jm (av HH hr aF (aa (pv 0) (aa (pv 2) af))) (kJ (iD nh (pv 1) (pv 2) (a7 _)))))),?_⟩;refine⟨_,rfl,_,rfl,_,_,n,rfl,.int a,_,rfl,?_⟩;rw[ak (show aI (some a) 0 (n-1)=true by unfold aI;simp;lia)];refine⟨_,rfl,_,rfl,_,_,n,rfl,.int b,_,rfl,?_⟩;rw[ak (show aI (some b) 0 (n-1)=true by unfold aI;simp;lia)];refine⟨_,rfl,_,rfl,rfl,?_⟩;have e:(!decide (V.int a=V.int b))=true:=by simp[yz]
  rw[e];exact k
theorem J8:aw ["many","thing"] ["many","thing"] (aj Gb):=⟨rfl,rfl,rfl,by decide +kernel,rfl,by decide +kernel,by decide +kernel⟩
def Aw:Sp:=fun vs H Q _=>∃ (n:Int) (p:Addr) (a b:Int),vs=[.int n,.ref p]/\H p=some (.tup [.int a,.int b])/\0<=a/\a<n/\0<=b/\b<n/\a≠b/\Q (.bl true) H
theorem Gf(F:dE K "is_tie" "is_tie" Gb f fd)(R:ck P w K mg base aZ 1 "is_row" ["thing","length"] (sJ K))(U:ck P w K mg base aZ 4 "are_unlike_houses" ["many","one","other"] Av):
  aU P w K mg base aZ 5 f fd ["many","thing"] Aw:=by
 refine F.ok J8 (fun vs H Q E h=>?_) (fun bX A outer s H vs Q E hr h=>?_)
 .obtain⟨n,p,a,b,rfl,_⟩:=h;rfl
 .obtain⟨n,p,a,b,rfl,hp,a1,a2,b1,b2,yz,k⟩:=h;refine⟨_,ai (aG (jm (av R (hr.mono (by decide)) aF (aa (pv 1) (aa au af)))
   (kJ (av U hr aF (aa (pv 0) (aa (bu d0 (pv 1) au (fun _ _=>rfl)) (aa (bu d0 (pv 1) au (fun _ _=>rfl)) af))))))),?_⟩
  refine⟨_,rfl,_,_,_,rfl,.tup hp,true,rfl,?_⟩;exact⟨_,rfl,_,rfl,p,_,_,_,rfl,rfl,cu.of hp,aO (j:=0) rfl,_,rfl,p,_,_,_,rfl,rfl,cu.of hp,aO (j:=1) rfl,n,a,b,rfl,a1,a2,b1,b2,yz,k⟩
theorem wT:aw ["many","ties","tie"] ["many","ties"] (aj vG):=⟨rfl,rfl,rfl,by decide +kernel,rfl,by decide +kernel,by decide +kernel⟩
theorem sK:PySem.W.kitOne K (.type "list") (.type "list")=some true:=by kernel_rfl
structure dz(H:Hp)(l:Addr)(n:Nat)(zs:Zs):Prop where
 oK:iU n (zp zs)
 at_:H l=some (.lst (zr zs))
 po:PO H zs
theorem dz.same(h:dz H l n zs)(s:aB H H'):dz H' l n zs:=⟨h.oK,s _ _ h.at_,h.po.same s⟩
def iJ:Sp:=fun vs H Q _=>∃ (n:Nat) (l:Addr) (zs:Zs),vs=[.int n,.ref l]/\dz H l n zs/\∀H',aB H H'->Q .bt H'
theorem Ax(F:dE K "check_ties" "check_ties" vG f fd)(B:Bl mg)(gF:∃t,mg "FEWEST_HOUSES"=some (.int 2 t))(gM:∃t,mg "MOST_HOUSES"=some (.int 32 t))(W:ck P w K mg base aZ 2 "is_whole_within" ["thing","least","most"] (ip K))(T:ck P w K mg base aZ 5 "is_tie" ["many","thing"] Aw):
  aU P w K mg base aZ 6 f fd ["many","ties"] iJ:=by
 obtain⟨tF,gF⟩:=gF;obtain⟨tM,gM⟩:=gM;refine F.ok wT (fun vs H Q E h=>?_) (fun bX A outer s H vs Q E hr h=>?_)
 .obtain⟨n,l,zs,rfl,_⟩:=h;rfl
 .refine⟨_,ah (bq (cz (cr (av W (hr.mono (by decide)) aF (aa (pv 0) (aa (bv (v:=.int 2) rfl gF ⟨_,rfl⟩) (aa (bv (v:=.int 32) rfl gM ⟨_,rfl⟩) af)))))) cf aN)
   (ah (bq (cz (cr (az eK (by rfl) B.qU cW (aa (pv 1) (aa (fX (v:=.ty "list") rfl B.lst p8 rfl) af))))) cf aN)
   (ah (cg dh rfl (cP (pv 1)) (aH (i:=2) wT.nd rfl (Or.inl rfl)) (ai (bq (cz (cr (av T hr aF (aa (pv 0) (aa (pv 2) af))))) cf aN)))
   (ai (bq (aR nh (az se (by rfl) B.len eF (aa (dq (xE rfl (by have:=hr.un;show (A.deeper _).units+8<_;lia)) (by rfl) B.set PyProof.Rows.boot_set (aa (pv 1) af)) af)) (az aQ (by rfl) B.len eF (aa (pv 1) af)) (a7 _)) cf aN)))),?_⟩
  obtain⟨n,l,zs,rfl,tt,k⟩:=h;obtain⟨fi,hl,po⟩:=id tt;have n1:=fi.n1;have n2:=fi.n2;refine⟨_,rfl,_,_,2,32,rfl,.int n,_,rfl,?_⟩;rw[show aI (some (n:Int)) 2 32=true by unfold aI;simp;lia];refine du ?_;refine⟨_,rfl,_,_,_,.type "list",true,rfl,⟨rfl,sK⟩,.of (.lst hl),_,rfl,du ?_⟩;refine⟨_,rfl,l,rfl,⟨_,bg.of hl⟩,g_ (K:=K) (a:=l) (xs:=zr zs) (fun i σ H2=>H2=H/\∃v,σ=[some (.int n),some (.ref l),v]) ⟨rfl,none,rfl⟩ (fun i σ H2 _ ⟨e,_⟩=>by rw[e];exact bg.of hl) ?_ ?_⟩
  .rintro i x σ H2 hx ⟨rfl,v,rfl⟩;obtain⟨z,hz,rfl⟩:=qY hx;have EM:z∈zs:=cD hz;have Rz:z.2∈zp zs:=a8.mpr ⟨z,EM,rfl⟩;have r:=fi.rg _ Rz;exact⟨_,rfl,_,rfl,n,_,_,_,rfl,po z EM,r.1.1,r.1.2,r.2.1,r.2.2,fi.ne _ Rz,_,rfl,du ⟨rfl,_,rfl⟩⟩
  .rintro σ H2 ⟨rfl,v,rfl⟩;have dt:(zp zs).length<=256:=fi.len;refine⟨_,rfl,l,zs.map (·.1),zp zs,rfl,bg.of (by rw[<-qX];exact hl),by rw[bJ,cw],fun i hi=>?_,fi.nd,fun y hy=>?_,by lia,fun D hD=>?_⟩
   .rw[cw] at hi;rw[Aq hi,C8 hi];exact cu.of (po _ (jE hi))
   .have r:=fi.rg _ hy;lia
   .have nl:l≠D:=aq hl hD;refine⟨D,_,rfl,ag,by lia,_,rfl,l,zr zs,rfl,.inl (bg.of (by rw[ap nl];exact hl)),rfl,_,rfl,?_⟩;have ez:(!decide (V.int (((zp zs).length:Nat):Int)=V.int (((zr zs).length:Nat):Int)))=false:=by rw[cw,iq];simp
    rw[ez];exact du (k _ (am hD))
end
abbrev sL:Stmt:=fg 29
section
variable {P:Program} {w:World} {K:PySem.W.Frag} {mg:Str->Option Value} {base:Heap}
theorem lm(S:St->Prop)(p q:Int×Int->Int)(h:Int)(hD:H D=none)(hl:H l=some (.lst (zr zs)))(po:PO H zs)(hn:zs.length<=1000)(s0:S σB)(hg:∀z σ H2 (Kt:V->St->Hp->Prop) (Kf:St->Hp->Prop),z∈zs->S σ->H2 z.1=some (Ic z.2)->(∀σ2,S σ2->p z.2=h->Kt (.int (q z.2)) σ2 H2)->(∀σ2,S σ2->p z.2≠h->Kf σ2 H2)->
   g (.ref z.1) σ H2 fun σ2 H2=>tt σ2 H2 fun b H3=>if b=true then te σ2 H3 fun v H4=>Kt v σ2 H4 else Kf σ2 H3)(hd:cN (upd H D (.lst (IV (((zp zs).filter fun y=>decide (p y=h)).map q))))):jR (BZ K l) g tt te D cN σB (upd H D (.lst [])):=by
 have nl:l≠D:=aq hl hD;have tk:∀ {i:Nat} {z:Addr×(Int×Int)},zs[i]?=some z->(zp zs).take (i+1)=(zp zs).take i++[z.2]:=fun {i z} hz=>by
  rw[eO,show (zp zs)[i]?=some z.2 by unfold zp;rw[bQ,hz];rfl];rfl
 refine fw (xs:=zr zs) (fun i ys σ H2=>S σ/\ys=IV ((((zp zs).take i).filter fun y=>decide (p y=h)).map q)/\H2=upd H D (.lst ys)) ⟨s0,by simp,rfl⟩ (fun i ys σ H2 _ ⟨_,_,e⟩=>by rw[e];exact bg.of (by rw[ap nl];exact hl)) ?_ ?_
 .rintro i x ys σ H2 Kt Kf hx ⟨hS,ey,rfl⟩ kt kf;obtain⟨z,hz,rfl⟩:=qY hx;have EM:z∈zs:=cD hz;have hp:=po z EM;have na:z.1≠D:=aq hp hD;have hi:i<zs.length:=(cC.mp hz).1;refine hg z σ _ Kt Kf EM hS (by rw[ap na];exact hp) (fun σ2 s2 e=>?_) (fun σ2 s2 e=>?_)
  .refine kt _ _ _ ag ?_ ⟨s2,?_,?_⟩
   .rw[ey,bJ,bJ];exact gm (mx _ _) (gm (List.length_take_le _ _) (bp (show i<1000 by lia) (by decide)))
   .rw[ey,tk hz,jC,eQ];have:decide (p z.2=h)=true:=by simp[e]
    simp[fk,this]
   .rw[lU]
  .refine kf _ _ ⟨s2,?_,rfl⟩;have:decide (p z.2=h)=false:=by simp[e]
   rw[ey,tk hz,jC];simp[fk,this]
 .rintro ys σ H2 ⟨_,ey,rfl⟩;rw[iq,<-cw,gs] at ey;rw[ey];exact hd
theorem Ie:(["one","other","house"]:List Str).Nodup:=by decide +kernel
theorem wU:aw ["many","ties","house","leading_out","leading_in"] ["many","ties"] (aj Gc):=⟨rfl,rfl,rfl,by decide +kernel,rfl,by decide +kernel,by decide +kernel⟩
theorem Gg(F:dE K "check_balance" "check_balance" Gc f fd)(B:Bl mg)(gM:∃t,mg "MOST_TIES_OUT"=some (.int 8 t)):
  aU P w K mg base aZ 1 f fd ["many","ties"] iJ:=by
 obtain⟨tM,gM⟩:=gM;refine F.ok wU (fun vs H Q E h=>?_) (fun bX A outer s H vs Q E hr h=>?_)
 .obtain⟨n,l,zs,rfl,_⟩:=h;rfl
 .obtain⟨n,l,zs,rfl,T,k⟩:=h;have fi:=T.oK;have n1:=fi.n1;have n2:=fi.n2;have dt:zs.length<=256:=by have:=fi.len;rw[cw] at this;exact this
  refine'⟨_,ai (cg dh rfl (bK rfl B.range (aa (pv 0) af)) (aH (i:=2) wU.nd rfl (Or.inr rfl))
   (ah (aM (i:=3) wU.nd rfl (Or.inl rfl) (az aQ (by rfl) B.len eF (aa ?c1 af)))
   (ah (aM (i:=4) wU.nd rfl (Or.inl rfl) (az aQ (by rfl) B.len eF (aa ?c2 af)))
   (ah (bq (aR nh (pv 3) (pv 4) (a7 _)) cf aN)
   (ai (bq (aR zh (pv 3) (bv (v:=.int 8) rfl gM ⟨_,rfl⟩) (a7 _)) cf aN)))))),?_⟩
  case c1=>
   refine' gb (g:=yY K 2 (jK (cA 0) (jK (cA 1) yX))) (NB:=["one","other","house"]) (src:=[none,none,some 2]) (d8 (by kernel_rfl)) rfl (cP (pv 1)) ?g ?t ?e;case g=>exact fun cl C s₃ H₃ fp=>jn (n:=2) rfl (bT (aH (i:=0) Ie rfl (Or.inl rfl) (Or.inr rfl)) (bT (aH (i:=1) Ie rfl (Or.inl rfl) (Or.inr rfl)) fZ))
   case t=>exact fun cl C s₃ H₃ fp=>iH (aR ng (pv 0) (pv 2) (a7 _))
   case e=>exact fun cl C s₃ H₃ fp=>pv 0
  case c2=>
   refine' gb (g:=yY K 2 (jK (cA 0) (jK (cA 1) yX))) (NB:=["one","other","house"]) (src:=[none,none,some 2]) (d8 (by kernel_rfl)) rfl (cP (pv 1)) ?g ?t ?e;case g=>exact fun cl C s₃ H₃ fp=>jn (n:=2) rfl (bT (aH (i:=0) Ie rfl (Or.inl rfl) (Or.inr rfl)) (bT (aH (i:=1) Ie rfl (Or.inl rfl) (Or.inr rfl)) fZ))
   case t=>exact fun cl C s₃ H₃ fp=>iH (aR ng (pv 1) (pv 2) (a7 _))
   case e=>exact fun cl C s₃ H₃ fp=>pv 1
  refine⟨_,rfl,n,rfl,by lia,by lia,cT (n:=n) (lo:=0) (fun i σ H2=>aB H H2/\∃a b c,σ=[some (.int n),some (.ref l),a,b,c]) ⟨aB.refl _,none,none,none,rfl⟩ ?_ ?_⟩
  .rintro i σ H2 hi ⟨sm,a,b,c,rfl⟩;have T2:=T.same sm;refine⟨_,rfl,l,rfl,⟨_,bg.of T2.at_⟩,fun D hD=>lm (fun σ=>∃a b,σ=[a,b,some (.int (0+(i:Int)))]) (·.1) (·.1) (0+(i:Int)) hD T2.at_ T2.po (by lia) ⟨_,_,rfl⟩ ?_ ?_⟩
   .rintro z σ H3 Kt Kf hj ⟨x,y,rfl⟩ ha kt kf;refine⟨z.1,_,rfl,cu.of ha,rfl,_,_,rfl,_,_,rfl,rfl,?_⟩;refine⟨_,rfl,_,rfl,rfl,_,rfl,?_⟩;refine nu (fun e=>?_) (fun e=>?_)
    .exact⟨_,rfl,kt _ ⟨_,_,rfl⟩ (by simpa using e)⟩
    .exact kf _ ⟨_,_,rfl⟩ (by simpa using e)
   .refine⟨D,_,rfl,.inl (bg.of ag),?_⟩;have ya:=cj (o:=.lst (IV (((zp zs).filter fun y=>decide (y.1=0+(i:Int))).map (·.1)))) (sm.trans (aB.refl _)) (H:=H) (by cases z:H D with|none=>rfl|some o=>rw[sm _ _ z] at hD;cases hD);have T3:=T.same ya;refine⟨_,rfl,l,rfl,⟨_,bg.of T3.at_⟩,fun D' RA=>lm (fun σ=>∃a b,σ=[a,b,some (.int (0+(i:Int)))]) (·.2) (·.2) (0+(i:Int)) RA T3.at_ T3.po (by lia) ⟨_,_,rfl⟩ ?_ ?_⟩
    .rintro z σ H3 Kt Kf hj ⟨x,y,rfl⟩ ha kt kf;refine⟨z.1,_,rfl,cu.of ha,rfl,_,_,rfl,_,_,rfl,rfl,?_⟩;refine⟨_,rfl,_,rfl,rfl,_,rfl,?_⟩;refine nu (fun e=>?_) (fun e=>?_)
     .exact⟨_,rfl,kt _ ⟨_,_,rfl⟩ (by simpa using e)⟩
     .exact kf _ ⟨_,_,rfl⟩ (by simpa using e)
    .refine⟨D',_,rfl,.inl (bg.of ag),?_⟩;rw[eG] at *;have q1:(IV (((zp zs).filter fun y=>decide (y.1=(i:Int))).map (·.1))).length=(IV (((zp zs).filter fun y=>decide (y.2=(i:Int))).map (·.2))).length:=by
      rw[bJ,bJ,bJ,bJ];exact fi.Uf i
     have q2:(IV (((zp zs).filter fun y=>decide (y.1=(i:Int))).map (·.1))).length<=8:=by
      rw[bJ,bJ];exact fi.most i
     refine⟨_,rfl,_,rfl,rfl,_,rfl,?_⟩;rw[<-q1];rw[show (!decide (V.int (((IV (((zp zs).filter fun y=>decide (y.1=(i:Int))).map (·.1))).length:Nat):Int)=V.int (((IV (((zp zs).filter fun y=>decide (y.1=(i:Int))).map (·.1))).length:Nat):Int)))=false by simp];refine du ?_;refine⟨_,rfl,_,_,rfl,rfl,_,rfl,?_⟩;rw[show decide ((((IV (((zp zs).filter fun y=>decide (y.1=(i:Int))).map (·.1))).length:Nat):Int) > 8)=false by rw[decide_eq_false_iff_not];lia];exact du ⟨ya.trans (am RA),_,_,_,rfl⟩
  .rintro σ H2 ⟨sm,a,b,c,rfl⟩;exact k H2 sm
end
def De:Expr:=match (aY sL).getD 1 (.Pass ⟨0,0,0,0⟩) with
 |.Return (some (.Call _ _ (k::_) _)) _=>k.value
 |_=>.Name "x" ⟨0,0,0,0⟩
def Df:Arguments:=match De with
 |.Lambda a _ _ _=>a
 |_=>{ posonlyargs:=[],args:=[],vararg:=none,kwonlyargs:=[],kw_defaults:=[],kwarg:=none,defaults:=[] }
def Dg:Expr:=match De with
 |.Lambda _ b _ _=>b
 |e=>e
def J9:Scope:=match De with
 |.Lambda _ _ s _=>s
 |_=>{ kind:=.function,names:=[],isGenerator:=false,isCoroutine:=false }
def Gh:Pos:=match De with
 |.Lambda _ _ _ p=>p
 |_=>⟨0,0,0,0⟩
def EN:Str:=("houses_out":Str)++".<locals>."++"<lambda>"
abbrev jA(Pt:Addr)(H:Hp):Prop:=jW Gh EN Pt H
def pP(Pt:Addr)(H H':Hp):Prop:=∀b o,H b=some o->b≠Pt->H' b=some o
theorem pP.of(a:aB H H'):pP Pt H H':=fun c o h _=>a c o h
theorem jA.not(t:jA Pt H)(h:H b=some o)(n:∀ps,o≠.mV ps):b≠Pt:=by
 rintro rfl;rcases t with z|⟨c,z,_⟩ <;> · rw[h] at z;exact n _ (bA z)
theorem jA.same(t:jA Pt H)(e:aB H H'):jA Pt H':=by
 rcases t with z|⟨c,z,y⟩
 .exact .inl (e _ _ z)
 .exact .inr ⟨c,e _ _ z,e _ _ y⟩
theorem Dh{n a b h:Int}(hn:0<n)(a0:0<=a)(a1:a<n)(b0:0<=b)(b1:b<n)(e:(a-h) % n=(b-h) % n):a=b:=by
 have h1:=Int.emod_emod_of_dvd (a-h) (Int.dvd_refl n);have q:(a-b) % n=0:=by
  have:a-b=(a-h)-(b-h):=by lia
  rw[this,Int.sub_emod,e,Int.sub_self,Int.zero_emod]
 obtain⟨c,hc⟩:=Int.dvd_of_emod_eq_zero q;have c0:c=0:=by
  rcases Int.lt_trichotomy c 0 with z|z|z
  .have:n*c<=n*(-1):=yF (by lia) (by lia);lia
  .exact z
  .have:n*1<=n*c:=yF (by lia) (by lia);lia
 rw[c0] at hc;lia
theorem oM{ts:Ts}{h:Int}(nd:ts.Nodup):((ts.filter fun y=>decide (y.1=h)).map (·.2)).Nodup:=by
 refine L2.lc (nd.filter _) fun x hx y hy e=>?_;have a:=(fq.mp hx).2;have b:=(fq.mp hy).2;simp at a b;exact jg (a.trans b.symm) e
theorem yb{n:Nat}{ts:Ts}{h:Nat}(F:iU n ts)(hh:h<n){out:List Int}(ko:FZ (h:Int) (n:Int) ((ts.filter fun y=>decide (y.1=(h:Int))).map (·.2)) out):out.map V.int=NV (d9 n ts h):=by
 obtain⟨ps,hp,rfl,hs⟩:=ko;have xI:(ps.map (·.2)).Perm ((ts.filter fun y=>decide (y.1=(h:Int))).map (·.2)):=by
  have:=hp.map (·.2);rw[gw] at this;refine this.trans (qj ?_);conv=>rhs;rw[<-gW ((ts.filter fun y=>decide (y.1=(h:Int))).map (·.2))]
  rfl
 have mem:∀z,z∈ps.map (·.2)↔((h:Int),z)∈ts:=fun z=>by
  rw[xI.mem_iff,a8];constructor
  .rintro⟨y,hy,rfl⟩;obtain⟨y1,y2⟩:=fq.mp hy;have:y.1=(h:Int):=by simpa using y2
   rw[<-this];exact y1
  .intro hz;exact⟨_,fq.mpr ⟨hz,by simp⟩,rfl⟩
 have nd:(ps.map (·.2)).Nodup:=xI.nodup_iff.mpr (oM F.nd);have key:∀q∈ps,q.1=(q.2-(h:Int)) % (n:Int):=fun q hq=>by
  obtain⟨z,_,e⟩:=a8.mp (hp.mem_iff.mp hq);rw[<-e]
 have hn:(0:Int)<n:=by have:=F.n1;lia
 have sorted:(ps.map (·.2)).Pairwise fun x y=>(x-(h:Int)) % (n:Int)<(y-(h:Int)) % (n:Int):=by
  refine lu.mpr ?_;have Uo:=lu.mp nd;refine(hs.and Uo).imp_of_mem fun {x y} hx hy HZ=>?_;have l1:=HZ.1;rw[key x hx,key y hy] at l1;have ax:=F.rg _ ((mem x.2).mp (a8.mpr ⟨x,hx,rfl⟩));have ay:=F.rg _ ((mem y.2).mp (a8.mpr ⟨y,hy,rfl⟩));have ne:(x.2-(h:Int)) % (n:Int)≠(y.2-(h:Int)) % (n:Int):=fun z=>HZ.2 (Dh hn ax.2.1 ax.2.2 ay.2.1 ay.2.2 z);lia
 have e:ps.map (·.2)=(d9 n ts h).map fun (o:Nat)=>(o:Int):=by
  refine lD (k:=fun z=>(z-(h:Int)) % (n:Int)) sorted ?_ fun z=>?_
  .refine lu.mpr ?_;exact sF hh
  .rw[mem,a8];constructor
   .intro hz;have r:=F.rg _ hz;refine⟨z.toNat,(fD F hh).mpr ?_,by lia⟩;show (((h:Nat):Int),((z.toNat:Nat):Int))∈ts;rw[show ((z.toNat:Nat):Int)=z by lia];exact hz
   .rintro⟨o,ho,rfl⟩;exact(fD F hh).mp ho
 rw[e,gw];rfl
section
variable {P:Program} {w:World} {K:PySem.W.Frag} {mg:Str->Option Value} {base:Heap}
theorem Ay:aw ["many","ties","house","others"] ["many","ties","house"] (aj sL):=⟨rfl,rfl,rfl,by decide +kernel,rfl,by decide +kernel,by decide +kernel⟩
def q0(Pt:Addr):Sp:=fun vs H Q _=>∃ (n:Nat) (l:Addr) (h:Nat) (zs:Zs),vs=[.int n,.ref l,.int h]/\h<n/\dz H l n zs/\jA Pt H/\
 ∀ (r:Addr) (H':Hp),jA Pt H'->pP Pt H H'->H r=none->H' r=some (.lst (NV (d9 n (zp zs) h)))->Q (.ref r) H'
theorem Di(F:vw K "houses_out" "houses_out" sL f fd c)(B:Bl mg)(kb:K.In base)(hb:qL mg base)(hc:PySem.W.codeHdIn K c Pt=true):
  aU P w K mg base aZ 1 f fd ["many","ties","house"] (q0 Pt):=by
 refine F.ok Ay (fun vs H Q E h=>?_) (fun A outer s H vs Q E hr h=>?_)
 .obtain⟨n,l,h,zs,rfl,_⟩:=h;rfl
 .obtain⟨n,l,h,zs,rfl,hh,T,tb,k⟩:=h;have fi:=T.oK;have n1:=fi.n1;have dt:zs.length<=256:=by have:=fi.len;rw[cw] at this;exact this
  have LS:JG (fu aZ P w K mg base ["many","ties","house","others"] "houses_out" (aj sL) f (.ref c) A outer s H E).By EN Df Dg J9 "other" "house" "many" 2 0:=
   ⟨⟨_,_,_,_,_,rfl⟩,fun _ _ _ _ _=>rfl,rfl,rfl,rfl,rfl,rfl,rfl,rfl,by decide +kernel,by decide +kernel,by decide +kernel,rfl,rfl,rfl,by decide,⟨by decide,by decide⟩,⟨by decide,by decide⟩⟩
  refine'⟨_,ah (jr (i:=3) (g:=yY K 2 (jK (cA 0) (jK (cA 1) yX))) (NB:=["one","other","house"]) (src:=[none,none,some 2]) (d8 (by kernel_rfl)) rfl (cP (pv 1)) ?g ?t ?e Ay.nd rfl rfl rfl)
   (ai (aG (xH (vt LS hr) rfl B.sorted yL (aa (pv 3) af) (B9 (FY (NB:=["other","house","many"]) (src:=[none,some 2,some 0]) (CJ kb hb hc) (d8 (by kernel_rfl))) Fz)))),?_⟩
  case g=>exact fun cl C s₃ H₃ fp=>jn (n:=2) rfl (bT (aH (i:=0) Ie rfl (Or.inl rfl) (Or.inr rfl)) (bT (aH (i:=1) Ie rfl (Or.inl rfl) (Or.inr rfl)) fZ))
  case t=>exact fun cl C s₃ H₃ fp=>iH (aR ng (pv 0) (pv 2) (a7 _))
  case e=>exact fun cl C s₃ H₃ fp=>pv 1
  refine⟨_,rfl,l,rfl,⟨_,bg.of T.at_⟩,fun D hD=>lm (fun σ=>∃a b,σ=[a,b,some (.int (h:Int))]) (·.1) (·.2) (h:Int) hD T.at_ T.po (by lia) ⟨_,_,rfl⟩ ?_ ?_⟩
  .rintro z σ H3 Kt Kf hj ⟨x,y,rfl⟩ ha kt kf;refine⟨z.1,_,rfl,cu.of ha,rfl,_,_,rfl,_,_,rfl,rfl,?_⟩;refine⟨_,rfl,_,rfl,rfl,_,rfl,?_⟩;refine nu (fun e=>?_) (fun e=>?_)
   .exact⟨_,rfl,kt _ ⟨_,_,rfl⟩ (by simpa using e)⟩
   .exact kf _ ⟨_,_,rfl⟩ (by simpa using e)
  .generalize yx:((zp zs).filter fun y=>decide (y.1=(h:Int))).map (·.2)=os;have EA:os.length<=8:=by rw[<-yx,bJ];exact fi.most h
   have sm:aB H (upd H D (.lst (IV os))):=am hD;refine⟨_,rfl,tb.same sm,fun f' c' H2 Up mU Fg CA=>?_⟩;have t2:jA Pt H2:=Up;have oq:H2 D=some (.lst (IV os)):=mU _ _ ag ((tb.same sm).not ag (by intro ps z;cases z));refine⟨D,f',c',os,h,n,rfl,rfl,bg.of oq,(by lia),CA,Fg,rfl,rfl,by lia,fun r out wm ko=>?_⟩;rw[<-yx] at ko;rw[yb fi hh ko];have ya:aB H2 (upd H2 r (.lst (NV (d9 n (zp zs) h)))):=am wm;refine k r _ (t2.same ya) (fun b o e hb=>ya _ _ (mU b o (sm _ _ e) hb)) ?_ ag;cases z:H r with
   |none=>rfl
   |some o=>
    by_cases hP:r=Pt
    .rcases t2 with q|⟨_,q,_⟩ <;> · rw[<-hP,wm] at q;cases q
    .rw[mU r o (sm _ _ z) hP] at wm;cases wm
end
abbrev Az:Stmt:=fg 30
abbrev vI:Stmt:=fg 31
def iV(n:Nat)(R:List Nat)(f:Nat->Nat):List V:=(List.range n).map fun x=>if x∈R then V.int ((f x:Nat):Int) else .bt
theorem ir:(iV n R f).length=n:=by unfold iV;rw[bJ,mG]
theorem iu(h:x<n):(iV n R f)[x]?=some (if x∈R then V.int ((f x:Nat):Int) else .bt):=by
 unfold iV;rw[bQ,List.getElem?_range h];rfl
theorem vJ(hs:s<n):(List.replicate n V.bt).set s (V.int 0)=iV n [s] (fun _=>0):=by
 apply ui;intro x;by_cases hx:x<n
 .rw[iu hx];by_cases e:x=s
  .subst e;rw[mn (by rw[mq];exact hx),ak (by simp)];rfl
  .rw[oY (fun z=>e z.symm),tP,ak hx,al (by simp[e])]
 .rw[oW (by rw[qf,mq];lia),oW (by rw[ir];lia)]
theorem AA(hv:v<n):(iV n R f).set v (V.int ((k:Nat):Int))=iV n (R++[v]) (put f v k):=by
 apply ui;intro x;by_cases hx:x<n
 .rw[iu hx];by_cases e:x=v
  .subst e;rw[mn (by rw[ir];exact hx),ak (by simp),im]
  .rw[oY (fun z=>e z.symm),iu hx,d_ e];by_cases h:x∈R
   .rw[ak h,ak (iX _ h)]
   .rw[al h,al (fun z=>(cJ.mp z).elim h fun z=>e (by simpa using z))]
 .rw[oW (by rw[qf,ir];lia),oW (by rw[ir];lia)]
def J_(σ:St):Nat:=match σ[4]? with
 |some (some (V.int z))=>z.toNat
 |_=>0
theorem Uq:(["others"]:List Str).Nodup:=by decide +kernel
def nR(H:Hp)(ol:Addr)(n:Nat)(ts:Ts):Prop:=∃bs:List Addr,H ol=some (.lst (bs.map V.ref))/\Holds H bs n (fun h=>.lst (NV (d9 n ts h)))
theorem nR.same(x:nR H ol n ts)(e:aB H H'):nR H' ol n ts:=let ⟨bs,a,b⟩:=x;⟨bs,e _ _ a,b.mono fun _ _ z=>e _ _ z⟩
theorem EO{as:List Addr}{i:Nat}{x:V}(h:(as.map V.ref)[i]?=some x):i<as.length/\x=.ref (as.getD i 0):=by
 rw[bQ] at h;cases e:as[i]? with
 |none=>rw[e] at h;cases h
 |some a=>
  rw[e] at h;refine⟨(cC.mp e).1,?_⟩;rw[dL,e];exact(bA h).symm
section
variable {P:Program} {w:World} {K:PySem.W.Frag} {mg:Str->Option Value} {base:Heap}
theorem jw:aw ["out_lists","start","distances","reached","at","house","other"] ["out_lists","start"] (aj Az):=⟨rfl,rfl,rfl,by decide +kernel,rfl,by decide +kernel,by decide +kernel⟩
def q9:Sp:=fun vs H Q _=>∃ (ol:Addr) (n s:Nat) (ts:Ts),vs=[.ref ol,.int s]/\iU n ts/\s<n/\nR H ol n ts/\
 ∀ (r:Addr) (H':Hp),aB H H'->H r=none->H' r=some (.lst (NV ((List.range n).map (EJ ts s))))->Q (.ref r) H'
theorem Dj{f:Addr}{fd:FuncData}(F:dE K "distances_from" "distances_from" Az f fd)(B:Bl mg):aU P w K mg base aZ 1 f fd ["out_lists","start"] q9:=by
 refine F.ok jw (fun vs H Q E h=>?_) (fun bX A outer s H vs Q E hr h=>?_)
 .obtain⟨ol,n,s,ts,rfl,_⟩:=h;rfl
 .obtain⟨ol,n,st,ts,rfl,fi,hs,O,k⟩:=h;have n1:=fi.n1;have n2:=fi.n2;refine'⟨_,ah (jr (i:=2) (g:=cA 0) (NB:=["others"]) (src:=[none]) (d8 (by kernel_rfl)) rfl (cP (pv 0)) ?g ?t ?e jw.nd rfl rfl rfl)
   (ah (m9 au (qx (pv 2) (pv 1) hZ))
   (ah (aM (i:=3) jw.nd rfl (Or.inl rfl) (bZ (aa (pv 1) af)))
   (ah (aM (i:=4) jw.nd rfl (Or.inl rfl) au)
   (ah (y4 dh (aR o7 (pv 4) (az aQ (by rfl) B.len eF (aa (pv 3) af)) (a7 _))
    (ah (aM (i:=5) jw.nd rfl (Or.inl rfl) (bu bi (pv 3) (pv 4) (fun _ _=>rfl)))
    (ah (cg dh rfl (cP (bu bi (pv 0) (pv 5) (fun _ _=>rfl))) (aH (i:=6) jw.nd rfl (Or.inl rfl))
     (ai (bq (aR uU (bu bi (pv 2) (pv 6) (fun _ _=>rfl)) dW (a7 _))
      (ah (m9 (aV dX (bu bi (pv 2) (pv 5) (fun _ _=>rfl)) au) (qx (pv 2) (pv 6) hZ))
      (ai (cH (nq mj mi mh cU (pv 3) (aa (pv 6) af))))) aN)))
    (ai (kL (i:=4) jw.nd rfl (Or.inl rfl) au uM)))))
   (ai (aG (pv 2))))))),?_⟩
  case g=>exact fun cl C s₃ H₃ fp=>aH (i:=0) Uq rfl (Or.inl rfl) (Or.inr rfl)
  case t=>exact fun cl C s₃ H₃ fp=>jQ
  case e=>exact fun cl C s₃ H₃ fp=>dW
  obtain⟨bs,EA,Og,HU⟩:=id O;refine⟨_,rfl,ol,rfl,⟨_,bg.of EA⟩,fun D hD=>?_⟩;have Ur:ol≠D:=aq EA hD;refine fw (xs:=bs.map V.ref) (fun i ys σ H2=>(∃a,σ=[a])/\ys=List.replicate i V.bt/\H2=upd H D (.lst ys)) ⟨⟨_,rfl⟩,rfl,rfl⟩ (fun i ys σ H2 _ ⟨_,_,e⟩=>by rw[e];exact bg.of (by rw[ap Ur];exact EA)) ?_ ?_
  .rintro i x ys σ H2 Kt Kf hx ⟨⟨a,rfl⟩,rfl,rfl⟩ kt kf;have hi:=(EO hx).1;refine kt _ _ _ ag ?_ ⟨⟨_,rfl⟩,?_,by rw[lU]⟩
   .rw[mq];exact bp hi (by rw[Og];exact bb n2 (by decide))
   .rw[List.replicate_succ']
  .rintro ys σ H2 ⟨_,rfl,rfl⟩;rw[bJ,Og];refine⟨_,rfl,_,rfl,D,_,st,st,rfl,rfl,ag,by rw[mq];exact jX hs,?_⟩;rw[lU,vJ hs];refine⟨_,rfl,by show 1<=sizeLine;decide,fun R hR=>?_⟩;have Ml:D≠R:=aq (H:=upd H D (.lst (iV n [st] (fun _=>0)))) ag hR;have Oh:H R=none:=by rw[ap Ml.symm] at hR;exact hR
   refine zc (fun σ H2=>∃ (i:Nat) (Rs:List Nat) (f:Nat->Nat),i<=Rs.length/\xV n ts st i Rs f/\(∃a b,σ=[some (.ref ol),some (.int st),some (.ref D),some (.ref R),some (.int (i:Int)),a,b])/\aB H H2/\H2 D=some (.lst (iV n Rs f))/\H2 R=some (.lst (NV Rs)))
    (fun σ _=>n-J_ σ) ⟨0,[st],fun _=>0,cK _,xV.start hs,⟨none,none,rfl⟩,cj (am hD) Oh,?_,ag⟩ ?_ ?_
   .rw[ap Ml,ag]
   .rintro σ H2 ⟨i,Rs,f,hi,Bf,⟨a,b,rfl⟩,sm,oq,Oi⟩;have VO:Rs.length<=n:=gh Bf.nd Bf.lt;refine⟨_,rfl,_,rfl,R,_,rfl,.inl (bg.of Oi),_,_,rfl,rfl,_,rfl,?_⟩;rw[ba];by_cases pH:i<Rs.length
    .rw[show decide ((i:Int)<((Rs.length:Nat):Int))=true by simp;lia];refine gG ?_;have hu:Rs[i]?=some Rs[i]:=cV pH;generalize Rs[i]=u at hu;have Dk:u<n:=Bf.lt u (cD hu);have Us:(NV Rs)[i]?=some (.int (u:Int)):=by rw[bQ,hu];rfl
     refine⟨_,rfl,_,rfl,R,_,_,_,rfl,rfl,bg.of Oi,aO Us,?_⟩;have Mm:(bs.map V.ref)[u]?=some (.ref (bs.getD u 0)):=by
      rw[bQ,dL,cV (by rw[Og];exact Dk)];rfl
     have Ut:=sm _ _ (HU _ Dk);refine⟨_,rfl,_,rfl,ol,_,_,_,rfl,rfl,bg.of (sm _ _ EA),aO Mm,_,rfl,⟨_,bg.of Ut⟩,?_⟩;have VP:bs.getD u 0≠D:=aq (HU _ Dk) hD;have VQ:bs.getD u 0≠R:=aq (HU _ Dk) Oh;refine g_ (K:=K) (xs:=NV (d9 n ts u)) (fun j σ H3=>∃ (lL:List Nat) (f':Nat->Nat),xV n ts st i lL f'/\lL[i]?=some u/\(∀v∈(d9 n ts u).take j,v∈lL/\f' v<=f' u+1)/\
      (∃b,σ=[some (.ref ol),some (.int st),some (.ref D),some (.ref R),some (.int (i:Int)),some (.int (u:Int)),b])/\aB H H3/\H3 D=some (.lst (iV n lL f'))/\H3 R=some (.lst (NV lL)))
      ⟨Rs,f,Bf,hu,fun v hv=>by simp at hv,⟨_,rfl⟩,sm,oq,Oi⟩ (fun j σ H3 _ ⟨_,_,_,_,_,_,EQ,_⟩=>bg.of (EQ _ _ (HU _ Dk))) ?_ ?_
     .rintro j x σ H3 hx ⟨lL,f',Dl,zR,dn,⟨b',rfl⟩,EQ,ER,BF⟩;rw[bQ] at hx;cases hv:(d9 n ts u)[j]? with
      |none=>rw[hv] at hx;cases hx
      |some v=>
       rw[hv] at hx;obtain rfl:V.int ((v:Nat):Int)=x:=bA hx;have RB:v∈d9 n ts u:=cD hv;have Mn:v<n:=C1 fi Dk RB;have Uu:T ts u v:=(fD fi Dk).mp RB;have tk:(d9 n ts u).take (j+1)=(d9 n ts u).take j++[v]:=by rw[eO,hv];rfl
       have Ka:u∈lL:=cD zR;refine⟨_,rfl,_,rfl,D,_,_,_,rfl,rfl,bg.of ER,aO (iu Mn),rfl,_,rfl,?_⟩;by_cases Gi:v∈lL
       .rw[ak Gi];refine du ⟨lL,f',Dl,zR,fun x hx=>?_,⟨_,rfl⟩,EQ,ER,BF⟩;rw[tk] at hx;rcases cJ.mp hx with z|z
        .exact dn x z
        .simp at z;subst z;exact⟨Gi,Dl.bd u zR _ Gi⟩
       .rw[al Gi];refine gG ?_;have Uv:(iV n lL f')[u]?=some (.int ((f' u:Nat):Int)):=by rw[iu Dk,ak Ka]
        refine⟨_,rfl,_,rfl,D,_,_,_,rfl,rfl,bg.of ER,aO Uv,_,_,rfl,rfl,_,rfl,_,rfl,D,_,_,_,rfl,rfl,ER,by rw[ir];exact jX Mn,?_⟩;have e1:(iV n lL f').set v (.int (((f' u:Nat):Int)+1))=iV n (lL++[v]) (put f' v (f' u+1)):=by
         rw[show ((f' u:Nat):Int)+1=((f' u+1:Nat):Int) by lia,AA Mn]
        rw[e1];have sB:(upd H3 D (.lst (iV n (lL++[v]) (put f' v (f' u+1))))) R=some (.lst (NV lL)):=by rw[ap Ml.symm];exact BF
        have Kb:lL.length<=n:=gh Dl.nd Dl.lt;refine⟨_,rfl,.inl ⟨rfl,_,bg.of sB⟩,_,rfl,R,_,_,rfl,rfl,sB,by rw[ba];exact bp (show lL.length<33 by lia) (by decide),?_⟩;have EF:i<lL.length:=(cC.mp zR).1;have Uw:u≠v:=fun z=>Gi (z ▸ Ka);refine⟨lL++[v],put f' v (f' u+1),Dl.add zR Mn Uu Gi,by rw[oQ EF];exact zR,fun x hx=>?_,⟨_,rfl⟩,cj (cj EQ hD) Oh,?_,?_⟩
        .rw[d_ Uw];rw[tk] at hx;rcases cJ.mp hx with z|z
         .obtain⟨q1,q2⟩:=dn x z;exact⟨iX _ q1,by rw[d_ (fun (z:x=v)=>Gi (z ▸ q1))];exact q2⟩
         .simp at z;subst z;exact⟨by simp,by rw[im];exact aK _⟩
        .rw[ap Ml,ag]
        .rw[ag];show _=some (HO.lst (NV (lL++[v])));rw[show NV (lL++[v])=NV lL++[.int (v:Int)] by unfold NV;rw[eQ];rfl]
     .rintro σ H3 ⟨lL,f',Dl,zR,dn,⟨b',rfl⟩,EQ,ER,BF⟩;rw[ba,gs] at dn;have EF:i<lL.length:=(cC.mp zR).1;have Kb:lL.length<=n:=gh Dl.nd Dl.lt;refine⟨_,rfl,_,_,rfl,rfl,⟨⟨i+1,lL,f',EF,Dl.next zR (fun v t=>dn v ((fD fi Dk).mpr t)),⟨_,_,rfl⟩,EQ,ER,BF⟩,?_⟩⟩;show n-((i:Int)+1).toNat<n-(i:Int).toNat;lia
    .rw[show decide ((i:Int)<((Rs.length:Nat):Int))=false by rw[decide_eq_false_iff_not];lia];have e:iV n Rs f=NV ((List.range n).map (EJ ts st)):=by
      unfold iV NV;rw[gw];refine lr fun x hx=>?_;obtain⟨q1,q2⟩:=Bf.done fi (by lia) (dM.mp hx);rw[ak q1,q2];rfl
     rw[e] at oq;refine du ⟨_,rfl,k D H2 sm hD oq⟩
   .rintro σ H2 Q1 Q2 imp ⟨v,e1,v2,e2,p,ys,e3,e4,i1,i2,e5,e6,kk,e7,q⟩;exact⟨v,e1,v2,e2,p,ys,e3,e4,i1,i2,e5,e6,kk,e7,imp _ _ q⟩
end
theorem Kc:(["row"]:List Str).Nodup:=by decide +kernel
section
variable {P:Program} {w:World} {K:PySem.W.Frag} {mg:Str->Option Value} {base:Heap}
theorem Dm:aw ["distances"] ["distances"] (aj vI):=⟨rfl,rfl,rfl,by decide +kernel,rfl,by decide +kernel,by decide +kernel⟩
def q_:Sp:=fun vs H Q _=>∃ (l:Addr) (ds:List Addr) (n:Nat) (o:Nat->List V),vs=[.ref l]/\H l=some (.lst (ds.map V.ref))/\n<=32/\Holds H ds n (fun j=>.lst (o j))/\(∀j,j<n->∀x∈o j,∃i,x=.int i)/\∀H',aB H H'->Q .bt H'
theorem AB(F:dE K "check_reached" "check_reached" vI f fd)(B:Bl mg):aU P w K mg base aZ 1 f fd ["distances"] q_:=by
 refine F.ok Dm (fun vs H Q E h=>?_) (fun bX A outer s H vs Q E hr h=>?_)
 .obtain⟨l,ds,n,o,rfl,_⟩:=h;rfl
 .obtain⟨l,ds,n,o,rfl,hl,n2,hh,hx,k⟩:=h;refine'⟨_,ai (bq (cr (az (xF rfl) (by rfl) B.any PyProof.Rows.boot_any (aa ?c af))) cf aN),?_⟩;case c=>
   refine' gb (g:=cA 0) (te:=uS (QB K false) (tC .bt) (cq 0)) (NB:=["row"]) (src:=[none]) (d8 (by kernel_rfl)) rfl (cP (pv 0)) ?g ?t ?e;case g=>exact fun cl C s₃ H₃ fp=>aH (i:=0) Kc rfl (Or.inl rfl) (Or.inr rfl)
   case t=>exact fun cl C s₃ H₃ fp=>jQ
   case e=>exact fun cl C s₃ H₃ fp=>iD iF dW (pv 0) rfl
  refine⟨_,rfl,l,rfl,⟨_,bg.of hl⟩,fun D hD=>?_⟩;have nl:l≠D:=aq hl hD;refine fw (xs:=ds.map V.ref) (fun i ys σ H2=>(∃a,σ=[a])/\ys=(List.replicate i false).map V.bl/\H2=upd H D (.lst ys)) ⟨⟨_,rfl⟩,rfl,rfl⟩ (fun i ys σ H2 _ ⟨_,_,e⟩=>by rw[e];exact bg.of (by rw[ap nl];exact hl)) ?_ ?_
  .rintro i x ys σ H2 Kt Kf Ux ⟨⟨a,rfl⟩,rfl,rfl⟩ kt kf;obtain⟨hi,rfl⟩:=EO Ux;rw[hh.1] at hi;have hd:=hh.2 i hi;have nd:ds.getD i 0≠D:=aq hd hD;have q1:(o i).all h_=true:=jF.mpr fun x uL=>by obtain⟨z,rfl⟩:=hx i hi x uL;rfl
   have q2:we .bt (o i)=false:=by
    unfold we;rw[uj];intro x uL;obtain⟨z,rfl⟩:=hx i hi x uL;exact fun z=>by cases z
   refine⟨_,rfl,_,_,rfl,.inl (bg.of (by rw[ap nd];exact hd)),rfl,q1,?_⟩;refine kt _ _ _ ag ?_ ⟨⟨_,rfl⟩,?_,by rw[lU]⟩
   .rw[bJ,mq];exact bp hi (bb n2 (by decide))
   .rw[List.replicate_succ',eQ,q2];rfl
  .rintro ys σ H2 ⟨_,rfl,rfl⟩;refine⟨D,_,rfl,bg.of ag,_,rfl,?_⟩;have e:(List.replicate (ds.map V.ref).length false).any id=false:=by
    rw[uj];intro x uL;rw[(List.mem_replicate.mp uL).2];decide
   rw[e];exact du (k _ (am hD))
end
theorem RC:(["one","other"]:List Str).Nodup:=by decide +kernel
theorem Kd:(["house","many","ties"]:List Str).Nodup:=by decide +kernel
theorem Oj:(["house","self"]:List Str).Nodup:=by decide +kernel
def i6(p Pt:Addr)(H H':Hp):Prop:=∀b o,H b=some o->b≠p->b≠Pt->H' b=some o
theorem dz.mono(h:dz H l n zs)(e:i6 p Pt H H')(hp:H p=some (.ins C dx fs))(tb:jA Pt H):dz H' l n zs:=
 ⟨h.oK,e _ _ h.at_ (dk h.at_ hp (by intro z;cases z)) (tb.not h.at_ (by intro ps z;cases z)),fun z hz=>e _ _ (h.po z hz) (dk (h.po z hz) hp (by intro z;cases z)) (tb.not (h.po z hz) (by intro ps z;cases z))⟩
theorem jA.mono(t:jA Pt H)(e:∀b o,H b=some o->b≠p->H' b=some o)(hp:H p=some (.ins C dx fs)):jA Pt H':=by
 rcases t with z|⟨c,z,y⟩
 .exact .inl (e _ _ z (dk z hp (by intro q;cases q)))
 .exact .inr ⟨c,e _ _ z (dk z hp (by intro q;cases q)),e _ _ y (dk y hp (by intro q;cases q))⟩
theorem jA.full(t:jA Pt H):H Pt≠none:=by
 rcases t with z|⟨c,z,y⟩ <;> rw[z] <;> intro q <;> cases q
theorem i6.free(s:i6 p Pt H H')(hp:H' p≠none)(tb:jA Pt H')(h:H' r=none):H r=none:=by
 cases z:H r with
 |none=>rfl
 |some o=>
  by_cases e1:r=p
  .subst e1;exact absurd h hp
  .by_cases e2:r=Pt
   .subst e2;exact absurd h tb.full
   .rw[s r o z e1 e2] at h;cases h
theorem Ke(h:k [] H):gD σ H k:=h
theorem iK{H:Hp}{p:Addr}{o:HO}(h:H p=some o):H p≠none:=by rw[h];intro z;cases z
section
variable {P:Program} {w:World} {K:PySem.W.Frag} {mg:Str->Option Value} {base:Heap}
theorem Gj:aw ["self","many","ties"] ["self","many","ties"] (aj wR):=⟨rfl,rfl,rfl,by decide +kernel,rfl,by decide +kernel,by decide +kernel⟩
def vK(C Pt:Addr):Sp:=fun vs H Q E=>∃ (p dx:Addr) (n:Nat) (l:Addr) (zs:Zs),vs=[.ref p,.int n,.ref l]/\H p=some (.ins C dx [])/\dz H l n zs/\jA Pt H/\
  ∀H',eA C H' (fun a=>H a=none) p n (zp zs)->jA Pt H'->i6 p Pt H H'->Q .bt H'
theorem Dn{f C Pt:Addr}{fd:FuncData}(F:dE K "__init__" "Net.__init__" wR f fd)(T:NT K mg C)(B:Bl mg)(CT:ck P w K mg base aZ 6 "check_ties" ["many","ties"] iJ)(CB:ck P w K mg base aZ 1 "check_balance" ["many","ties"] iJ)(Uy:ck P w K mg base aZ 1 "houses_out" ["many","ties","house"] (q0 Pt))(DF:ck P w K mg base aZ 1 "distances_from" ["out_lists","start"] q9)(CR:ck P w K mg base aZ 1 "check_reached" ["distances"] q_):
  aU P w K mg base aZ 7 f fd ["self","many","ties"] (vK C Pt):=by
 refine F.ok Gj (fun vs H Q E h=>?_) (fun bX A outer s H vs Q E hr h=>?_)
 .obtain⟨p,dx,n,l,zs,rfl,_⟩:=h;rfl
 .have yc:bh 1 _:=hr.mono (by decide);refine'⟨_,ah (cH (av CT hr aF (aa (pv 1) (aa (pv 2) af))))
   (ah (cH (av CB yc aF (aa (pv 1) (aa (pv 2) af))))
   (ah (kR (pv 0) (pv 1) rfl)
   (ah (kR (pv 0) (az vz (by rfl) B.sorted yL (aa ?c1 af)) rfl)
   (ah (kR (pv 0) ?c2 rfl)
   (ah (kR (pv 0) ?c3 rfl)
   (ai (cH (av CR yc aF (aa (eZ (pv 0) rfl) af))))))))),?_⟩
  case c1=>
   refine' gb (g:=yY K 2 (jK (cA 0) (jK (cA 1) yX))) (te:=Fw (ci (cq 0) (ci (cq 1) gD))) (NB:=["one","other"]) (src:=[none,none]) (d8 (by kernel_rfl)) rfl (cP (pv 2)) ?g ?t ?e;case g=>exact fun cl C s₃ H₃ fp=>jn (n:=2) rfl (bT (aH (i:=0) RC rfl (Or.inl rfl) (Or.inr rfl)) (bT (aH (i:=1) RC rfl (Or.inl rfl) (Or.inr rfl)) fZ))
   case t=>exact fun cl C s₃ H₃ fp=>jQ
   case e=>exact fun cl C s₃ H₃ fp=>hV (aa (pv 0) (aa (pv 1) af))
  case c2=>
   refine' gb (g:=cA 0) (te:=nj (q0 Pt) [] E0 (ci (cq 1) (ci (cq 2) (ci (cq 0) gD)))) (NB:=["house","many","ties"]) (src:=[none,some 1,some 2]) (d8 (by kernel_rfl)) rfl (bK rfl B.range (aa (pv 1) af)) ?g ?t ?e;case g=>exact fun cl C s₃ H₃ fp=>aH (i:=0) Kd rfl (Or.inl rfl) (Or.inr rfl)
   case t=>exact fun cl C s₃ H₃ fp=>jQ
   case e=>exact fun cl C s₃ H₃ fp=>av Uy yc aF (aa (pv 1) (aa (pv 2) (aa (pv 0) af)))
  case c3=>
   refine' gb (g:=cA 0) (te:=nj q9 [] E0 (ci (IT K (cq 1) "out_lists") (ci (cq 0) gD))) (NB:=["house","self"]) (src:=[none,some 0]) (d8 (by kernel_rfl)) rfl (bK rfl B.range (aa (pv 1) af)) ?g ?t ?e;case g=>exact fun cl C s₃ H₃ fp=>aH (i:=0) Oj rfl (Or.inl rfl) (Or.inr rfl)
   case t=>exact fun cl C s₃ H₃ fp=>jQ
   case e=>exact fun cl C s₃ H₃ fp=>av DF yc aF (aa (eZ (pv 1) rfl) (aa (pv 0) af))
  obtain⟨p,dx,n,l,zs,rfl,hp,TT,tb,k⟩:=h;have fi:=TT.oK;have n1:=fi.n1;have n2:=fi.n2;have dt:zs.length<=256:=by have:=fi.len;rw[cw] at this;exact this
  refine⟨_,rfl,_,rfl,n,l,zs,rfl,TT,fun H1 s1=>?_⟩;refine⟨_,rfl,_,rfl,n,l,zs,rfl,TT.same s1,fun H2 s2=>?_⟩;have Do:aB H H2:=s1.trans s2;refine⟨_,rfl,_,rfl,p,C,dx,[],rfl,Do _ _ hp,T.cl,T.nH,(by show 0<1000;decide),?_⟩
  let G1:Hp:=upd H2 p (.ins C dx (bU "house_count" (.int n) []))
  have d1:i6 p Pt H G1:=fun b o e h1 _=>by show upd _ _ _ _=_;rw[ap h1];exact Do _ _ e
  have Mo:G1 p=some (.ins C dx (bU "house_count" (.int n) [])):=ag;have Ol:dz G1 l n zs:=TT.mono d1 hp tb;have Om:jA Pt G1:=tb.mono (fun b o e h1=>by show upd _ _ _ _=_;rw[ap h1];exact Do _ _ e) hp;refine⟨_,rfl,l,rfl,⟨_,bg.of Ol.at_⟩,fun D hD=>?_⟩;refine Ar (fun y=>y) (fun σ=>∃a b,σ=[a,b]) Ol.at_ Ol.po hD (by lia) ⟨_,_,rfl⟩ ?_ ?_
  .rintro z σ H3 R Kf hz ⟨a,b,rfl⟩ ha kk;refine⟨_,_,rfl,cu.of ha,rfl,_,_,rfl,_,_,rfl,rfl,?_⟩;exact⟨_,rfl,_,rfl,by show 2<=sizeLine;decide,fun t ht=>kk _ _ ⟨_,_,rfl⟩ ht⟩
  .intro RD H3 sm ER Kg ez Uz;rw[List.map_id'] at ez;have Jb:RD.length=zs.length:=by rw[<-cw,ez,cw]
   refine Ke ?_;refine C9 ER Kg (by lia) (fun u hu=>by have:=(fi.rg u (ez ▸ hu)).2;lia) fun tl Ig On pm UA=>?_;have Oo:H tl=none:=d1.free (iK Mo) Om (sm.free On);have Fp:∀z∈Ig,H z.1=none:=fun z hz=>d1.free (iK Mo) Om (Uz z (pm.mem_iff.mp hz));have Op:H3 p=some (.ins C dx (bU "house_count" (.int n) [])):=sm _ _ Mo;have Gk:p≠tl:=aq Op On;refine⟨_,rfl,p,C,dx,_,rfl,by rw[ap Gk];exact Op,T.cl,T.nT,by show 1<1000;decide,?_⟩
   let G2:Hp:=upd (upd H3 tl (.lst (zr Ig))) p (.ins C dx (bU "tie_list" (.ref tl) (bU "house_count" (.int n) [])))
   have q2:∀b o,H3 b=some o->b≠p->G2 b=some o:=fun b o e h1=>by
    show upd _ _ _ _=_;rw[ap h1,ap (aq e On)];exact e
   have d2:i6 p Pt H G2:=fun b o e h1 h2=>q2 _ _ (sm _ _ (d1 _ _ e h1 h2)) h1;have RE:G2 tl=some (.lst (zr Ig)):=by show upd _ _ _ _=_;rw[ap Gk.symm,ag]
   have Oq:PO G2 Ig:=fun z hz=>q2 _ _ (Kg z (pm.mem_iff.mp hz)) (dk (Kg z (pm.mem_iff.mp hz)) Op (by intro z;cases z));have Gm:G2 p=some (.ins C dx (bU "tie_list" (.ref tl) (bU "house_count" (.int n) []))):=ag;have UB:dz G2 l n zs:=TT.mono d2 hp tb;have Gn:jA Pt G2:=Om.mono (fun b o e h1=>q2 _ _ (sm _ _ e) h1) Mo;refine⟨_,rfl,n,rfl,by lia,by lia,fun D2 oq=>?_⟩;refine ge (n:=n) (lo:=0) (fun i ys σ H4=>(∃a,σ=[a,some (.int n),some (.ref l)])/\∃bs:List Addr,ys=bs.map V.ref/\(∀b∈bs,H b=none)/\Holds H4 bs i (fun h=>.lst (NV (d9 n (zp zs) h)))/\pP Pt G2 H4/\jA Pt H4/\H4 D2=some (.lst ys)/\∀b∈bs,b≠D2)
    ⟨⟨_,rfl⟩,[],rfl,(fun _ h=>nomatch h),Holds.nil,pP.of (am oq),Gn.same (am oq),ag,(fun _ h=>nomatch h)⟩ ?_ ?_
   .rintro i ys σ H4 Kt Kf hi ⟨⟨a,rfl⟩,bs,rfl,Os,hb,xx,Ih,Ii,Ot⟩ kt kf;have UC:dz H4 l n zs:=UB.mono (p:=p) (fun b o e _ h2=>xx _ _ e h2) Gm Gn;have Ij:=xx _ _ Gm (Gn.not Gm (by intro ps z;cases z));refine⟨_,rfl,_,rfl,_,rfl,n,l,i,zs,by rw[eG];rfl,hi,UC,Ih,fun r H5 t5 rA Ou UD=>?_⟩;have Ov:H r=none:=i6.free (fun b o e h1 h2=>xx _ _ (d2 _ _ e h1 h2) h2) (iK Ij) Ih Ou;have Mp:H5 D2=some (.lst (bs.map V.ref)):=rA _ _ Ii (Ih.not Ii (by intro ps z;cases z));have Kh:r≠D2:=by rintro rfl;rw[Ii] at Ou;cases Ou
    have i7:∀b o sg,H5 b=some o->b≠D2->(upd H5 D2 sg) b=some o:=fun b o sg e h=>by rw[ap h];exact e
    refine kt _ _ _ Mp (by rw[bJ,hb.1];exact bp hi (bb n2 (by decide))) ⟨⟨_,rfl⟩,bs++[r],by rw[eQ];rfl,?_,?_,?_,?_,ag,?_⟩
    .intro b wg;rcases cJ.mp wg with z|z
     .exact Os b z
     .rw[gn.mp z];exact Ov
    .refine Holds.snoc (hb.mono fun j hj e=>?_) (i7 _ _ _ UD Kh);refine i7 _ _ _ (rA _ _ e (Ih.not e (by intro ps z;cases z))) (Ot _ ?_);rw[dL,cV (by rw[hb.1];exact hj)];exact jE _
    .intro b o e h;exact i7 _ _ _ (rA _ _ (xx _ _ e h) h) (aq e oq)
    .rcases t5 with z|⟨c,z,y⟩
     .exact .inl (i7 _ _ _ z (dk z Mp (by intro q;cases q)))
     .exact .inr ⟨c,i7 _ _ _ z (dk z Mp (by intro q;cases q)),i7 _ _ _ y (dk y Mp (by intro q;cases q))⟩
    .intro b wg;rcases cJ.mp wg with z|z
     .exact Ot b z
     .rw[gn.mp z];exact Kh
   .rintro ys σ H4 ⟨_,bs,rfl,Os,hb,xx,Ih,Ii,Ot⟩;have Ij:H4 p=some (.ins C dx (bU "tie_list" (.ref tl) (bU "house_count" (.int n) []))):=xx _ _ Gm (Gn.not Gm (by intro ps z;cases z));have Ow:H D2=none:=d2.free (iK Gm) Gn oq;refine⟨_,rfl,p,C,dx,_,rfl,Ij,T.cl,T.nO,by have h1:=cF "tie_list" (V.ref tl) (bU "house_count" (V.int n) []);have h2:=cF "house_count" (V.int n) [];simp at h2;lia,?_⟩
    let G3:Hp:=upd H4 p (.ins C dx (bU "out_lists" (.ref D2) (bU "tie_list" (.ref tl) (bU "house_count" (.int n) []))))
    have q3:∀b o,H4 b=some o->b≠p->G3 b=some o:=fun b o e h1=>by show upd _ _ _ _=_;rw[ap h1];exact e
    have Go:G3 p=some (.ins C dx (bU "out_lists" (.ref D2) (bU "tie_list" (.ref tl) (bU "house_count" (.int n) [])))):=ag;have d3:i6 p Pt H G3:=fun b o e h1 h2=>q3 _ _ (xx _ _ (d2 _ _ e h1 h2) h2) h1;have Oy:jA Pt G3:=Ih.mono q3 Ij;have RF:Holds G3 bs n (fun h=>.lst (NV (d9 n (zp zs) h))):=hb.mono fun j hj e=>q3 _ _ e (dk e Ij (by intro z;cases z));have Oz:G3 D2=some (.lst (bs.map V.ref)):=q3 _ _ Ii (dk Ii Ij (by intro z;cases z));have O3:nR G3 D2 n (zp zs):=⟨bs,Oz,RF⟩
    refine⟨_,rfl,n,rfl,by lia,by lia,fun D3 Gp=>?_⟩;refine ge (n:=n) (lo:=0) (fun i ys σ H6=>(∃a,σ=[a,some (.ref p)])/\∃ds:List Addr,ys=ds.map V.ref/\(∀b∈ds,H b=none)/\Holds H6 ds i (fun s=>.lst (NV ((List.range n).map (EJ (zp zs) s))))/\aB G3 H6/\H6 D3=some (.lst ys)/\∀b∈ds,b≠D3)
     ⟨⟨_,rfl⟩,[],rfl,(fun _ h=>nomatch h),Holds.nil,am Gp,ag,(fun _ h=>nomatch h)⟩ ?_ ?_
    .rintro i ys σ H6 Kt Kf hi ⟨⟨a,rfl⟩,ds,rfl,OA,hd,zO,yA,IR⟩ kt kf;refine⟨_,rfl,p,C,dx,_,_,rfl,zO _ _ Go,T.cl,T.nO,by rw[aJ,ak rfl],_,rfl,D2,n,i,zp zs,by rw[eG];rfl,fi,hi,O3.same zO,fun r H7 OB AC UE=>?_⟩;have UF:H7 D3=some (.lst (ds.map V.ref)):=OB _ _ yA;have Kh:r≠D3:=by rintro rfl;rw[yA] at AC;cases AC
     have Ov:H r=none:=i6.free (fun b o e h1 h2=>zO _ _ (d3 _ _ e h1 h2)) (iK (zO _ _ Go)) (Oy.same zO) AC;have i7:∀b o sg,H7 b=some o->b≠D3->(upd H7 D3 sg) b=some o:=fun b o sg e h=>by rw[ap h];exact e
     refine kt _ _ _ UF (by rw[bJ,hd.1];exact bp hi (bb n2 (by decide))) ⟨⟨_,rfl⟩,ds++[r],by rw[eQ];rfl,?_,?_,?_,ag,?_⟩
     .intro b wg;rcases cJ.mp wg with z|z
      .exact OA b z
      .rw[gn.mp z];exact Ov
     .refine Holds.snoc (hd.mono fun j hj e=>?_) (i7 _ _ _ UE Kh);refine i7 _ _ _ (OB _ _ e) (IR _ ?_);rw[dL,cV (by rw[hd.1];exact hj)];exact jE _
     .intro b o e;exact i7 _ _ _ (OB _ _ (zO _ _ e)) (aq e Gp)
     .intro b wg;rcases cJ.mp wg with z|z
      .exact IR b z
      .rw[gn.mp z];exact Kh
    .rintro ys σ H6 ⟨_,ds,rfl,OA,hd,zO,yA,IR⟩;have Ki:=zO _ _ Go;refine⟨_,rfl,p,C,dx,_,rfl,Ki,T.cl,T.nD,by have h1:=cF "tie_list" (V.ref tl) (bU "house_count" (V.int n) []);have h2:=cF "house_count" (V.int n) [];have h3:=cF "out_lists" (V.ref D2) (bU "tie_list" (V.ref tl) (bU "house_count" (V.int n) []));simp at h2;lia,?_⟩;have q4:∀b o u,H6 b=some o->b≠p->(upd H6 p u) b=some o:=fun b o u e h1=>by rw[ap h1];exact e
     refine⟨_,rfl,p,C,dx,_,_,rfl,ag,T.cl,T.nD,by rw[aJ,ak rfl],D3,ds,n,fun s=>NV ((List.range n).map (EJ (zp zs) s)),rfl,q4 _ _ _ yA (dk yA Ki (by intro z;cases z)),n2,hd.mono fun j hj e=>q4 _ _ _ e (dk e Ki (by intro z;cases z)),fun j hj x hx=>?_,fun H8 s8=>?_⟩
     .obtain⟨y,hy,rfl⟩:=a8.mp hx;exact⟨_,rfl⟩
     .have up:∀b o,G3 b=some o->b≠p->H8 b=some o:=fun b o e h1=>s8 _ _ (q4 _ _ _ (zO _ _ e) h1);have OC:H D3=none:=d3.free (iK Go) Oy Gp;have RG:∀b o,G2 b=some o->b≠p->b≠Pt->H8 b=some o:=fun b o e h1 h2=>up _ _ (q3 _ _ (xx _ _ e h2) h1) h1;refine k H8 ⟨fi,dx,tl,D2,D3,s8 _ _ ag,Ow,OC,⟨bs,up _ _ Oz (dk Oz Go (by intro z;cases z)),Os,RF.mono fun j hj e=>up _ _ e (dk e Go (by intro z;cases z))⟩,
       ⟨ds,s8 _ _ (q4 _ _ _ yA (dk yA Ki (by intro z;cases z))),OA,hd.mono fun j hj e=>s8 _ _ (q4 _ _ _ e (dk e Ki (by intro z;cases z)))⟩,
       ⟨Oo,Ig,RG _ _ RE Gk.symm (Gn.not RE (by intro ps z;cases z)),fun z hz=>RG _ _ (Oq z hz) (dk (Oq z hz) Gm (by intro z;cases z)) (Gn.not (Oq z hz) (by intro ps z;cases z)),Fp,((show (zp Ig).Perm (zp RD) from pm.map _).trans (qj ez)),UA⟩⟩ ?_ fun b o e h1 h2=>up _ _ (d3 _ _ e h1 h2) h1
      exact Oy.mono up Go
end
theorem jZ:NV xs++[.int (x:Int)]=NV (xs++[x]):=by unfold NV;rw[eQ];rfl
theorem j3{xs:List Nat}{i:Nat}{x:V}(h:(NV xs)[i]?=some x):∃y,xs[i]?=some y/\x=.int (y:Int):=by
 unfold NV at h;rw[bQ] at h;cases e:xs[i]? with
 |none=>rw[e] at h;cases h
 |some z=>rw[e] at h;exact⟨z,rfl,(bA h).symm⟩
end oI
namespace L2
open PySem PySem.Spec PyProof.Rows
section
variable {X:Cx}
def Kj(X:Cx)(H:Hp)(d:Nat)(x y:V):Prop:=∀ (ae:List (Addr×Obj)) (s:Shared) (σ:St) (A:Around) (u v:Value),aA X ae σ H s->A.units+d<cLine->aX x u->aX y v->SeqAt.EqAt A s u v true
theorem Dp:Kj X H 0 (.int i) (.int i):=by
 intro ae s σ A u v I hu rx ry;have h:=u_ (A:=A) (s:=s) rx ry rfl rfl;rw[show zG (.int i) (.int i)=true by show decide (i=i)=true;simp] at h;exact h
theorem pQ(I:aA X ae σ H s)(hu:A.units+d<cLine)(rx:aL xs us)(ry:aL ys vs)(he:∀i,i<xs.length->i<ys.length->Kj X H d (xs.getD i .bt) (ys.getD i .bt)):∀j (h1:j<us.toArray.size) (h2:j<vs.toArray.size),SeqAt.EqAt A s us.toArray[j] vs.toArray[j] true:=by
 intro j h1 h2;have j1:j<xs.length:=by rw[rx.length];simpa using h1
 have j2:j<ys.length:=by rw[ry.length];simpa using h2
 have e1:xs[j]?=some (xs.getD j .bt):=by rw[dL,cV j1];rfl
 have e2:ys[j]?=some (ys.getD j .bt):=by rw[dL,cV j2];rfl
 obtain⟨u,NM,ru⟩:=rx.get e1;obtain⟨v,JE,rv⟩:=ry.get e2;have eu:us.toArray[j]=u:=by
  have:us[j]?=some us.toArray[j]:=by simp at h1 |-
  rw[NM] at this;exact(bA this).symm
 have ev:vs.toArray[j]=v:=by
  have:vs[j]?=some vs.toArray[j]:=by simp at h2 |-
  rw[JE] at this;exact(bA this).symm
 rw[eu,ev];exact he j j1 j2 ae s σ A u v I hu ru rv
theorem sO:(List.range n).all (fun _=>true)=true:=jF.mpr fun _ _=>rfl
def ES(X:Cx)(neg:Bool)(d:Nat):R2:=fun x y H Q=>∃p q xs ys,x=.ref p/\y=.ref q/\bg X.K H p xs/\bg X.K H q ys/\xs.length=ys.length/\(∀i,i<xs.length->i<ys.length->Kj X H d (xs.getD i .bt) (ys.getD i .bt))/\Q (.bl (!neg)) H
theorem j4{d:Nat}(hu:X.A.units+(d+1)<cLine):iQ X (compareOp .NotEq) (ES X true d):=by
 intro ae s σ H x y v u Q I rx ry h;obtain⟨p,q,xs,ys,rfl,rfl,hp,hq,hl,he,k⟩:=h;obtain rfl:v=Value.ref p:=rx;obtain rfl:u=Value.ref q:=ry;obtain⟨us,r1,p1,_⟩:=I.list hp;obtain⟨vs,r2,p2,_⟩:=I.list hq;refine SeqAt.RcNeAt.lists (e:=fun _=>true) p1.isList p2.isList (by simp only[ce];rw[<-r1.length,<-r2.length];exact hl) (by lia) (pQ I (by show X.A.units+1+d<cLine;lia) r1 r2 he) _ _ _ _ ⟨.bl _,H,I,rfl,?_⟩;rw[sO];exact k
end
end L2
namespace oI
open PySem L2 iT
section
variable {P:Program} {w:World} {K:PySem.W.Frag} {mg:Str->Option Value} {base:Heap}
theorem Gq:aw ["self"] ["self"] (aj As):=⟨rfl,rfl,rfl,by decide +kernel,rfl,by decide +kernel,by decide +kernel⟩
def vL(C:Addr):Sp:=fun vs H Q _=>∃ (L:Addr->Prop) (p:Addr) (n:Nat) (ts:Ts),vs=[.ref p]/\eA C H L p n ts/\Q (.int n) H
theorem Dq{f C:Addr}{fd:FuncData}(F:dE K "many" "Net.many" As f fd)(T:NT K mg C):aU P w K mg base aZ 1 f fd ["self"] (vL C):=by
 refine F.ok Gq (fun vs H Q E h=>?_) (fun bX A outer s H vs Q E hr h=>?_)
 .obtain⟨L,p,n,ts,rfl,_⟩:=h;rfl
 .obtain⟨L,p,n,ts,rfl,N,k⟩:=h;obtain⟨dx,tl,ol,ds,h1,_⟩:=N.ob;refine⟨_,ai (aG (eZ (pv 0) rfl)),?_⟩;exact⟨_,rfl,p,C,dx,_,_,rfl,h1,T.cl,T.nH,wS _ _ _ _,k⟩
end
end oI
namespace L2
open PySem PySem.Spec PyProof.Rows
theorem vM{X:Cx}:II X .Mult (fun x y H Q=>∃i j,x=.int i/\y=.int j/\zd i j/\Q (.int (i*j)) H):=by
 intro ae s σ H x y v u Q I r1 r2 h;obtain⟨i,j,e1,e2,c,q⟩:=h;subst e1;subst e2;obtain⟨t,rfl⟩:=r1;obtain⟨t',rfl⟩:=r2;exact imul_int ⟨.int _,H,I.tok _,⟨_,rfl⟩,q⟩ c.ok
end L2
namespace oI
open PySem L2 iT
abbrev AD:Stmt:=fg 36
abbrev ra:Stmt:=fg 37
abbrev rb:Stmt:=fg 39
abbrev rd:Stmt:=fg 40
abbrev AE:Stmt:=fg 41
def pR(ns:List Nat):Nat:=ns.foldl (·*·) 1
theorem vN{ns:List Nat}{x:Nat}:pR (ns++[x])=pR ns*x:=by unfold pR;rw[List.foldl_append];rfl
theorem AF{ns:List Nat}:pR ns=pr ns:=by
 have go:∀ (l:List Nat) (a:Nat),l.foldl (·*·) a=a*pr l:=fun l=>by
  induction l with
  |nil=>intro a;exact(gU a).symm
  |cons x l ih=>intro a;rw[qh,ih];show a*x*pr l=a*(x*pr l);rw[je]
 unfold pR;rw[go,qt]
theorem fc.weak{H:Hp}{L L':Addr->Prop}{l:Addr}{n:Nat}{r:Nat->List Nat}(R:fc H L l n r)(h:∀a,L a->L' a):fc H L' l n r:=let ⟨bs,a,b,c⟩:=R;⟨bs,a,fun x hx=>h _ (b x hx),c⟩
theorem eA.weak{C:Addr}{H:Hp}{L L':Addr->Prop}{p:Addr}{n:Nat}{ts:Ts}(N:eA C H L p n ts)(h:∀a,L a->L' a):eA C H L' p n ts:=
 let ⟨dx,tl,ol,ds,a,l1,l2,b,c,d1,zs,d2,d3,d4,d5⟩:=N.ob
 ⟨N.oK,dx,tl,ol,ds,a,h _ l1,h _ l2,b.weak h,c.weak h,h _ d1,zs,d2,d3,fun z hz=>h _ (d4 z hz),d5⟩
def lF(H:Hp)(D:Addr)(ts:Ts)(H2:Hp):Prop:=aB H H2/\∃zs:Zs,H2 D=some (.lst (zr zs))/\PO H2 zs/\zp zs=ts
theorem lF.add{H H2:Hp}{D t:Addr}{ts:Ts}{u:Int×Int}{zs:Zs}(hD:H D=none)(sm:aB H H2)(h1:H2 D=some (.lst (zr zs)))(po:PO H2 zs)(ez:zp zs=ts)(ht:H2 t=none):lF H D (ts++[u]) (upd (upd H2 t (Ic u)) D (.lst (zr zs++[.ref t]))):=by
 have nD:D≠t:=aq h1 ht;refine⟨cj (sm.trans (am ht)) hD,zs++[(t,u)],by rw[ag,pN];rfl,?_,?_⟩
 .refine PO.putL (xs:=zr zs) ?_ (by rw[ap nD];exact h1);exact(po.putN ht).append (PO.one ag)
 .rw[pO,ez];rfl
section
variable {P:Program} {w:World} {K:PySem.W.Frag} {mg:Str->Option Value} {base:Heap}
abbrev AG(C Pt:Addr)(H:Hp)(n:Nat)(ts:Ts)(Q:VK):Prop:=∀ (p:Addr) (H':Hp),H p=none->eA C H' (fun a=>H a=none) p n ts->jA Pt H'->pP Pt H H'->Q (.ref p) H'
theorem iw:aw ["many","pairs","ties","pair","one","other"] ["many","pairs"] (aj ra):=⟨rfl,rfl,rfl,by decide +kernel,rfl,by decide +kernel,by decide +kernel⟩
def nU(C Pt:Addr):Sp:=fun vs H Q _=>∃ (n:Nat) (l:Addr) (zs:Zs),vs=[.int n,.ref l]/\H l=some (.lst (zr zs))/\PO H zs/\iU n (jz (zp zs))/\jA Pt H/\AG C Pt H n (jz (zp zs)) Q
theorem yd{f C Pt fI:Addr}{fd RH:FuncData}(F:dE K "pairs_net" "pairs_net" ra f fd)(B:Bl mg)(T:NT K mg C)(M:Mk K C fI)(bI:dN K RH ["self","many","ties"] [])(GI:aU P w K mg base aZ 7 fI RH ["self","many","ties"] (vK C Pt))(R:ck P w K mg base aZ 1 "is_row" ["thing","length"] (sJ K)):
  aU P w K mg base aZ 9 f fd ["many","pairs"] (nU C Pt):=by
 refine F.ok iw (fun vs H Q E h=>?_) (fun bX A outer s H vs Q E hr h=>?_)
 .obtain⟨n,l,zs,rfl,_⟩:=h;rfl
 .obtain⟨n,l,zs,rfl,hl,po,fi,tb,k⟩:=h;have h1:bh 1 _:=hr.mono (by decide);refine⟨_,ah (bq (cz (cr (az eK (by rfl) B.qU cW (aa (pv 1) (aa (fX (v:=.ty "list") rfl B.lst p8 rfl) af))))) cf aN)
   (ah (aM (i:=2) iw.nd rfl (Or.inl rfl) (bZ af))
   (ah (cg dh rfl (cP (pv 1)) (aH (i:=3) iw.nd rfl (Or.inl rfl))
    (ah (bq (cz (cr (av R h1 aF (aa (pv 3) (aa au af))))) cf aN)
    (ah (m9 (pv 3) (jn (n:=2) rfl (bT (aH (i:=4) iw.nd rfl (Or.inl rfl)) (bT (aH (i:=5) iw.nd rfl (Or.inl rfl)) fZ))))
    (ah (cH (nq mj mi mh cU (pv 2) (aa (hV (aa (pv 4) (aa (pv 5) af))) af)))
    (ai (cH (nq mj mi mh cU (pv 2) (aa (hV (aa (pv 5) (aa (pv 4) af))) af))))))))
   (ai (aG (v9 M GI hr rfl T.Of bI .nil aF (aa (pv 0) (aa (pv 2) af))))))),?_⟩
  have dt:2*zs.length<=256:=by have:=fi.len;rw[qQ,cw] at this;exact this
  refine⟨_,rfl,_,_,_,.type "list",true,rfl,⟨rfl,sK⟩,.of (.lst hl),_,rfl,du ?_⟩;refine⟨by show 0<=sizeLine;decide,fun D hD=>?_⟩;refine⟨_,rfl,l,rfl,⟨_,bg.of (am hD _ _ hl)⟩,g_ (K:=K) (xs:=zr zs) (fun i σ H2=>(∃x3 x4 x5,σ=[some (.int n),some (.ref l),some (.ref D),x3,x4,x5])/\lF H D (jz ((zp zs).take i)) H2) ⟨⟨_,_,_,rfl⟩,am hD,[],ag,PO.nil,rfl⟩ (fun i σ H2 _ z=>bg.of (z.2.1 _ _ hl)) ?_ ?_⟩
  .rintro i x σ H2 hx ⟨⟨x3,x4,x5,rfl⟩,ya,ys,hy,OE,ey⟩;obtain⟨z,hz,rfl⟩:=qY hx;have hi:i<zs.length:=(cC.mp hz).1;have ha:=ya _ _ (po z (cD hz));have Kk:ys.length<=256:=by rw[<-cw,ey,qQ,iY,cw];lia
   refine⟨_,rfl,_,_,_,rfl,.tup ha,_,rfl,du ?_⟩;refine⟨_,rfl,_,_,rfl,cu.of ha,rfl,_,_,rfl,_,_,rfl,rfl,?_⟩;refine⟨_,rfl,.inl ⟨rfl,_,bg.of hy⟩,_,rfl,_,rfl,by show 2<=sizeLine;decide,fun t ht=>?_⟩;refine⟨D,_,_,rfl,rfl,am ht _ _ hy,by rw[iq];exact gm Kk (by decide),?_⟩;obtain⟨EQ,UG,OF,Kg,RI⟩:=lF.add (u:=z.2) hD ya hy OE ey ht;have OG:UG.length=ys.length+1:=by rw[<-cw,RI,<-ey,gK,cw];rfl
   generalize upd (upd H2 t _) D _=H3 at *;refine⟨_,rfl,.inl ⟨rfl,_,bg.of OF⟩,_,rfl,_,rfl,by show 2<=sizeLine;decide,fun t2 Dr=>?_⟩;refine⟨D,_,_,rfl,rfl,am Dr _ _ OF,by rw[iq,OG];exact gm (Nat.succ_le_succ Kk) (by decide),⟨_,_,_,rfl⟩,?_⟩;have P4:=lF.add (u:=wL z.2) hD EQ OF Kg RI Dr;have e2:(zp zs)[i]?=some z.2:=by unfold zp;rw[bQ,hz];rfl
   rw[eO,e2,Option.toList_some,vC];rw[cm] at P4;exact P4
  .rintro σ H2 ⟨⟨x3,x4,x5,rfl⟩,ya,ys,hy,OE,ey⟩;rw[iq,<-cw,gs] at ey;refine⟨_,rfl,_,rfl,fun px dx nx OH OI=>?_⟩;have sN:aB H2 (upd (upd H2 dx (.own px)) px (.ins C dx [])):=(am (o:=.own px) OH).trans (am (D:=px) (o:=.ins C dx []) (by rw[ap OI.symm];exact nx));have UH:(upd (upd H2 dx (.own px)) px (.ins C dx [])) px=some (.ins C dx []):=ag;have sM:=ya.trans sN;generalize upd (upd H2 dx (.own px)) px (.ins C dx [])=HM at *;have TM:dz HM D n ys:=⟨by rw[ey];exact fi,sN _ _ hy,OE.same sN⟩
   refine⟨px,dx,n,D,ys,rfl,UH,TM,tb.same sM,fun H7 N7 t7 s7=>⟨rfl,?_⟩⟩;have RJ:H px=none:=ya.free nx;rw[ey] at N7;exact k px H7 RJ (N7.weak fun a ha=>sM.free ha) t7 fun b o e h=>s7 _ _ (sM _ _ e) (aq e RJ) h
theorem pS{o:Option Int}{a b:Nat}(h:aI o a b=true):∃n:Nat,a<=n/\n<=b/\o=some (n:Int):=by
 cases o with
 |none=>cases h
 |some i=>
  unfold aI at h;simp at h;exact⟨i.toNat,by lia,by lia,by congr 1;lia⟩
theorem AG.same{C Pt:Addr}{H H1:Hp}{n:Nat}{ts:Ts}{Q:VK}(k:AG C Pt H n ts Q)(s:aB H H1):AG C Pt H1 n ts Q:=fun p H' hp N t st=>k p H' (s.free hp) (N.weak fun a ha=>s.free ha) t fun b o e h=>st _ _ (s _ _ e) h
end
inductive Sd (K:PySem.W.Frag) (H:Hp):V->Option (List (Option Int))->Prop where
 |tup {p:Addr} {xs:List V} {os:List (Option Int)} (h:H p=some (.tup xs)) (hl:xs.length=os.length) (e:∀ (i:Nat) x o,xs[i]?=some x->os[i]?=some o->Wh K H x o):Sd K H (.ref p) (some os)
 |no {x:V} {t:Value} (ty:FO K H x t) (h:PySem.W.kitOne K t (.type "tuple")=some false):Sd K H x none
def gI(os:List (Option Int)):List Nat:=os.map fun o=>(o.getD 0).toNat
def box:Option (List (Option Int))->Option (List Nat)
 |none=>none
 |some os=>if decide (1<=os.length)&&(decide (os.length<=5)&&(os.all (fun o=>aI o 2 8)&&decide (pr (gI os)<=32))) then some (gI os) else none
theorem AH{os:List (Option Int)}{ns:List Nat}(h:box (some os)=some ns):ns=gI os/\1<=ns.length/\ns.length<=5/\(∀x∈ns,2<=x/\x<=8)/\pr ns<=32/\os=ns.map fun (n:Nat)=>some (n:Int):=by
 unfold box at h;dsimp only at h;by_cases c:(decide (1<=os.length)&&(decide (os.length<=5)&&(os.all (fun o=>aI o 2 8)&&decide (pr (gI os)<=32))))=true
 .rw[ak c] at h;simp only[gu,mE,jF] at c;obtain⟨c1,c2,c3,c4⟩:=c;obtain rfl:=bA h;have ex:∀o∈os,∃n:Nat,2<=n/\n<=8/\o=some (n:Int):=fun o ho=>pS (a:=2) (b:=8) (c3 o ho);refine⟨rfl,by unfold gI;rw[bJ];exact c1,by unfold gI;rw[bJ];exact c2,fun x hx=>?_,c4,?_⟩
  .obtain⟨o,ho,rfl⟩:=a8.mp hx;obtain⟨n,n1,n2,rfl⟩:=ex o ho;exact⟨by show 2<=(n:Int).toNat;lia,by show (n:Int).toNat<=8;lia⟩
  .unfold gI;rw[gw];conv=>lhs;rw[<-gW os]
   refine lr fun o ho=>?_;obtain⟨n,n1,n2,rfl⟩:=ex o ho;show some (n:Int)=some (((n:Int).toNat:Nat):Int);exact congrArg some (by lia)
 .rw[al c] at h;cases h
section
variable {P:Program} {w:World} {K:PySem.W.Frag} {mg:Str->Option Value} {base:Heap}
theorem re:aw ["numbers","result","number"] ["numbers"] (aj AE):=⟨rfl,rfl,rfl,by decide +kernel,rfl,by decide +kernel,by decide +kernel⟩
def nV(K:PySem.W.Frag):Sp:=fun vs H Q _=>∃ (a:Addr) (ns:List Nat),vs=[.ref a]/\cu K H a (NV ns)/\(∀x∈ns,x<=1000)/\Q (.int (pr ns)) H
theorem Ds{f:Addr}{fd:FuncData}(F:dE K "product" "product" AE f fd):aU P w K mg base aZ 1 f fd ["numbers"] (nV K):=by
 refine F.ok re (fun vs H Q E h=>?_) (fun bX A outer s H vs Q E hr h=>?_)
 .obtain⟨a,ns,rfl,_⟩:=h;rfl
 .obtain⟨a,ns,rfl,hS,hx,k⟩:=h;refine⟨_,ah (aM (i:=1) re.nd rfl (Or.inl rfl) au)
   (ah (cg dh rfl (kM (pv 0)) (aH (i:=2) re.nd rfl (Or.inl rfl)) (ai (kL (i:=1) re.nd rfl (Or.inl rfl) (pv 2) vM)))
   (ai (aG (pv 1)))),?_⟩
  refine⟨_,rfl,a,rfl,⟨_,hS⟩,iC (K:=K) (xs:=NV ns) (fun i σ H2=>H2=H/\∃x,σ=[some (.ref a),some (.int (pR (ns.take i))),x]) ⟨rfl,_,rfl⟩ (fun i σ H2 _ z=>by rw[z.1];exact hS) ?_ ?_⟩
  .rintro i x σ H2 uL ⟨rfl,y,rfl⟩;obtain⟨v,hv,rfl⟩:=j3 uL;have h1:=hx v (cD hv);refine⟨_,rfl,_,rfl,_,_,rfl,rfl,.inr ⟨by lia,by lia⟩,rfl,some (.int v),?_⟩;have tk:ns.take (i+1)=ns.take i++[v]:=by rw[eO,hv];rfl
   rw[tk,vN];rfl
  .rintro σ H2 ⟨rfl,x,rfl⟩;rw[ba,gs,AF];exact⟨_,rfl,k⟩
end
end oI
namespace iT
def ET(m:Nat)(ns:List Nat)(i:Nat):List (Nat×Nat):=(List.range i).flatMap fun j=>oH m (pr (ns.take j)) (ns.getD j 0)
theorem i8{α:Type}{f:Nat->List α}{n:Nat}:(List.range (n+1)).flatMap f=(List.range n).flatMap f++f n:=by
 rw[kn,List.flatMap_append];simp
theorem gl:∀ {ns:List Nat} {x:Nat},pr (ns++[x])=pr ns*x
 |[],x=>by show x*1=1*x;lia
 |n::ns,x=>by show n*pr (ns++[x])=n*pr ns*x;rw[gl,je]
theorem AJ{m:Nat}:∀ {ns:List Nat} {st:Nat},bx m st ns=(List.range ns.length).flatMap fun j=>oH m (st*pr (ns.take j)) (ns.getD j 0)
 |[],st=>rfl
 |n::ns,st=>by
  show oH m st n++bx m (st*n) ns=_;rw[cI,p9,List.flatMap_cons,AJ (ns:=ns)];congr 1
  .show oH m st n=oH m (st*1) n;rw[gU]
  .rw[List.flatMap_map];congr 1;funext j;show _=oH m (st*(n*pr (ns.take j))) (ns.getD j 0);rw[je]
end iT
namespace oI
open PySem L2 iT
section
variable {P:Program} {w:World} {K:PySem.W.Frag} {mg:Str->Option Value} {base:Heap}
theorem nW{os:List (Option Int)}(h:(decide (1<=os.length)&&(decide (os.length<=5)&&(os.all (fun o=>aI o 2 8)&&decide (pr (gI os)<=32))))=false):box (some os)=none:=by
 unfold box;dsimp only;rw[h];rfl
theorem Gr{os:List (Option Int)}(h:(decide (1<=os.length)&&(decide (os.length<=5)&&(os.all (fun o=>aI o 2 8)&&decide (pr (gI os)<=32))))=true):box (some os)=some (gI os):=by
 unfold box;dsimp only;rw[h];rfl
theorem Sd.nums{H:Hp}{p:Addr}{os:List (Option Int)}{xs:List V}(h:H p=some (.tup xs))(hl:xs.length=os.length)(e:∀ (i:Nat) x o,xs[i]?=some x->os[i]?=some o->Wh K H x o)(ha:os.all (fun o=>aI o 2 8)=true):xs=NV (gI os)/\∀x∈gI os,2<=x/\x<=8:=by
 have ex:∀o∈os,∃n:Nat,2<=n/\n<=8/\o=some (n:Int):=fun o ho=>pS (a:=2) (b:=8) (jF.mp ha o ho);refine⟨ui fun i=>?_,fun x hx=>?_⟩
 .unfold NV gI;rw[bQ,bQ];cases c:xs[i]? with
  |none=>
   have:os[i]?=none:=by
    rw[yK] at c |-;lia
   rw[this];rfl
  |some x=>
   have hi:i<os.length:=by have:=(cC.mp c).1;lia
   have c2:os[i]?=some os[i]:=cV hi;obtain⟨n,n1,n2,e3⟩:=ex os[i] (jE hi);have wh:=e i x _ c c2;rw[c2,e3] at *;obtain rfl:=nQ wh;show some (V.int (n:Int))=some (V.int (((n:Int).toNat:Nat):Int));rw[uk]
 .obtain⟨o,ho,rfl⟩:=a8.mp hx;obtain⟨n,n1,n2,rfl⟩:=ex o ho;exact⟨by show 2<=(n:Int).toNat;lia,by show (n:Int).toNat<=8;lia⟩
theorem sP:aw ["sides","side"] ["sides"] (aj rb):=⟨rfl,rfl,rfl,by decide +kernel,rfl,by decide +kernel,by decide +kernel⟩
def nX(K:PySem.W.Frag)(CS:Addr):Sp:=fun vs H Q E=>∃ (x:V) (o:Option (List (Option Int))),vs=[x]/\Sd K H x o/\(box o=none->E (.ref CS) none H)/\(∀ns,box o=some ns->Q .bt H)
theorem ye{f CS:Addr}{fd:FuncData}(F:dE K "check_sides" "check_sides" rb f fd)(B:Bl mg)(e:Er K mg "NoShape" CS)(gM:∃t,mg "MOST_SIDES"=some (.int 5 t))(gS:∃t,mg "SHORTEST_SIDE"=some (.int 2 t))(gL:∃t,mg "LONGEST_SIDE"=some (.int 8 t))(gH:∃t,mg "MOST_HOUSES"=some (.int 32 t))(W:ck P w K mg base aZ 2 "is_whole_within" ["thing","least","most"] (ip K))(PR:ck P w K mg base aZ 1 "product" ["numbers"] (nV K)):aU P w K mg base (d6 P w) 3 f fd ["sides"] (nX K CS):=by
 obtain⟨tM,gM⟩:=gM;obtain⟨tS,gS⟩:=gS;obtain⟨tL,gL⟩:=gL;obtain⟨tH,gH⟩:=gH;refine F.Ev sP (fun vs H Q E h=>?_) (fun bX A outer s H vs Q E hr h=>?_)
 .obtain⟨x,o,rfl,_⟩:=h;rfl
 .obtain⟨x,o,rfl,sd,k1,k2⟩:=h;have h1:bh 1 _:=hr.mono (by decide);refine⟨_,ah (bq (PW.pt (yV (cz (cr (az eK (by rfl) B.qU cW (aa (pv 0) (aa (fX (v:=.ty "tuple") rfl B.tup oR rfl) af))))) (uK (cz (cr (av W hr aF (aa (az aQ (by rfl) B.len eF (aa (pv 0) af)) (aa au (aa (bv (v:=.int 5) rfl gM ⟨_,rfl⟩) af))))))))) (ai (ie (q:=fun H1=>E (.ref CS) none H1) rfl e.ok rfl e.at_ (aa kG af) (fun _ _ _ _ _ _ _ I m q=>ic I m q))) aN)
   (ah (cg FL rfl (kM (pv 0)) (aH (i:=1) sP.nd rfl (Or.inl rfl)) (ai (bq (cz (cr (av W hr aF (aa (pv 1) (aa (bv (v:=.int 2) rfl gS ⟨_,rfl⟩) (aa (bv (v:=.int 8) rfl gL ⟨_,rfl⟩) af)))))) (ai (ie (q:=fun H1=>E (.ref CS) none H1) rfl e.ok rfl e.at_ (aa kG af) (fun _ _ _ _ _ _ _ I m q=>ic I m q))) aN)))
   (ai (bq (aR zh (av PR h1 aF (aa (pv 0) af)) (bv (v:=.int 32) rfl gH ⟨_,rfl⟩) (a7 _)) (ai (ie (q:=fun H1=>E (.ref CS) none H1) rfl e.ok rfl e.at_ (aa kG af) (fun _ _ _ _ _ _ _ I m q=>ic I m q))) aN))),?_⟩
  cases sd with
  |no ty h=>exact⟨_,rfl,_,_,_,_,false,rfl,⟨rfl,h⟩,ty,_,rfl,gG ⟨by show 1<=sizeLine;decide,k1 rfl⟩⟩
  |@tup p xs os hp hl ew=>
   refine⟨_,rfl,_,_,_,.type "tuple",true,rfl,⟨rfl,wQ⟩,.of (.tup hp),_,rfl,du ?_⟩;refine⟨_,rfl,p,xs,rfl,.inr (cu.of hp),_,_,1,5,rfl,.int _,_,rfl,?_⟩;cases hw:aI (some ((xs.length:Nat):Int)) 1 5 with
   |false=>
    refine gG ⟨by show 1<=sizeLine;decide,k1 (nW ?_)⟩;unfold aI at hw;simp at hw;by_cases c:1<=os.length
    .rw[bj c,cS (show ¬ os.length<=5 by lia)];rfl
    .rw[cS c];rfl
   |true=>
    have xW:1<=os.length/\os.length<=5:=by unfold aI at hw;simp at hw;lia
    refine du ⟨_,rfl,p,rfl,⟨_,cu.of hp⟩,iC (K:=K) (xs:=xs) (fun i σ H2=>H2=H/\(∃v,σ=[some (.ref p),v])/\∀j o,j<i->os[j]?=some o->aI o 2 8=true) ⟨rfl,⟨_,rfl⟩,fun j o hj=>absurd hj (by lia)⟩ (fun i σ H2 _ z=>by rw[z.1];exact cu.of hp) ?_ ?_⟩
    .rintro i v σ H2 hv ⟨rfl,⟨v',rfl⟩,pH⟩;have hi:i<os.length:=by have:=(cC.mp hv).1;lia
     have ho:os[i]?=some os[i]:=cV hi;refine⟨_,rfl,_,_,2,8,rfl,ew i v _ hv ho,_,rfl,?_⟩;cases hc:aI os[i] 2 8 with
     |false=>
      refine gG ⟨by show 1<=sizeLine;decide,k1 (nW ?_)⟩;have:os.all (fun o=>aI o 2 8)=false:=by
       rw[List.all_eq_false];exact⟨os[i],jE hi,by rw[hc];decide⟩
      rw[bj xW.1,bj xW.2,this];rfl
     |true=>
      refine du ⟨rfl,⟨_,rfl⟩,fun j o hj OJ=>?_⟩;by_cases c:j=i
      .subst c;rw[ho] at OJ;obtain rfl:=bA OJ;exact hc
      .exact pH j o (by lia) OJ
    .rintro σ H2 ⟨rfl,⟨v',rfl⟩,pH⟩;have ha:os.all (fun o=>aI o 2 8)=true:=jF.mpr fun o ho=>by
      obtain⟨j,hj,rfl⟩:=tX.mp ho;exact pH j _ (by lia) (cV hj)
     obtain⟨ex,hx⟩:=Sd.nums hp hl ew ha;subst ex;refine⟨_,rfl,p,gI os,rfl,cu.of hp,fun x uL=>by have:=hx x uL;lia,_,_,rfl,rfl,_,rfl,?_⟩;refine nu (fun c=>?_) (fun c=>?_)
     .have c':(32:Int)<((pr (gI os):Nat):Int):=by simpa using c
      refine⟨by show 1<=sizeLine;decide,k1 (nW ?_)⟩;rw[bj xW.1,bj xW.2,ha,cS (by lia)];rfl
     .have c':¬ (32:Int)<((pr (gI os):Nat):Int):=by simpa using c
      exact k2 _ (Gr (by rw[bj xW.1,bj xW.2,ha,bj (by lia)];rfl))
end
theorem sQ{A B:Prop}{b:Bool}(hb:b=true)(h:A):if b=true then A else B:=by rw[ak hb];exact h
theorem fG{A B:Prop}{b:Bool}(hb:b=false)(h:B):if b=true then A else B:=by rw[al (by rw[hb];decide)];exact h
theorem AK{m st n:Nat}:oH (m+1) st n=oH m st n++(if m / st % n+1<n then [(m,m+st)] else []):=by
 unfold oH;rw[kn,jC,eQ,fk];by_cases c:m / st % n+1<n
 .rw[ak (bj c),ak c];rfl
 .rw[al (by simpa using c),al c];rfl
theorem jx:∀ {ns:List Nat} {i:Nat},(∀x∈ns,1<=x)->pr (ns.take i)<=pr ns
 |[],i,_=>by rw[List.take_nil];exact aK _
 |n::ns,0,h=>by
  show 1<=n*pr ns;have:∀ {l:List Nat},(∀x∈l,1<=x)->1<=pr l:=fun {l}=>by
   induction l with
   |nil=>intro _;exact aK _
   |cons x l ih=>intro hl;exact ky (hl x b9) (ih fun y hy=>hl y (bD _ hy))
  exact this (l:=n::ns) h
 |n::ns,i+1,h=>by
  show n*pr (ns.take i)<=n*pr ns;exact ke n (jx fun x hx=>h x (bD _ hx))
section
variable {P:Program} {w:World} {K:PySem.W.Frag} {mg:Str->Option Value} {base:Heap}
theorem fJ:aw ["sides","pairs","step","side","house"] ["sides"] (aj rd):=⟨rfl,rfl,rfl,by decide +kernel,rfl,by decide +kernel,by decide +kernel⟩
def nY:Sp:=fun vs H Q _=>∃ (a:Addr) (ns:List Nat),vs=[.ref a]/\H a=some (.tup (NV ns))/\ns.length<=5/\(∀x∈ns,2<=x/\x<=8)/\pr ns<=32/\∀ (r:Addr) (zs:Zs) (H':Hp),aB H H'->H r=none->H' r=some (.lst (zr zs))->PO H' zs->zp zs=(gj ns).map l8->Q (.ref r) H'
theorem yf{f:Addr}{fd:FuncData}(F:dE K "box_pairs" "box_pairs" rd f fd)(B:Bl mg)(PR:ck P w K mg base aZ 1 "product" ["numbers"] (nV K)):aU P w K mg base aZ 2 f fd ["sides"] nY:=by
 refine F.ok fJ (fun vs H Q E h=>?_) (fun bX A outer s H vs Q E hr h=>?_)
 .obtain⟨a,ns,rfl,_⟩:=h;rfl
 .obtain⟨a,ns,rfl,ha,hl,hn,hm,k⟩:=h;refine⟨_,ah (aM (i:=1) fJ.nd rfl (Or.inl rfl) (bZ af))
   (ah (aM (i:=2) fJ.nd rfl (Or.inl rfl) au)
   (ah (cg dh rfl (kM (pv 0)) (aH (i:=3) fJ.nd rfl (Or.inl rfl))
    (ah (cg dh rfl (bK rfl B.range (aa (av PR hr aF (aa (pv 0) af)) af)) (aH (i:=4) fJ.nd rfl (Or.inl rfl))
     (ai (bq (aR o7 (aV dX (aV hU (aV lV (pv 4) (pv 2)) (pv 3)) au) (pv 3) (a7 _))
      (ai (cH (nq mj mi mh cU (pv 1) (aa (hV (aa (pv 4) (aa (aV dX (pv 4) (pv 2)) af))) af)))) aN)))
    (ai (kL (i:=2) fJ.nd rfl (Or.inl rfl) (pv 3) vM))))
   (ai (aG (pv 1))))),?_⟩
  refine⟨by show 0<=sizeLine;decide,fun D hD=>?_⟩;have s0:=am (o:=.lst []) hD;have RK:∀x∈ns,1<=x:=fun x hx=>by have:=hn x hx;lia
  refine⟨_,rfl,a,rfl,⟨_,cu.of (s0 _ _ ha)⟩,iC (K:=K) (xs:=NV ns) (fun i σ H2=>(∃x3 x4,σ=[some (.ref a),some (.ref D),some (.int ((pr (ns.take i):Nat):Int)),x3,x4])/\lF H D ((ET (pr ns) ns i).map l8) H2) ⟨⟨_,_,rfl⟩,s0,[],ag,PO.nil,rfl⟩ (fun i σ H2 _ z=>cu.of (z.2.1 _ _ ha)) ?_ ?_⟩
  .rintro i x σ H2 hx ⟨⟨x3,x4,rfl⟩,P2⟩;obtain⟨n,hv,rfl⟩:=j3 hx;have hi:i<ns.length:=(cC.mp hv).1;have RL:=hn n (cD hv);have iB:=jx (ns:=ns) (i:=i) RK;have UI:1<=pr (ns.take i):=by
    have:=jx (ns:=ns.take i) (i:=0) fun x hx=>RK x (oX hx);exact this
   have gd:ns.getD i 0=n:=by rw[dL,hv];rfl
   have tk:ns.take (i+1)=ns.take i++[n]:=by rw[eO,hv];rfl
   rw[tk,gl];have eB:ET (pr ns) ns (i+1)=ET (pr ns) ns i++oH (pr ns) (pr (ns.take i)) n:=by unfold ET;rw[i8,gd]
   rw[eB];generalize pr (ns.take i)=st at *;refine⟨_,rfl,a,ns,rfl,cu.of (P2.1 _ _ ha),fun x hx=>by have:=hn x hx;lia,?_⟩;refine⟨((pr ns:Nat):Int),rfl,by lia,by lia,cT (n:=pr ns) (lo:=0) (fun j σ H4=>(∃x4,σ=[some (.ref a),some (.ref D),some (.int (st:Int)),some (.int (n:Int)),x4])/\lF H D ((ET (pr ns) ns i++oH j st n).map l8) H4) ⟨⟨_,rfl⟩,by rw[show oH 0 st n=[] from rfl,qi];exact P2⟩ ?_ ?_⟩
   .rintro j σ H4 hj ⟨⟨UJ,rfl⟩,xx,RM,Mq,RN,OK⟩;have UK:((0:Int)+(j:Int)) / (st:Int) % (n:Int)+1=(((j / st % n+1:Nat)):Int):=by rw[eG];rfl
    refine⟨_,rfl,_,rfl,_,_,rfl,rfl,⟨by lia,by lia⟩,_,rfl,_,_,rfl,rfl,(by show (0:Int)<(n:Int);lia),_,_,rfl,rfl,_,rfl,_,_,rfl,rfl,_,rfl,?_⟩;rw[UK,AK];by_cases c:j / st % n+1<n
    .rw[ak c];refine sQ (bj (by lia)) ?_;rw[eG];refine⟨_,rfl,.inl ⟨rfl,_,bg.of Mq⟩,_,rfl,_,rfl,_,rfl,_,_,rfl,rfl,by show 2<=sizeLine;decide,fun t ht=>?_⟩;have OL:RM.length<=1000:=by
      have e:=congrArg List.length OK;rw[cw,bJ,gK] at e;have z1:∀m' s' n',(oH m' s' n').length<=m':=fun m' s' n'=>by unfold oH;rw[bJ];exact bb (mx _ _) (by simp)
      have z2:∀i',(ET (pr ns) ns i').length<=i'*32:=fun i'=>by
       induction i' with
       |zero=>exact aK _
       |succ i' ih=>unfold ET at ih |-;rw[i8,gK,Nat.succ_mul];have:=z1 (pr ns) (pr (ns.take i')) (ns.getD i' 0);lia
      have:=z2 i;have:=z1 j st n;lia
     refine⟨D,_,_,rfl,rfl,am ht _ _ Mq,by rw[iq];exact gm OL (by decide),⟨_,rfl⟩,?_⟩;have P5:=lF.add (u:=l8 (j,j+st)) hD xx Mq RN OK ht;rw[<-cm,eQ (l₂:=[(j,j+st)])];exact P5
    .rw[al c,qi];refine fG (cS (by lia)) ⟨⟨_,rfl⟩,xx,RM,Mq,RN,OK⟩
   .rintro σ H4 ⟨⟨UJ,rfl⟩,P4⟩;exact⟨_,rfl,_,rfl,_,_,rfl,rfl,.inr ⟨by lia,by lia⟩,⟨_,_,rfl⟩,P4⟩
  .rintro σ H2 ⟨⟨x3,x4,rfl⟩,ya,zs,hz,po,ez⟩;refine⟨_,rfl,k D zs H2 ya hD hz po ?_⟩;rw[ez,ba];unfold gj ET;rw[AJ];simp only[qt]
theorem Gs:aw ["sides"] ["sides"] (aj AD):=⟨rfl,rfl,rfl,by decide +kernel,rfl,by decide +kernel,by decide +kernel⟩
def vO(K:PySem.W.Frag)(C Pt CS:Addr):Sp:=fun vs H Q E=>∃ (x:V) (o:Option (List (Option Int))),vs=[x]/\Sd K H x o/\jA Pt H/\(box o=none->E (.ref CS) none H)/\(∀ns,box o=some ns->AG C Pt H (pr ns) (jz ((gj ns).map l8)) Q)
theorem Dt{f C Pt CS:Addr}{fd:FuncData}(F:dE K "box_net" "box_net" AD f fd)(UL:ck P w K mg base (d6 P w) 3 "check_sides" ["sides"] (nX K CS))(PN:ck P w K mg base aZ 9 "pairs_net" ["many","pairs"] (nU C Pt))(PR:ck P w K mg base aZ 1 "product" ["numbers"] (nV K))(BP:ck P w K mg base aZ 2 "box_pairs" ["sides"] nY):
  aU P w K mg base (d6 P w) 10 f fd ["sides"] (vO K C Pt CS):=by
 refine F.Ev Gs (fun vs H Q E h=>?_) (fun bX A outer s H vs Q E hr h=>?_)
 .obtain⟨x,o,rfl,_⟩:=h;rfl
 .obtain⟨x,o,rfl,sd,tb,k1,k2⟩:=h;have h1:bh 1 _:=hr.mono (by decide);have h2:bh 2 _:=hr.mono (by decide);have h3:bh 3 _:=hr.mono (by decide);refine⟨_,ah (cH (av UL h3 (pk (E':=E) fun _ _ _ z=>z) (aa (pv 0) af)))
   (ai (aG (av PN hr aF (aa (av PR h1 aF (aa (pv 0) af)) (aa (av BP h2 aF (aa (pv 0) af)) af))))),?_⟩
  refine⟨_,rfl,x,o,rfl,sd,k1,fun ns hb=>?_⟩;cases sd with
  |no ty h=>cases hb
  |@tup p xs os hp hl ew=>
   obtain⟨e1,l1,l2,hn,hm,eo⟩:=AH hb;have ha:os.all (fun o=>aI o 2 8)=true:=jF.mpr fun o ho=>by
    rw[eo] at ho;obtain⟨n,HJ,rfl⟩:=a8.mp ho;have:=hn n HJ;unfold aI;simp;lia
   obtain⟨ex,_⟩:=Sd.nums hp hl ew ha;rw[<-e1] at ex;subst ex;refine⟨_,rfl,p,ns,rfl,cu.of hp,fun x hx=>by have:=hn x hx;lia,?_⟩;refine⟨_,rfl,p,ns,rfl,hp,l2,hn,hm,fun r zs H2 s2 BH Gu po ez=>?_⟩;refine⟨pr ns,r,zs,rfl,Gu,po,?_,tb.same s2,?_⟩
   .rw[ez];exact Al (fun x hx=>(hn x hx).1) (by rintro rfl;simp at l1) hm
   .rw[ez];exact(k2 ns hb).same s2
end
end oI
namespace L2
open PySem PySem.Spec PyProof.Rows
section
variable {X:Cx}
theorem j5{prog:Program}{w:World}{A:Around}{E:Value->Shared->Prop}{s:Shared}{t sl:Addr}{items:Array Value}{vl vu:Value}{lo hi:Option Int}{Q:Value->Shared->Prop}(ht:IsTup s.heap t items)(hs:s.heap.IsSliceOf sl vl vu .none)(pl:IsPart vl lo)(pu:IsPart vu hi)(hw:HT.dB items.size 0 lo=0/\HT.dB items.size items.size hi=items.size)(h:Q (.ref t) s):wpAny (model prog w) A (getItem (.ref t) (.ref sl)) Q E s:=by
 obtain⟨os,yx,LZ,IX⟩:=id hs;have Nc:s.TypeIs (.ref sl) "slice":=⟨os,yx,LZ⟩
 unfold getItem;try with_reducible refine gQ ?_
 first|refine ao (wpAny_pure ?_)|skip
 refine ao (wpAny_sequenceKey ht.typeIs (by decide) ?_);refine ao (ml (name:=Str.ofString "__getitem__") ht.typeIs oO
  (lw oO ht.typeIs entry_tuple_getitem ?_ (args_tuple_getitem _ _)))
 show wpAny _ _ (Builtin.Tuple.tupleItemsOf (.ref t) >>= _) _ _ s;refine ao (tupleItemsOf_ ht ?_);refine ao (wpAny_typeOf Nc ?_);rw[ak (by decide)];refine ao (HT.fv hs pl pu ?_);have OM:(((HT.dB items.size 0 lo:Nat):Int)==0&&(1:Int)==1&&(HT.dB items.size items.size hi-HT.dB items.size 0 lo)==items.size)=true:=by
  rw[hw.1,hw.2];simp
 show wpAny _ _ (if (((HT.dB items.size 0 lo:Nat):Int)==0&&(1:Int)==1&&(HT.dB items.size items.size hi-HT.dB items.size 0 lo)==items.size)=true then _ else _) _ _ s;rw[ak OM];refine ao (Q:=_) (m:=Builtin.Tuple.tupleIsExact (.ref t)) ?_;unfold Builtin.Tuple.tupleIsExact;refine ao (wpAny_typeOf ht.typeIs ?_);refine wpAny_pure ?_;rw[ak (by decide)];exact ao (dS (wpAny_pure ⟨_,rfl,wpAny_pure h⟩))
def Kl:V->Option Int->Option Int->Hp->VK->Prop:=fun x lo hi H Q=>∃a xs,x=.ref a/\H a=some (.tup xs)/\∀r H',aB H H'->H' r=some (.tup (qz xs lo hi))->Q (.ref r) H'
theorem AL{xs:List V}{lo hi:Option Int}(hw:HT.dB xs.length 0 lo=0/\HT.dB xs.length xs.length hi=xs.length):qz xs lo hi=xs:=by
 unfold qz;rw[hw.1,hw.2,Nat.sub_zero,uF,gs]
theorem Du:Nd X Kl:=by
 intro ae s σ H x v vl vu lo hi sl Q I rx hs pl pu h;obtain⟨a,xs,rfl,hx,q⟩:=h;by_cases hw:HT.dB xs.length 0 lo=0/\HT.dB xs.length xs.length hi=xs.length
 .cases rx;obtain⟨its,r,ht,hz⟩:=I.tuple (cu.of hx);have dt:its.toArray.size=xs.length:=by rw[ce];exact r.length.symm
  refine⟨"tuple",_,oO.lookup,ht.typeIs,?_⟩;exact j5 ht hs pl pu (by rw[dt];exact hw) ⟨.ref a,H,I,rfl,q a H (aB.refl _) (by rw[AL hw];exact hx)⟩
 .exact FB ae s σ H _ v vl vu lo hi sl Q I rx hs pl pu ⟨a,xs,rfl,cu.of hx,hw,fun p hp=>q p _ (am hp) ag⟩
end
end L2
namespace iT
def bn:List Nat->Nat->List Nat
 |[],_=>[]
 |n::ns,h=>(h % n)::bn ns (h / n)
theorem dH:∀ {ns:List Nat} {h:Nat},(bn ns h).length=ns.length
 |[],_=>rfl
 |n::ns,h=>by show (bn ns (h / n)).length+1=ns.length+1;rw[dH]
theorem nZ:∀ {ns:List Nat} {n h:Nat},bn (ns++[n]) h=bn ns h++[h / pr ns % n]
 |[],n,h=>by show [h % n]=[h / 1 % n];rw[kA]
 |m::ns,n,h=>by
  show (h % m)::bn (ns++[n]) (h / m)=(h % m)::(bn ns (h / m)++[h / (m*pr ns) % n]);rw[nZ,mm]
theorem jy:∀ {ns:List Nat} {h i:Nat},(∀x∈ns,0<x)->i<ns.length->(bn ns h).getD i 0<ns.getD i 0
 |[],_,_,_,hi=>absurd hi (jb _)
 |n::ns,h,0,hn,_=>jf h (hn n b9)
 |n::ns,h,i+1,hn,hi=>jy (ns:=ns) (h:=h / n) (i:=i) (fun x hx=>hn x (bD _ hx)) (mw hi)
def tj:List Nat->List Nat->Nat
 |n::ns,d::ds=>d+n*tj ns ds
 |_,_=>0
theorem sR:∀ {ns ds:List Nat} {n d:Nat},ns.length=ds.length->tj (ns++[n]) (ds++[d])=tj ns ds+pr ns*d
 |[],[],n,d,_=>by show d+n*0=0+1*d;lia
 |m::ns,e::ds,n,d,h=>by
  show e+m*tj (ns++[n]) (ds++[d])=e+m*tj ns ds+m*pr ns*d;rw[sR (mT h),eW,je,mR]
theorem wV:∀ {ns:List Nat} {h:Nat},h<pr ns->tj ns (bn ns h)=h
 |[],h,hh=>by have hh:h<1:=hh;show 0=h;lia
 |n::ns,h,hh=>by
  show h % n+n*tj ns (bn ns (h / n))=h;rw[wV (tW hh),Nat.mod_add_div]
theorem wW:∀ {ns ds:List Nat} {k v:Nat},ns.length=ds.length->k<ds.length->tj ns (ds.set k v)+pr (ns.take k)*ds.getD k 0=tj ns ds+pr (ns.take k)*v
 |[],[],k,v,_,h=>absurd h (jb _)
 |n::ns,d::ds,0,v,_,_=>by show v+n*tj ns ds+1*d=d+n*tj ns ds+1*v;lia
 |n::ns,d::ds,k+1,v,hl,hk=>by
  have ih:=wW (ns:=ns) (ds:=ds) (k:=k) (v:=v) (mT hl) (mw hk);show d+n*tj ns (ds.set k v)+n*pr (ns.take k)*ds.getD k 0=d+n*tj ns ds+n*pr (ns.take k)*v;rw[mR,mR,je,je,<-eW,<-eW,ih]
def lM(ns:List Nat)(a b:Nat):Option Nat:=(List.range ns.length).find? fun i=>decide ((bn ns a).getD i 0≠(bn ns b).getD i 0)
theorem yg{n:Nat}{f:Nat->Bool}:(List.range (n+1)).find? f=if f 0=true then some 0 else ((List.range n).find? fun i=>f (i+1)).map (·+1):=by
 rw[p9,List.find?_cons];split
 .next h=>rw[ak h]
 .next h=>
  rw[al (by rw[h];decide),List.find?_map];rfl
theorem wX{n:Nat}{ns:List Nat}{a b:Nat}:lM (n::ns) a b=if a % n=b % n then (lM ns (a / n) (b / n)).map (·+1) else some 0:=by
 unfold lM;rw[cI,yg];show (if decide (a % n≠b % n)=true then _ else _)=_;by_cases c:a % n=b % n
 .rw[al (by simp[c]),ak c];rfl
 .rw[ak (by simpa using c),al c]
def BI:List Nat->Nat->Nat->Nat->Prop
 |[],_,_,_=>False
 |n::_,0,a,b=>a % n+1<n/\b=a+1
 |n::ns,k+1,a,b=>a % n=b % n/\BI ns k (a / n) (b / n)
theorem yh:∀ {ns:List Nat} {a b:Nat},(∀x∈ns,0<x)->(U ns a b↔∃k,BI ns k a b)
 |[],a,b,_=>⟨fun h=>h.elim,fun ⟨k,h⟩=>h.elim⟩
 |n::ns,a,b,hn=>by
  rw[qS hn,yh fun x hx=>hn x (bD _ hx)];constructor
  .rintro(h|⟨e,k,h⟩)
   .exact⟨0,h⟩
   .exact⟨k+1,e,h⟩
  .rintro⟨k,h⟩;cases k with
   |zero=>exact .inl h
   |succ k=>exact .inr ⟨h.1,k,h.2⟩
theorem EU:∀ {ns:List Nat} {k a b:Nat},BI ns k a b->k<ns.length
 |n::ns,0,a,b,_=>qo _
 |n::ns,k+1,a,b,h=>Nat.succ_lt_succ (EU h.2)
theorem AM{n a b s:Nat}(hn:0<n):(a % n=b % n/\b / n=a / n+s)↔b=a+n*s:=by
 constructor
 .rintro⟨h1,h2⟩;rw[<-gO b n,h2,<-h1,eW];have:=gO a n;lia
 .rintro rfl;exact⟨by rw[yJ],by rw[Nat.add_mul_div_left _ _ hn]⟩
theorem AN:∀ {ns:List Nat} {k a b:Nat},(∀x∈ns,0<x)->k<ns.length->(BI ns k a b↔(bn ns a).getD k 0+1<ns.getD k 0/\b=a+pr (ns.take k))
 |[],k,_,_,_,h=>absurd h (jb _)
 |n::ns,0,a,b,hn,_=>Iff.rfl
 |n::ns,k+1,a,b,hn,hk=>by
  have ih:=AN (ns:=ns) (k:=k) (a:=a / n) (b:=b / n) (fun x hx=>hn x (bD _ hx)) (mw hk);show (a % n=b % n/\BI ns k (a / n) (b / n))↔(bn ns (a / n)).getD k 0+1<ns.getD k 0/\b=a+n*pr (ns.take k);rw[ih,<-AM (hn n b9)];exact⟨fun ⟨x,y,z⟩=>⟨y,x,z⟩,fun ⟨y,x,z⟩=>⟨x,y,z⟩⟩
theorem n5{b n:Nat}(hn:0<n):(b % n+1<n)↔1<=(b+1) % n:=by
 have e:=gO b n;have l:=jf b hn;constructor
 .intro h;rw[(jv h).2];lia
 .intro h;rcases Nat.lt_or_ge (b % n+1) n with c|c
  .exact c
  .have:b+1=n*(b / n+1):=by rw[eW,gU];lia
   rw[this,Nat.mul_mod_right] at h;exact absurd h (by decide)
theorem vP:∀ {ns:List Nat} {k a b:Nat},(∀x∈ns,0<x)->k<ns.length->(BI ns k b a↔1<=(bn ns a).getD k 0/\a=b+pr (ns.take k))
 |[],k,_,_,_,h=>absurd h (jb _)
 |n::ns,0,a,b,hn,_=>by
  show (b % n+1<n/\a=b+1)↔1<=a % n/\a=b+1;constructor
  .rintro⟨h,rfl⟩;exact⟨(n5 (hn n b9)).mp h,rfl⟩
  .rintro⟨h,rfl⟩;exact⟨(n5 (hn n b9)).mpr h,rfl⟩
 |n::ns,k+1,a,b,hn,hk=>by
  have ih:=vP (ns:=ns) (k:=k) (a:=a / n) (b:=b / n) (fun x hx=>hn x (bD _ hx)) (mw hk);show (b % n=a % n/\BI ns k (b / n) (a / n))↔1<=(bn ns (a / n)).getD k 0/\a=b+n*pr (ns.take k);rw[ih,<-AM (hn n b9)];exact⟨fun ⟨x,y,z⟩=>⟨y,x,z⟩,fun ⟨y,x,z⟩=>⟨x,y,z⟩⟩
theorem AO:∀ {ns:List Nat} {k a b:Nat},BI ns k a b->lM ns a b=some k
 |n::ns,0,a,b,⟨h,e⟩=>by
  subst e;rw[wX,al (by rw[(jv h).2];lia)]
 |n::ns,k+1,a,b,⟨e,h⟩=>by rw[wX,ak e,AO h];rfl
theorem Dv{ns:List Nat}{a b:Nat}:lM ns a b=lM ns b a:=by
 unfold lM;congr 1;funext i;exact decide_eq_decide.mpr ⟨cy,cy⟩
theorem l_{ns:List Nat}{a b k:Nat}(h:lM ns a b=some k):k<ns.length/\(bn ns a).getD k 0≠(bn ns b).getD k 0:=
 ⟨dM.mp (List.mem_of_find?_eq_some h),fj (List.find?_some (p:=fun i=>decide ((bn ns a).getD i 0≠(bn ns b).getD i 0)) h)⟩
def BJ(ns:List Nat)(a b k:Nat):Prop:=BI ns k a b\/BI ns k b a
theorem Km{ns:List Nat}{a b k:Nat}(h:BJ ns a b k):lM ns a b=some k:=by
 rcases h with h|h
 .exact AO h
 .rw[Dv];exact AO h
theorem Dw{ns:List Nat}{a b:Nat}(hn:∀x∈ns,0<x)(ha:a<pr ns)(hb:b<pr ns):T (jz ((gj ns).map l8)) a b↔∃k,BJ ns a b k:=by
 have Mr:∀ {a b:Nat},(a,b)∈gj ns↔a<pr ns/\U ns a b:=ll;show ((a:Int),(b:Int))∈_↔_;rw[dG];constructor
 .rintro(h|h)
  .obtain⟨q,hq,e⟩:=a8.mp h;have e1:q.1=a:=eh (congrArg Prod.fst e);have e2:q.2=b:=eh (congrArg Prod.snd e);obtain⟨k,u⟩:=(yh hn).mp (Mr.mp hq).2;exact⟨k,.inl (by rw[<-e1,<-e2];exact u)⟩
  .obtain⟨q,hq,e⟩:=a8.mp h;have e1:q.1=b:=eh (congrArg Prod.fst e);have e2:q.2=a:=eh (congrArg Prod.snd e);obtain⟨k,u⟩:=(yh hn).mp (Mr.mp hq).2;exact⟨k,.inr (by rw[<-e1,<-e2];exact u)⟩
 .rintro⟨k,u|u⟩
  .exact .inl (a8.mpr ⟨(a,b),Mr.mpr ⟨ha,(yh hn).mpr ⟨k,u⟩⟩,rfl⟩)
  .exact .inr (a8.mpr ⟨(b,a),Mr.mpr ⟨hb,(yh hn).mpr ⟨k,u⟩⟩,rfl⟩)
def BK(ns:List Nat)(a b:Nat):Option Nat:=(lM ns a b).map fun k=>if (bn ns a).getD k 0<(bn ns b).getD k 0 then a+pr (ns.take k) else a-pr (ns.take k)
end iT
namespace L2
open PySem PySem.Spec PyProof.Rows
theorem Dx{X:Cx}:II X .FloorDiv (fun x y H Q=>∃i j,x=.int i/\y=.int j/\Ft i j/\Q (.int (i / j)) H):=by
 intro ae s σ H x y v u Q I r1 r2 h;exact ze ae s σ H x y v u Q I r1 r2 h
end L2
namespace oI
open PySem L2 iT
abbrev Dy:Stmt:=dD (fg 43) 0
abbrev Gv:Stmt:=dD (fg 43) 3
abbrev Gw:Stmt:=dD (fg 43) 4
abbrev Gx:Stmt:=dD (fg 43) 6
abbrev Gy:Stmt:=dD (fg 43) 7
abbrev Gz:Stmt:=dD (fg 43) 8
abbrev ON:Stmt:=fg 38
structure Bx(ns:List Nat):Prop where
 l1:1<=ns.length
 l5:ns.length<=5
 sd:∀x∈ns,2<=x/\x<=8
 OO:pr ns<=32
theorem Bx.pos{ns:List Nat}(B:Bx ns):∀x∈ns,0<x:=fun x hx=>by have:=B.sd x hx;lia
theorem Bx.gd{ns:List Nat}(B:Bx ns){i:Nat}(h:i<ns.length):2<=ns.getD i 0/\ns.getD i 0<=8:=by
 rw[dL,cV h];exact B.sd _ (jE _)
abbrev tm(ns:List Nat):Ts:=jz ((gj ns).map l8)
structure Dz(K:PySem.W.Frag)(mg:Str->Option Value)(CB:Addr):Prop where
 cl:xo K CB
 nN:dY K CB "tied_net"
 nS:dY K CB "side_row"
 Of:mg "Box"=some (.ref CB)
def yB(pn sr:Addr):List (Str×V):=bU "side_row" (.ref sr) (bU "tied_net" (.ref pn) [])
theorem UM:¬ (("tied_net":Str)="side_row"):=by decide +kernel
theorem EV{pn sr:Addr}:(yB pn sr).lookup ("tied_net":Str)=some (.ref pn):=by unfold yB;rw[aJ,al UM,aJ,ak rfl]
theorem AQ{pn sr:Addr}:(yB pn sr).lookup ("side_row":Str)=some (.ref sr):=by unfold yB;rw[aJ,ak rfl]
theorem n6{pn sr:Addr}{m:Str}(h1:¬ m="tied_net")(h2:¬ m="side_row"):(yB pn sr).lookup m=none:=by unfold yB;rw[aJ,al h2,aJ,al h1];rfl
structure eM(C CB:Addr)(H:Hp)(L:Addr->Prop)(b:Addr)(ns:List Nat):Prop where
 bx:Bx ns
 ob:∃dx pn sr,H b=some (.ins CB dx (yB pn sr))/\eA C H L pn (pr ns) (tm ns)/\H sr=some (.tup (NV ns))
theorem eM.same{C CB b:Addr}{H H':Hp}{L:Addr->Prop}{ns:List Nat}(h:eM C CB H L b ns)(s:aB H H'):eM C CB H' L b ns:=
 let ⟨dx,pn,sr,a,c,d⟩:=h.ob
 ⟨h.bx,dx,pn,sr,s _ _ a,c.same s,s _ _ d⟩
abbrev rB(K:PySem.W.Frag)(H:Hp)(x:V)(o:Option Int):Prop:=∀H',aB H H'->Wh K H' x o
theorem dI{ns:List Nat}{h i:Nat}(hi:i<ns.length):(NV (bn ns h))[i]?=some (.int (((bn ns h).getD i 0:Nat):Int)):=by
 have:i<(bn ns h).length:=by rw[dH];exact hi
 rw[bQ,cV this,dL,cV this];rfl
section
variable {P:Program} {w:World} {K:PySem.W.Frag} {mg:Str->Option Value} {base:Heap}
theorem Kn:aw ["self","sides"] ["self","sides"] (aj Dy):=⟨rfl,rfl,rfl,by decide +kernel,rfl,by decide +kernel,by decide +kernel⟩
def AR(C CB Pt:Addr):Sp:=fun vs H Q _=>∃ (b dx sr:Addr) (ns:List Nat),vs=[.ref b,.ref sr]/\H b=some (.ins CB dx [])/\H sr=some (.tup (NV ns))/\Bx ns/\jA Pt H/\
 ∀H',eM C CB H' (fun a=>H a=none) b ns->jA Pt H'->i6 b Pt H H'->Q .bt H'
theorem AS{ns:List Nat}(B:Bx ns):box (some (ns.map fun (n:Nat)=>some (n:Int)))=some ns:=by
 have e:gI (ns.map fun (n:Nat)=>some (n:Int))=ns:=by
  unfold gI;rw[gw];conv=>rhs;rw[<-gW ns]
  exact lr fun n _=>rfl
 unfold box;dsimp only;rw[e,ak];rw[bJ,bj B.l1,bj B.l5,bj B.OO,Bool.and_true,Bool.true_and,Bool.true_and,jF];intro o ho;obtain⟨n,hn,rfl⟩:=a8.mp ho;have:=B.sd n hn;unfold aI;simp;lia
theorem Ko{H:Hp}{a:Addr}{ns:List Nat}(h:H a=some (.tup (NV ns))):Sd K H (.ref a) (some (ns.map fun (n:Nat)=>some (n:Int))):=by
 refine .tup h (by rw[bJ,bJ]) fun i x o hx ho=>?_;obtain⟨n,hn,rfl⟩:=j3 hx;rw[bQ,hn] at ho;cases ho;exact .int _
theorem GA{f C CB CS Pt:Addr}{fd:FuncData}(F:dE K "__init__" "Box.__init__" Dy f fd)(B:Bl mg)(TB:Dz K mg CB)(BN:ck P w K mg base (d6 P w) 10 "box_net" ["sides"] (vO K C Pt CS)):aU P w K mg base aZ 11 f fd ["self","sides"] (AR C CB Pt):=by
 refine F.ok Kn (fun vs H Q E h=>?_) (fun bX A outer s H vs Q E hr h=>?_)
 .obtain⟨b,dx,sr,ns,rfl,_⟩:=h;rfl
 .obtain⟨b,dx,sr,ns,rfl,hb,rf,BX,tb,q⟩:=h;refine⟨_,ah (kR (pv 0) (av BN hr nA (aa (pv 1) af)) rfl)
   (ai (kR (pv 0) (dq dC (by rfl) B.tup oR (aa (pv 1) af)) rfl)),?_⟩
  refine⟨_,rfl,_,_,rfl,Ko rf,tb,(fun z=>by rw[AS BX] at z;cases z),fun VR e pn H1 RO N1 t1 s1=>?_⟩;rw[AS BX] at e;cases e;have nb:b≠Pt:=tb.not hb (by intro ps z;cases z);have RP:sr≠b:=by rintro rfl;rw[hb] at rf;cases rf
  have Mm:=s1 _ _ hb nb;refine⟨_,rfl,b,CB,dx,_,rfl,Mm,TB.cl,TB.nN,by show 0<1000;decide,?_⟩;have Kp:=s1 _ _ rf (tb.not rf (by intro ps z;cases z));refine⟨_,rfl,sr,_,rfl,.inr ⟨cu.of (by rw[ap RP];exact Kp),?_⟩⟩;refine⟨_,rfl,b,CB,dx,_,rfl,ag,TB.cl,TB.nS,by show 1<1000;decide,?_⟩;have kp:∀c o,c≠b->H1 c=some o->(upd (upd H1 b (.ins CB dx (bU "tied_net" (.ref pn) []))) b (.ins CB dx (bU "side_row" (.ref sr) (bU "tied_net" (.ref pn) [])))) c=some o:=fun c o n e=>by rw[ap n,ap n];exact e
  refine q _ ⟨BX,dx,pn,sr,ag,N1.keep (fun c o l e=>kp c o (by rintro rfl;rw[hb] at l;cases l) e) (fun o e=>kp pn o (by rintro rfl;rw[hb] at RO;cases RO) e),kp _ _ RP Kp⟩ ?_ (fun c o e n1 n2=>kp c o n1 (s1 _ _ e n2));rcases t1 with z|⟨c,z,y⟩
  .exact .inl (kp _ _ nb.symm z)
  .exact .inr ⟨c,kp _ _ nb.symm z,kp _ _ (by rintro rfl;rw[Mm] at y;cases y) y⟩
end
theorem j6{pn sr:Addr}:(yB pn sr).lookup ("place":Str)=none:=n6 (by decide +kernel) (by decide +kernel)
theorem AU{pn sr:Addr}:(yB pn sr).lookup ("house":Str)=none:=n6 (by decide +kernel) (by decide +kernel)
theorem n9{pn sr:Addr}:(yB pn sr).lookup ("phase":Str)=none:=n6 (by decide +kernel) (by decide +kernel)
theorem GC{ns:List Nat}(h:∀x∈ns,0<x):0<pr ns:=by
 induction ns with
 |nil=>exact Nat.one_pos
 |cons n ns ih=>exact ky (h n b9) (ih fun x hx=>h x (bD _ hx))
theorem DA{K:PySem.W.Frag}{a b:Addr}{xs ys:List V}{g:TG}{tb:TS}{D:rG}{σ:St}{H:Hp}(HZ:xs.length=ys.length)(Pv:Nat->St->Hp->Prop)(h0:Pv 0 σ H)(hl:∀i σ H,i<=xs.length->Pv i σ H->cu K H a xs/\cu K H b ys)(hs:∀i x y p σ H,xs[i]?=some x->ys[i]?=some y->Pv i σ H->H p=none->g (.ref p) σ (upd H p (.tup [x,y])) fun σ2 H2=>tb { D with nx:=Pv (i+1),ct:=Pv (i+1),bk:=D.nx } σ2 H2)(hd:∀σ H,Pv xs.length σ H->D.nx σ H):
  ∃W:Nat->Nat->St->Hp->Prop,(∃m,W 0 m σ H)/\∀i m σ H,W i m σ H->
   ((JZ K a b).stop i H/\D.nx σ H)\/((JZ K a b).go i H/\∃N:St->Hp->Prop,(∀σ' H',N σ' H'->∃m',m'<m/\W (i+1) m' σ' H')/\∀x H',(JZ K a b).El i H x H'->g x σ H' fun σ2 H2=>tb { D with nx:=N,ct:=N,bk:=D.nx } σ2 H2):=by
 refine⟨fun i m σ H=>m=xs.length-i/\i<=xs.length/\Pv i σ H,⟨xs.length,by simp,cK _,h0⟩,?_⟩;rintro i m σ H ⟨rfl,hi,p⟩;obtain⟨q1,q2⟩:=hl i σ H hi p;by_cases eE:i<xs.length
 .have F5:i<ys.length:=by lia
  refine .inr ⟨⟨xs,ys,xs[i],ys[i],q1,q2,by simp[eE],by simp[F5]⟩,Pv (i+1),fun σ' H' p'=>⟨xs.length-(i+1),by lia,rfl,eE,p'⟩,?_⟩;rintro v H' ⟨pp,x,y,rfl,hn,rfl,JE,UN⟩;exact hs i x y pp σ _ (JE xs q1) (UN ys q2) p hn
 .have e:i=xs.length:=by lia
  subst e;exact .inl ⟨⟨xs,q1,aK _⟩,hd σ H p⟩
section
variable {P:Program} {w:World} {K:PySem.W.Frag} {mg:Str->Option Value} {base:Heap}
theorem wY:aw ["self","house","numbers","side"] ["self","house"] (aj Gv):=⟨rfl,rfl,rfl,by decide +kernel,rfl,by decide +kernel,by decide +kernel⟩
def wZ(K:PySem.W.Frag)(C CB CE:Addr):Sp:=fun vs H Q E=>∃ (L:Addr->Prop) (b:Addr) (ns:List Nat) (x:V) (o:Option Int),vs=[.ref b,x]/\eM C CB H L b ns/\Wh K H x o/\(aI o 0 ((pr ns:Int)-1)=false->E (.ref CE) none H)/\∀h:Nat,h<pr ns->o=some (h:Int)->∀ (t:Addr) (H':Hp),aB H H'->H' t=some (.tup (NV (bn ns h)))->Q (.ref t) H'
theorem GD{f C CB CE:Addr}{fd:FuncData}(F:dE K "place" "Box.place" Gv f fd)(B:Bl mg)(T:NT K mg C)(TB:Dz K mg CB)(M:ff P w K mg base (d6 P w) 4 C "check_house" ["self","thing"] (l9 K C CE)):aU P w K mg base (d6 P w) 5 f fd ["self","house"] (wZ K C CB CE):=by
 obtain⟨fM,Mj,mM,bM,GM⟩:=M.ex;refine F.Ev wY (fun vs H Q E h=>?_) (fun bX A outer s H vs Q E hr h=>?_)
 .obtain⟨L,b,ns,x,o,rfl,_⟩:=h;rfl
 .obtain⟨L,b,ns,x,o,rfl,⟨BX,dx,pn,sr,hb,N,rf⟩,wh,k1,k2⟩:=h;obtain⟨UO,tl,ol,ds,h1,_⟩:=N.ob;have l5:=BX.l5;refine⟨_,ah (cH (cX (eZ (pv 0) rfl) T.cl mM GM hr bM .nil (pk (E':=E) fun _ _ _ z=>z) (aa (pv 1) af)))
   (ah (aM (i:=2) wY.nd rfl (Or.inl rfl) (bZ af))
   (ah (cg FL rfl (kM (eZ (pv 0) rfl)) (aH (i:=3) wY.nd rfl (Or.inl rfl))
    (ah (cH (nq mj mi mh cU (pv 2) (aa (aV hU (pv 1) (pv 3)) af)))
    (ai (kL (i:=1) wY.nd rfl (Or.inl rfl) (pv 3) Dx))))
   (ai (aG (dq dC (by rfl) B.tup oR (aa (pv 2) af)))))),?_⟩
  refine⟨_,rfl,b,CB,dx,_,_,rfl,hb,TB.cl,TB.nN,EV,pn,UO,_,rfl,h1,J5 _ _ _ _,_,rfl,L,pn,pr ns,_,x,o,rfl,N,wh,k1,fun hw=>?_⟩;obtain⟨h,hh,rfl⟩:=dw hw;obtain rfl:=nQ wh;refine⟨by show 0<=sizeLine;decide,fun D hD=>?_⟩;have s0:=am (o:=.lst []) hD;refine⟨_,rfl,b,CB,dx,_,_,rfl,s0 _ _ hb,TB.cl,TB.nS,AQ,sr,rfl,⟨_,cu.of (s0 _ _ rf)⟩,iC (K:=K) (xs:=NV ns) (fun i σ H2=>(∃x,σ=[some (.ref b),some (.int ((h / pr (ns.take i):Nat):Int)),some (.ref D),x])/\aB H H2/\H2 D=some (.lst (NV (bn (ns.take i) h)))) ⟨⟨_,by rw[List.take_zero];show _=[_,some (V.int ((h / 1:Nat):Int)),_,_];rw[kA];rfl⟩,s0,ag⟩ (fun i σ H2 _ z=>cu.of (z.2.1 _ _ rf)) ?_ ?_⟩
  .rintro i x σ H2 hx ⟨⟨x',rfl⟩,sm,oq⟩;obtain⟨n,hv,rfl⟩:=j3 hx;have hi:i<ns.length:=(cC.mp hv).1;have RL:=BX.sd n (cD hv);have tk:ns.take (i+1)=ns.take i++[n]:=by rw[eO,hv];rfl
   rw[tk,nZ,gl];have dl:(bn (ns.take i) h).length<=5:=by rw[dH,iY];lia
   refine⟨_,rfl,.inl ⟨rfl,_,bg.of oq⟩,_,rfl,_,rfl,_,_,rfl,rfl,(by show (0:Int)<(n:Int);lia),D,_,_,rfl,rfl,oq,by rw[ba];exact gm dl (by decide),?_⟩;refine⟨_,rfl,_,rfl,_,_,rfl,rfl,⟨by lia,by lia⟩,⟨some (.int n),?_⟩,cj sm hD,?_⟩
   .rw[<-mm];rfl
   .rw[ag,<-jZ];rfl
  .rintro σ H2 ⟨⟨x',rfl⟩,sm,oq⟩;rw[ba,gs] at oq;exact⟨_,rfl,D,_,rfl,.inl ⟨bg.of oq,fun t ht=>k2 h hh rfl t _ (sm.trans (am ht)) ag⟩⟩
theorem n_:aw ["self","place","total","step","number","side"] ["self","place"] (aj Gw):=⟨rfl,rfl,rfl,by decide +kernel,rfl,by decide +kernel,by decide +kernel⟩
def AV(C CB:Addr):Sp:=fun vs H Q _=>∃ (L:Addr->Prop) (b a:Addr) (ns es:List Nat),vs=[.ref b,.ref a]/\eM C CB H L b ns/\H a=some (.tup (NV es))/\es.length=ns.length/\(∀i,i<ns.length->es.getD i 0<ns.getD i 0)/\∀H',aB H H'->Q (.int (tj ns es:Nat)) H'
theorem GE{f C CB:Addr}{fd:FuncData}(F:dE K "house" "Box.house" Gw f fd)(B:Bl mg)(hz:mg "zip"=none)(TB:Dz K mg CB)(R:ck P w K mg base aZ 1 "is_row" ["thing","length"] (sJ K))(HO:ck P w K mg base aZ 3 "is_house" ["many","thing"] (iI K)):aU P w K mg base aZ 4 f fd ["self","place"] (AV C CB):=by
 refine F.ok n_ (fun vs H Q E h=>?_) (fun bX A outer s H vs Q E hr h=>?_)
 .obtain⟨L,b,a,ns,es,rfl,_⟩:=h;rfl
 .obtain⟨L,b,a,ns,es,rfl,⟨BX,dx,pn,sr,hb,N,rf⟩,ha,el,lt,q⟩:=h;have h1:bh 1 _:=hr.mono (by decide);have l5:=BX.l5;refine⟨_,ah (bq (cz (cr (av R h1 aF (aa (pv 1) (aa (az aQ (by rfl) B.len eF (aa (eZ (pv 0) rfl) af)) af))))) cf aN)
   (ah (aM (i:=2) n_.nd rfl (Or.inl rfl) au)
   (ah (aM (i:=3) n_.nd rfl (Or.inl rfl) au)
   (ah (cg dh rfl (C0 rfl hz (aa (pv 1) (aa (eZ (pv 0) rfl) af))) (jn (n:=2) rfl (bT (aH (i:=4) n_.nd rfl (Or.inl rfl)) (bT (aH (i:=5) n_.nd rfl (Or.inl rfl)) fZ)))
    (ah (bq (cz (cr (av HO hr aF (aa (pv 5) (aa (pv 4) af))))) cf aN)
    (ah (kL (i:=2) n_.nd rfl (Or.inl rfl) (aV kO (pv 3) (pv 4)) uM)
    (ai (kL (i:=3) n_.nd rfl (Or.inl rfl) (pv 5) vM)))))
   (ai (aG (pv 2)))))),?_⟩
  refine⟨_,rfl,_,rfl,b,CB,dx,_,_,rfl,hb,TB.cl,TB.nS,AQ,sr,_,rfl,.inr (cu.of rf),_,_,_,rfl,.tup ha,_,rfl,fG (by show (!decide (((NV es).length:Int)=((NV ns).length:Int)))=false;rw[ba,ba,el,bj rfl];rfl) ?_⟩;refine⟨_,rfl,_,rfl,b,CB,dx,_,_,rfl,hb,TB.cl,TB.nS,AQ,a,sr,_,_,rfl,cu.of ha,cu.of rf,by rw[ba,ba];lia,?_⟩;refine DA (K:=K) (xs:=NV es) (ys:=NV ns) (by rw[ba,ba];exact el) (fun i σ H2=>(∃x4 x5,σ=[some (.ref b),some (.ref a),some (.int ((tj (ns.take i) (es.take i):Nat):Int)),some (.int ((pr (ns.take i):Nat):Int)),x4,x5])/\aB H H2) ⟨⟨_,_,rfl⟩,aB.refl _⟩ (fun i σ H2 _ z=>⟨cu.of (z.2 _ _ ha),cu.of (z.2 _ _ rf)⟩) ?_ ?_
  .rintro i x y pp σ H2 hx hy ⟨⟨x4,x5,rfl⟩,sm⟩ UP;obtain⟨e,he,rfl⟩:=j3 hx;obtain⟨n,hn,rfl⟩:=j3 hy;have hi:i<ns.length:=(cC.mp hn).1;have l:=lt i hi;rw[dL,he,dL,hn] at l;have l:e<n:=l;have n8:=BX.sd n (cD hn);have tk:ns.take (i+1)=ns.take i++[n]:=by rw[eO,hn];rfl
   have UQ:es.take (i+1)=es.take i++[e]:=by rw[eO,he];rfl
   rw[tk,UQ,sR (by rw[iY,iY,el]),gl];refine⟨pp,_,rfl,cu.of ag,rfl,_,_,rfl,_,_,rfl,rfl,?_⟩;refine⟨_,rfl,_,rfl,_,_,_,rfl,.int _,_,rfl,fG (by rw[bN l];rfl) ?_⟩;refine⟨_,rfl,_,rfl,_,rfl,_,_,rfl,rfl,.inr ⟨by lia,by lia⟩,_,_,rfl,rfl,?_⟩;refine⟨_,rfl,_,rfl,_,_,rfl,rfl,.inr ⟨by lia,by lia⟩,⟨_,_,rfl⟩,sm.trans (am UP)⟩
  .rintro σ H2 ⟨⟨x4,x5,rfl⟩,sm⟩;rw[ba,el,gs,<-el,gs];exact⟨_,rfl,q H2 sm⟩
end
def oV:Option Nat->V
 |none=>.bt
 |some y=>.int (y:Int)
theorem Kq(n:Int)(tl ol ds:Addr):(oJ n tl ol ds).lookup ("out":Str)=none:=qZ n tl ol ds (by decide +kernel) (by decide +kernel) (by decide +kernel) (by decide +kernel)
theorem EW(n:Int)(tl ol ds:Addr):(oJ n tl ol ds).lookup ("many":Str)=none:=qZ n tl ol ds (by decide +kernel) (by decide +kernel) (by decide +kernel) (by decide +kernel)
def yi(ns:List Nat)(o o':Option Int):Bool:=aI o 0 ((pr ns:Int)-1)&&(aI o' 0 ((pr ns:Int)-1)&&decide ((o.getD 0,o'.getD 0)∈tm ns))
theorem AW{n a b:Nat}{ts:Ts}(F:iU n ts)(ha:a<n):we (.int (b:Int)) (NV (d9 n ts a))=decide (((a:Int),(b:Int))∈ts):=by
 rw[jc,uc];refine Iff.trans ?_ (fD F ha);unfold we;rw[uy];constructor
 .rintro⟨v,hv,e⟩;obtain⟨y,hy,rfl⟩:=a8.mp hv;have:(((y:Nat):Int)==(b:Int))=true\/((b:Int)==((y:Nat):Int))=true:=by first|exact .inl e|exact .inr e
  have:y=b:=by rcases this with t|t <;> simp at t <;> lia
  rw[<-this];exact hy
 .intro hy;exact⟨.int (b:Int),a8.mpr ⟨b,hy,rfl⟩,by show ((b:Int)==(b:Int))=true;simp⟩
theorem rh{xs:List Nat}:(NV xs).all h_=true:=jF.mpr fun x hx=>by obtain⟨y,_,rfl⟩:=a8.mp hx;rfl
theorem GG{ns:List Nat}{a b:Int}:(a,b)∈tm ns↔(b,a)∈tm ns:=⟨fun h=>by
 rcases dG.mp h with z|z
 .exact dG.mpr (.inr z)
 .exact dG.mpr (.inl z),fun h=>by
 rcases dG.mp h with z|z
 .exact dG.mpr (.inr z)
 .exact dG.mpr (.inl z)⟩
theorem Kr{ns:List Nat}{a b k:Nat}(hk:k<ns.length)(hj:∀j,j<k->(bn ns a).getD j 0=(bn ns b).getD j 0)(ne:(bn ns a).getD k 0≠(bn ns b).getD k 0):lM ns a b=some k:=
 List.find?_range_eq_some.mpr ⟨bj ne,dM.mpr hk,fun j h=>by rw[cS (fun z=>z (hj j h))];rfl⟩
theorem Ks{ns:List Nat}{a b:Nat}(hj:∀j,j<ns.length->(bn ns a).getD j 0=(bn ns b).getD j 0):lM ns a b=none:=
 List.find?_eq_none.mpr fun j h=>by simpa using hj j (dM.mp h)
section
variable {P:Program} {w:World} {K:PySem.W.Frag} {mg:Str->Option Value} {base:Heap}
theorem OP:aw ["net","one","other"] ["net","one","other"] (aj ON):=⟨rfl,rfl,rfl,by decide +kernel,rfl,by decide +kernel,by decide +kernel⟩
def GJ(K:PySem.W.Frag)(C:Addr):Sp:=fun vs H Q _=>∃ (L:Addr->Prop) (p:Addr) (ns:List Nat) (x y:V) (o o':Option Int),vs=[.ref p,x,y]/\eA C H L p (pr ns) (tm ns)/\rB K H x o/\rB K H y o'/\∀H',aB H H'->Q (.bl (yi ns o o')) H'
theorem Ku{f C CE:Addr}{fd:FuncData}(F:dE K "are_tied" "are_tied" ON f fd)(T:NT K mg C)(HO:ck P w K mg base aZ 3 "is_house" ["many","thing"] (iI K))(MM:ff P w K mg base aZ 1 C "many" ["self"] (vL C))(MO:ff P w K mg base (d6 P w) 5 C "out" ["self","house"] (Au K C CE F_)):aU P w K mg base aZ 6 f fd ["net","one","other"] (GJ K C):=by
 obtain⟨fM,Mj,mM,bM,GM⟩:=MM.ex;obtain⟨fO,VS,mO,bO,GO⟩:=MO.ex;refine F.ok OP (fun vs H Q E h=>?_) (fun bX A outer s H vs Q E hr h=>?_)
 .obtain⟨L,p,ns,x,y,o,o',rfl,_⟩:=h;rfl
 .obtain⟨L,p,ns,x,y,o,o',rfl,N,wx,wy,q⟩:=h;have h1:bh 1 _:=hr.mono (by decide);have h3:bh 3 _:=hr.mono (by decide);refine⟨_,(ah (bq (PW.pt (yV (cz (cr (av HO h3 aF (aa (rH (pv 0) T.cl mM GM h1 bM .nil aF) (aa (pv 1) af))))) (uK (cz (cr (av HO h3 aF (aa (rH (pv 0) T.cl mM GM h1 bM .nil aF) (aa (pv 2) af)))))))) (ai (aG eS)) aN)
   (ai (aG (jm (iD iF (pv 2) (cX (pv 0) T.cl mO GO hr bO .nil nA (aa (pv 1) af)) rfl) (kJ (iD iF (pv 1) (cX (pv 0) T.cl mO GO hr bO .nil nA (aa (pv 2) af)) rfl)))))),?_⟩
  obtain⟨dx,tl,ol,ds,hN,_⟩:=N.ob;have Fi:=N.oK;refine⟨_,rfl,p,dx,_,rfl,hN,EW _ _ _ _,L,p,pr ns,_,rfl,N,_,rfl,x,o,_,rfl,wx _ (aB.refl _),_,rfl,?_⟩;cases hw:aI o 0 ((pr ns:Int)-1) with
  |false=>exact gG (gG (by have:=q H (aB.refl _);unfold yi at this;rw[hw] at this;exact this))
  |true=>
  refine du ⟨_,rfl,p,dx,_,rfl,hN,EW _ _ _ _,L,p,pr ns,_,rfl,N,_,rfl,y,o',_,rfl,wy _ (aB.refl _),_,rfl,?_⟩;cases xW:aI o' 0 ((pr ns:Int)-1) with
  |false=>exact gG (by have:=q H (aB.refl _);unfold yi at this;rw[hw,xW] at this;exact this)
  |true=>
  refine du ?_;obtain⟨a,ha,rfl⟩:=dw hw;obtain⟨b,hb,rfl⟩:=dw xW;obtain rfl:=nQ (wx _ (aB.refl _));obtain rfl:=nQ (wy _ (aB.refl _));refine⟨_,rfl,_,rfl,p,dx,_,rfl,hN,Kq _ _ _ _,_,rfl,L,p,pr ns,_,_,_,rfl,N,.int _,(fun z=>by rw[hw] at z;cases z),fun i hi e r H1 s1 yc OQ=>?_⟩;cases e;refine⟨r,_,rfl,.inl (bg.of OQ),rfl,rh,_,rfl,?_⟩;have e1:(if false=true then !we (V.int (b:Int)) (NV (d9 (pr ns) (tm ns) a)) else we (V.int (b:Int)) (NV (d9 (pr ns) (tm ns) a)))=decide (((a:Int),(b:Int))∈tm ns):=AW Fi ha;rw[e1];have q':∀H',aB H H'->Q (.bl (decide (((a:Int),(b:Int))∈tm ns))) H':=fun H' s'=>by have:=q H' s';unfold yi at this;rw[hw,xW] at this;exact this
  cases ht:decide (((a:Int),(b:Int))∈tm ns) with
  |false=>
   rw[ht] at q';exact du (q' H1 s1)
  |true=>
   rw[ht] at q';refine gG ⟨_,rfl,_,rfl,p,dx,_,rfl,s1 _ _ hN,Kq _ _ _ _,_,rfl,L,p,pr ns,_,_,_,rfl,N.same s1,.int _,(fun z=>by rw[xW] at z;cases z),fun i hi e r2 H2 s2 BH Gu=>?_⟩;cases e;refine⟨r2,_,rfl,.inl (bg.of Gu),rfl,rh,?_⟩;have e2:(if false=true then !we (V.int (a:Int)) (NV (d9 (pr ns) (tm ns) b)) else we (V.int (a:Int)) (NV (d9 (pr ns) (tm ns) b)))=true:=(AW Fi hb).trans (bj (GG.mp (fj ht)));rw[e2];exact q' H2 (s1.trans s2)
theorem w4:aw ["self","house","home","here","there","k"] ["self","house","home"] (aj Gy):=⟨rfl,rfl,rfl,by decide +kernel,rfl,by decide +kernel,by decide +kernel⟩
def pT(K:PySem.W.Frag)(C CB CE:Addr):Sp:=fun vs H Q E=>∃ (L:Addr->Prop) (b:Addr) (ns:List Nat) (x y:V) (o o':Option Int),vs=[.ref b,x,y]/\eM C CB H L b ns/\rB K H x o/\rB K H y o'/\(aI o 0 ((pr ns:Int)-1)=false\/aI o' 0 ((pr ns:Int)-1)=false->∀H',aB H H'->E (.ref CE) none H')/\∀h g:Nat,h<pr ns->g<pr ns->o=some (h:Int)->o'=some (g:Int)->∀H',aB H H'->Q (oV (lM ns h g)) H'
theorem GK{f C CB CE:Addr}{fd:FuncData}(F:dE K "phase" "Box.phase" Gy f fd)(B:Bl mg)(TB:Dz K mg CB)(M:ff P w K mg base (d6 P w) 5 CB "place" ["self","house"] (wZ K C CB CE)):aU P w K mg base (d6 P w) 6 f fd ["self","house","home"] (pT K C CB CE):=by
 obtain⟨fM,Mj,mM,bM,GM⟩:=M.ex;refine F.Ev w4 (fun vs H Q E h=>?_) (fun bX A outer s H vs Q E hr h=>?_)
 .obtain⟨L,b,ns,x,y,o,o',rfl,_⟩:=h;rfl
 .obtain⟨L,b,ns,x,y,o,o',rfl,BA,wx,wy,k1,k2⟩:=h;obtain⟨dx,pn,sr,hb,N,rf⟩:=BA.ob;have l5:=BA.bx.l5;refine⟨_,ah (aM (i:=3) w4.nd rfl (Or.inl rfl) (cX (pv 0) TB.cl mM GM hr bM .nil (pk (E':=E) fun _ _ _ z=>z) (aa (pv 1) af)))
   (ah (aM (i:=4) w4.nd rfl (Or.inl rfl) (cX (pv 0) TB.cl mM GM hr bM .nil (pk (E':=E) fun _ _ _ z=>z) (aa (pv 2) af)))
   (ah (cg FL rfl (bK rfl B.range (aa (az aQ (by rfl) B.len eF (aa (pv 3) af)) af)) (aH (i:=5) w4.nd rfl (Or.inl rfl))
    (ai (bq (aR nh (bu d0 (pv 3) (pv 5) (fun _ _=>rfl)) (bu d0 (pv 4) (pv 5) (fun _ _=>rfl)) (a7 _)) (ai (aG (pv 5))) aN)))
   (ai (aG dW)))),?_⟩
  refine⟨_,rfl,b,dx,_,rfl,hb,j6,_,rfl,L,b,ns,x,o,rfl,BA,wx _ (aB.refl _),(fun z=>k1 (.inl z) _ (aB.refl _)),fun h hh e t1 H1 s1 Ik=>?_⟩;subst e;refine⟨_,rfl,b,dx,_,rfl,s1 _ _ hb,j6,_,rfl,L,b,ns,y,o',rfl,BA.same s1,wy _ s1,(fun z=>k1 (.inr z) _ s1),fun g hg e t2 H2 s2 Dr=>?_⟩;subst e;have Kv:=s2 _ _ Ik;have Do:=s1.trans s2;have dl:(NV (bn ns h)).length=ns.length:=by rw[ba,dH]
  refine⟨_,rfl,t1,_,rfl,.inr (cu.of Kv),_,rfl,by lia,by rw[dl];lia,?_⟩;rw[dl];refine cT (n:=ns.length) (lo:=0) (fun k σ H3=>H3=H2/\(∃z,σ=[some (.ref b),some x,some y,some (.ref t1),some (.ref t2),z])/\∀j,j<k->(bn ns h).getD j 0=(bn ns g).getD j 0) ⟨rfl,⟨_,rfl⟩,fun j hj=>absurd hj (jb _)⟩ ?_ ?_
  .rintro k σ _ hk ⟨rfl,⟨z,rfl⟩,hj⟩;rw[eG];refine⟨_,rfl,_,rfl,t1,_,_,_,rfl,rfl,cu.of Kv,aO (dI hk),_,rfl,_,rfl,t2,_,_,_,rfl,rfl,cu.of Dr,aO (dI hk),rfl,_,rfl,?_⟩;by_cases c:(bn ns h).getD k 0=(bn ns g).getD k 0
   .rw[c,bj rfl];exact du ⟨rfl,⟨_,rfl⟩,fun j OR=>by
     rcases yM.mp OR with z|z
     .exact hj j z
     .rw[z];exact c⟩
   .rw[cS (fun z=>c (by injection z with z;exact eh z))];refine gG ⟨_,rfl,?_⟩;have:=k2 h g hh hg rfl rfl _ Do;rw[Kr hk hj c] at this;exact this
  .rintro σ _ ⟨rfl,⟨z,rfl⟩,hj⟩;have:=k2 h g hh hg rfl rfl _ Do;rw[Ks hj] at this;exact this
end
end oI
namespace L2
open PySem PySem.Spec PyProof.Rows
theorem AX{X:Cx}:IK X (fun o i H Q=>∃p xs v,∃k:Nat,o=.ref p/\i=.int (k:Int)/\H p=some (.lst xs)/\xs[k]?=some v/\Q v H):=by
 intro ae s σ H o i ov iv Q I ro ri h;obtain⟨p,xs,v,k,rfl,rfl,hp,hv,q⟩:=h;cases ro;obtain⟨t,rfl⟩:=ri;obtain⟨its,r,pl,hz⟩:=I.list (bg.of hp);have hk:=(cC.mp hv).1;obtain⟨w,ew,Fo⟩:=r.get hv;have hl:=r.length;have hn:=ni;exact PySem.wpAny_getItem_list pl.isList (by lia) (by lia) (by simpa using ew) ⟨v,H,I,Fo,q⟩
end L2
namespace oI
open PySem L2 iT
theorem DB{ns:List Nat}{o o':Option Int}(h:yi ns o o'=true):∃a b:Nat,a<pr ns/\b<pr ns/\o=some (a:Int)/\o'=some (b:Int)/\((a:Int),(b:Int))∈tm ns:=by
 unfold yi at h;obtain⟨h1,h2⟩:=Bool.and_eq_true_iff.mp h;obtain⟨h4,h3⟩:=Bool.and_eq_true_iff.mp h2;obtain⟨a,ha,rfl⟩:=dw h1;obtain⟨b,hb,rfl⟩:=dw h4;exact⟨a,b,ha,hb,rfl,rfl,fj h3⟩
theorem GN{ns:List Nat}{a b k:Nat}(hp:∀x∈ns,0<x)(ha:a<pr ns)(h:lM ns a b=some k):BK ns a b=some (tj ns ((bn ns a).set k (if (bn ns a).getD k 0<(bn ns b).getD k 0 then (bn ns a).getD k 0+1 else (bn ns a).getD k 0-1))):=by
 obtain⟨hk,ne⟩:=l_ h;unfold BK;rw[h,uA];refine congrArg some ?_;have e:=wW (ns:=ns) (ds:=bn ns a) (k:=k) (v:=if (bn ns a).getD k 0<(bn ns b).getD k 0 then (bn ns a).getD k 0+1 else (bn ns a).getD k 0-1) dH.symm (by rw[dH];exact hk);rw[wV ha] at e;by_cases c:(bn ns a).getD k 0<(bn ns b).getD k 0
 .rw[ak c] at e |-;rw[ak c];rw[eW,gU] at e;lia
 .rw[al c] at e |-;rw[al c];have h1:(bn ns a).getD k 0=((bn ns a).getD k 0-1)+1:=by lia
  rw[h1,eW,gU,Nat.add_sub_cancel] at e;lia
section
variable {P:Program} {w:World} {K:PySem.W.Frag} {mg:Str->Option Value} {base:Heap}
theorem Kw:aw ["self","one","other"] ["self","one","other"] (aj Gx):=⟨rfl,rfl,rfl,by decide +kernel,rfl,by decide +kernel,by decide +kernel⟩
def w6(K:PySem.W.Frag)(C CB CT:Addr):Sp:=fun vs H Q E=>∃ (L:Addr->Prop) (b:Addr) (ns:List Nat) (x y:V) (o o':Option Int),vs=[.ref b,x,y]/\eM C CB H L b ns/\rB K H x o/\rB K H y o'/\(yi ns o o'=false->∀H',aB H H'->E (.ref CT) none H')/\∀h g:Nat,h<pr ns->g<pr ns->o=some (h:Int)->o'=some (g:Int)->yi ns o o'=true->∀H',aB H H'->Q (oV (lM ns h g)) H'
theorem GQ{f C CB CE CT:Addr}{fd:FuncData}(F:dE K "way" "Box.way" Gx f fd)(TB:Dz K mg CB)(e:Er K mg "NoTie" CT)(AT:ck P w K mg base aZ 6 "are_tied" ["net","one","other"] (GJ K C))(M:ff P w K mg base (d6 P w) 6 CB "phase" ["self","house","home"] (pT K C CB CE)):aU P w K mg base (d6 P w) 7 f fd ["self","one","other"] (w6 K C CB CT):=by
 obtain⟨fM,Mj,mM,bM,GM⟩:=M.ex;refine F.Ev Kw (fun vs H Q E h=>?_) (fun bX A outer s H vs Q E hr h=>?_)
 .obtain⟨L,b,ns,x,y,o,o',rfl,_⟩:=h;rfl
 .obtain⟨L,b,ns,x,y,o,o',rfl,BA,wx,wy,k1,k2⟩:=h;obtain⟨dx,pn,sr,hb,N,rf⟩:=BA.ob;refine⟨_,ah (bq (cz (cr (av AT hr aF (aa (eZ (pv 0) rfl) (aa (pv 1) (aa (pv 2) af)))))) (ai (ie (q:=fun H1=>E (.ref CT) none H1) rfl e.ok rfl e.at_ (aa kG af) (fun _ _ _ _ _ _ _ I m q=>ic I m q))) aN)
   (ai (aG (cX (pv 0) TB.cl mM GM hr bM .nil nA (aa (pv 1) (aa (pv 2) af))))),?_⟩
  refine⟨_,rfl,b,CB,dx,_,_,rfl,hb,TB.cl,TB.nN,EV,_,rfl,_,rfl,L,pn,ns,x,y,o,o',rfl,N,wx,wy,fun H1 s1=>⟨_,rfl,?_⟩⟩;cases ha:yi ns o o' with
  |false=>exact gG ⟨by show 1<=sizeLine;decide,k1 ha H1 s1⟩
  |true=>
   refine du ?_;obtain⟨h,g,hh,hg,rfl,rfl,_⟩:=DB ha;exact⟨_,rfl,b,dx,_,rfl,s1 _ _ hb,n9,_,rfl,_,rfl,L,b,ns,x,y,_,_,rfl,BA.same s1,fun H' s'=>wx H' (s1.trans s'),fun H' s'=>wy H' (s1.trans s'),(fun z=>by rcases z with z|z <;> (rw[bN (by assumption)] at z;cases z)),fun h' g' GR GS e1 e2 H' s'=>k2 h' g' GR GS e1 e2 ha H' (s1.trans s')⟩
theorem AY:aw ["self","house","home","k","numbers"] ["self","house","home"] (aj Gz):=⟨rfl,rfl,rfl,by decide +kernel,rfl,by decide +kernel,by decide +kernel⟩
def w9(K:PySem.W.Frag)(C CB CE:Addr):Sp:=fun vs H Q E=>∃ (L:Addr->Prop) (b:Addr) (ns:List Nat) (x y:V) (o o':Option Int),vs=[.ref b,x,y]/\eM C CB H L b ns/\rB K H x o/\rB K H y o'/\(aI o 0 ((pr ns:Int)-1)=false\/aI o' 0 ((pr ns:Int)-1)=false->∀H',aB H H'->E (.ref CE) none H')/\∀h g:Nat,h<pr ns->g<pr ns->o=some (h:Int)->o'=some (g:Int)->∀H',aB H H'->Q (oV (BK ns h g)) H'
theorem GT{f C CB CE:Addr}{fd:FuncData}(F:dE K "wish" "Box.wish" Gz f fd)(B:Bl mg)(TB:Dz K mg CB)(MF:ff P w K mg base (d6 P w) 6 CB "phase" ["self","house","home"] (pT K C CB CE))(MP:ff P w K mg base (d6 P w) 5 CB "place" ["self","house"] (wZ K C CB CE))(MH:ff P w K mg base aZ 4 CB "house" ["self","place"] (AV C CB)):aU P w K mg base (d6 P w) 7 f fd ["self","house","home"] (w9 K C CB CE):=by
 obtain⟨fF,VT,mF,bF,GF⟩:=MF.ex;obtain⟨fP,UR,mP,bP,GP⟩:=MP.ex;obtain⟨fH,VU,mH,bH,GH⟩:=MH.ex;refine F.Ev AY (fun vs H Q E h=>?_) (fun bX A outer s H vs Q E hr h=>?_)
 .obtain⟨L,b,ns,x,y,o,o',rfl,_⟩:=h;rfl
 .obtain⟨L,b,ns,x,y,o,o',rfl,BA,wx,wy,k1,k2⟩:=h;obtain⟨dx,pn,sr,hb,N,rf⟩:=BA.ob;have h5:bh 5 _:=hr.mono (by decide);have h4:bh 4 _:=hr.mono (by decide);refine⟨_,ah (aM (i:=3) AY.nd rfl (Or.inl rfl) (cX (pv 0) TB.cl mF GF hr bF .nil (pk (E':=E) fun _ _ _ z=>z) (aa (pv 1) (aa (pv 2) af))))
   (ah (bq (aR uU (pv 3) dW (a7 _)) (ai (aG dW)) aN)
   (ah (aM (i:=4) AY.nd rfl (Or.inl rfl) (dq jO (by rfl) B.lst p8 (aa (cX (pv 0) TB.cl mP GP h5 bP .nil nA (aa (pv 1) af)) af)))
   (ah (BW (pv 4) (pv 3) AX (jJ (aR o7 (bu bi (pv 4) (pv 3) (fun _ _=>rfl)) (bu d0 (cX (pv 0) TB.cl mP GP h5 bP .nil nA (aa (pv 2) af)) (pv 3) (fun _ _=>rfl)) (a7 _)) au (o6 kP au)) uM hZ)
   (ai (aG (cX (pv 0) TB.cl mH GH h4 bH .nil aF (aa (dq dC (by rfl) B.tup oR (aa (pv 4) af)) af))))))),?_⟩
  refine⟨_,rfl,b,dx,_,rfl,hb,n9,_,rfl,_,rfl,L,b,ns,x,y,o,o',rfl,BA,wx,wy,k1,fun h g hh hg e1 e2 H1 s1=>?_⟩;subst e1;subst e2;have BX:=BA.bx;refine fE (fun σ Hx=>H1=Hx/\σ=[some (.ref b),some x,some y,some (oV (lM ns h g)),none]) ?_ (fun N hN=>hN _ _ ⟨rfl,rfl⟩);rintro σ _ ⟨rfl,rfl⟩;refine fE (fun σ Hx=>H1=Hx/\∃k,lM ns h g=some k/\σ=[some (.ref b),some x,some y,some (.int (k:Int)),none]) ?_ ?_
  rotate_left
  .intro N hN;cases hp:lM ns h g with
   |none=>
    refine⟨_,rfl,rfl,_,rfl,gG ?_⟩;have:=k2 h g hh hg rfl rfl H1 s1;unfold BK at this;rw[hp] at this;exact this
   |some k=>exact⟨_,rfl,rfl,_,rfl,fG rfl (hN _ _ ⟨rfl,k,hp,rfl⟩)⟩
  rintro σ _ ⟨rfl,k,hp,rfl⟩;obtain⟨hk,ne⟩:=l_ hp;refine fE (fun σ H3=>∃D,σ=[some (.ref b),some x,some y,some (.int (k:Int)),some (.ref D)]/\aB H H3/\H D=none/\H3 D=some (.lst (NV (bn ns h)))) ?_ ?_
  rotate_left
  .intro N hN;refine⟨_,rfl,b,dx,_,rfl,s1 _ _ hb,j6,_,rfl,L,b,ns,x,_,rfl,BA.same s1,wx _ s1,(fun z=>by rw[bN hh] at z;cases z),fun h' _ e t1 H2 s2 Ik=>?_⟩;obtain rfl:h=h':=eh (bA e);exact⟨t1,_,rfl,.inr (cu.of Ik),fun D hD=>hN _ _ ⟨D,rfl,(s1.trans s2).trans (am hD),(s1.trans s2).free hD,ag⟩⟩
  rintro σ H3 ⟨D,rfl,s3,nD,hD⟩;refine fE (fun σ H5=>σ=[some (.ref b),some x,some y,some (.int (k:Int)),some (.ref D)]/\aB H H5/\H5 D=some (.lst (NV ((bn ns h).set k (if (bn ns h).getD k 0<(bn ns g).getD k 0 then (bn ns h).getD k 0+1 else (bn ns h).getD k 0-1))))) ?_ ?_
  rotate_left
  .intro N hN;refine⟨_,rfl,_,rfl,D,_,_,k,rfl,rfl,hD,dI hk,_,rfl,_,rfl,D,_,_,_,rfl,rfl,bg.of hD,aO (dI hk),?_⟩;refine⟨_,rfl,b,dx,_,rfl,s3 _ _ hb,j6,_,rfl,L,b,ns,y,_,rfl,BA.same s3,wy _ s3,(fun z=>by rw[bN hg] at z;cases z),fun g' _ e t2 H4 s4 Dr=>?_⟩;obtain rfl:g=g':=eh (bA e);have ix:yy (NV (bn ns h)).length (k:Int)=some k:=jX (by rw[ba,dH];exact hk);have st:∀v:Nat,(NV (bn ns h)).set k (.int (v:Int))=NV ((bn ns h).set k v):=fun v=>(List.map_set).symm;refine⟨_,rfl,t2,_,_,_,rfl,rfl,cu.of Dr,aO (dI hk),_,_,rfl,rfl,_,rfl,nu (fun c=>?_) (fun c=>?_)⟩
   .have c:=fj c;refine⟨_,_,rfl,rfl,D,_,_,k,rfl,rfl,s4 _ _ hD,ix,hN _ _ ⟨rfl,cj (s3.trans s4) nD,?_⟩⟩;rw[ak (by lia),ag];exact congrArg (fun l=>some (HO.lst l)) (st ((bn ns h).getD k 0+1))
   .have c:¬ (((bn ns h).getD k 0:Nat):Int)<(((bn ns g).getD k 0:Nat):Int):=fun z=>c (bj z);refine⟨_,rfl,_,_,rfl,rfl,D,_,_,k,rfl,rfl,s4 _ _ hD,ix,hN _ _ ⟨rfl,cj (s3.trans s4) nD,?_⟩⟩;rw[al (by lia),ag];refine congrArg (fun l=>some (HO.lst l)) ?_;rw[<-st];exact congrArg (fun z=>(NV (bn ns h)).set k (V.int z)) (show (((bn ns h).getD k 0:Nat):Int)+-1=(((bn ns h).getD k 0-1:Nat):Int) by lia)
  rintro σ H5 ⟨rfl,s5,EX⟩;refine⟨_,rfl,b,dx,_,rfl,s5 _ _ hb,AU,_,rfl,D,_,rfl,.inl ⟨bg.of EX,fun t ht=>?_⟩⟩;have lh:=jy (h:=h) BX.pos hk;have lg:=jy (h:=g) BX.pos hk;refine⟨L,b,t,ns,_,rfl,(BA.same s5).same (am ht),ag,by rw[qf,dH],fun i hi=>?_,fun H' s'=>?_⟩
  .rw[dL,List.getElem?_set];by_cases c:k=i
   .subst c;rw[ak rfl,ak (by rw[dH];exact hk),Option.getD_some];split <;> lia
   .rw[al c,<-dL];exact jy BX.pos hi
  .have:=k2 h g hh hg rfl rfl H' ((s5.trans (am ht)).trans s');rw[GN BX.pos hh hp] at this;exact this
end
abbrev GU:Stmt:=fg 45
abbrev OS:Stmt:=fg 46
structure RQ(mg:Str->Option Value):Prop where
 abs:mg "abs"=none
 divmod:mg "divmod"=none
 dict:mg "dict"=none
 zip:mg "zip"=none
 repr:mg "repr"=none
def cp(H:Hp)(p:Addr):Prop:=∃a b:Int,H p=some (.lst [.int a,.int b])/\0<=a/\0<=b/\b<4294967296
theorem cp.same{H H':Hp}{p:Addr}(h:cp H p)(s:aB H H'):cp H' p:=let ⟨a,b,e,r⟩:=h;⟨a,b,s _ _ e,r⟩
theorem cp.full{H:Hp}{p:Addr}(h:cp H p):H p≠none:=by obtain⟨a,b,e,_⟩:=h;rw[e];intro z;cases z
theorem cp.ne{H:Hp}{p q:Addr}(h:cp H p)(e:H q=none):q≠p:=by rintro rfl;exact h.full e
theorem cp.put{H:Hp}{p q:Addr}{o:HO}(h:cp H p)(n:p≠q):cp (upd H q o) p:=let ⟨a,b,e,r⟩:=h;⟨a,b,by rw[ap n];exact e,r⟩
theorem cp.neT{H:Hp}{p q:Addr}{xs:List V}(h:cp H p)(e:H q=some (.tup xs)):q≠p:=by rintro rfl;obtain⟨a,b,z,_⟩:=h;rw[e] at z;cases z
theorem OT{j:Int}(h1:0<j)(h2:j<2 ^ 200):Nat.log2 j.natAbs<200:=(Nat.log2_lt (by lia)).mpr (by lia)
theorem rj{X:Cx}:eT X (.builtin "divmod") (fun xs H Q=>∃i j,xs=[.int i,.int j]/\(0<j/\j<2 ^ 200)/\∀p,H p=none->Q (.ref p) (upd H p (.tup [.int (i / j),.int (i % j)]))):=by
 intro ae s σ H xs us Q I r h;obtain⟨i,j,rfl,⟨h1,h2⟩,q⟩:=h;obtain⟨u,w',rfl,⟨t,rfl⟩,⟨t',rfl⟩⟩:=zn r;refine PyProof.Rows.divmod_int (by lia) ?_ (.inl (PyProof.noPylong_of_log2 (Nat.lt_trans (OT h1 h2) (by decide))));rw[pZ i (by lia),tG i (by lia)];have hn:H s.heap.objs.size=none:=I.be.fresh (aK _);refine⟨.ref s.heap.objs.size,_,?_,rfl,q _ hn⟩;refine I.laid (fun b o e=>bf _ e) (aK _) ⟨by simp only[cI,List.length_nil];rw[gX];decide,[.int (i / j) s.toks,.int (i % j) (s.toks+1)],.cons ⟨_,rfl⟩ (.cons ⟨_,rfl⟩ .nil),?_⟩;exact⟨_,b_ s.heap rfl,rfl,0,rfl,rfl⟩
theorem GV{X:Cx}:iQ X (binaryOp .RShift) (rI (fun i j=>0<=j/\((2 ^ j.toNat:Nat):Int)<=i) fun i j=>.int (i / ((2 ^ j.toNat:Nat):Int))):=HN fun i j _ _ _ _ _ hc q=>by
 have h1:0<=j:=hc.1;have h2:((2 ^ j.toNat:Nat):Int)<=i:=hc.2;have h3:0<2 ^ j.toNat:=Nat.two_pow_pos _;refine PySem.AutoIntOps.rshift_2 (by lia) (fun z=>?_) ?_
 .have n0:i.natAbs≠0:=by lia
  have:¬ i.natAbs.log2<j.toNat:=fun y=>by
   have:=(Nat.log2_lt n0).mp y;lia
  unfold Builtin.Int.intBits at z;rw[al (by simp;lia)] at z;lia
 .rw[pZ i (Int.pow_nonneg (by decide)),show (2:Int) ^ j.toNat=((2 ^ j.toNat:Nat):Int) by rw[Int.natCast_pow];rfl];exact q
section
variable {P:Program} {w:World} {K:PySem.W.Frag} {mg:Str->Option Value} {base:Heap}
theorem AZ:aw ["_law_script","_law_k","_law_cell"] ["_law_script","_law_k"] (aj GU):=⟨rfl,rfl,rfl,by decide +kernel,rfl,by decide +kernel,by decide +kernel⟩
def A0(K:PySem.W.Frag):Sp:=fun vs H Q _=>∃ (a:Addr) (ns:List Int) (k:Nat),vs=[.ref a,.int k]/\bg K H a (ns.map V.int)/\k<64/\∀ (r:Addr) (H':Hp),aB H H'->H r=none->cp H' r->Q (.ref r) H'
theorem GX{f:Addr}{fd:FuncData}(F:dE K "_law_pot" "_law_pot" GU f fd)(B:Bl mg):aU P w K mg base aZ 1 f fd ["_law_script","_law_k"] (A0 K):=by
 refine F.ok AZ (fun vs H Q E h=>?_) (fun bX A outer s H vs Q E hr h=>?_)
 .obtain⟨a,ns,k,rfl,_⟩:=h;rfl
 .obtain⟨a,ns,k,rfl,hS,hk,q⟩:=h;refine⟨_,(ah (aM (i:=2) AZ.nd rfl (Or.inl rfl) au)
   (ah (bq (aR o7 (pv 1) (az aQ (by rfl) B.len eF (aa (pv 0) af)) (a7 _)) (ai (aM (i:=2) AZ.nd rfl (Or.inl rfl) (bu bi (pv 0) (pv 1) (fun _ _=>rfl)))) aN)
   (ai (aG (bZ (aa (az (o9 rfl) (by rfl) B.max PyProof.Rows.boot_max (aa au (aa (aV kN (pv 2) (aV uT au au)) af))) (aa (aV dX (aV hU (aV uT (aV dX (aV hU (pv 2) au) (aV kO au (aV dX (pv 1) au))) au) au) au) af))))))),?_⟩
  refine fE (fun σ Hc=>H=Hc/\σ=[some (.ref a),some (.int k),some (.int 0)]) ?_ (fun N hN=>hN _ _ ⟨rfl,rfl⟩);rintro σ _ ⟨rfl,rfl⟩;refine fE (fun σ Hc=>H=Hc/\∃c:Int,σ=[some (.ref a),some (.int k),some (.int c)]) ?_ ?_
  rotate_left
  .intro N hN;refine⟨_,rfl,_,rfl,a,_,rfl,.inl hS,_,_,rfl,rfl,_,rfl,nu (fun e=>?_) (fun e=>hN _ _ ⟨rfl,0,rfl⟩)⟩;have e:k<ns.length:=by have:=fj e;rw[bJ] at this;lia
   exact⟨_,rfl,_,rfl,a,_,_,_,rfl,rfl,hS,aO (by rw[bQ,cV e];rfl),hN _ _ ⟨rfl,_,rfl⟩⟩
  rintro σ _ ⟨rfl,c,rfl⟩;have m0:0<=c % 2147483629:=kr _ (by decide);have m1:c % 2147483629<2147483629:=kg _ (by decide);refine⟨_,rfl,_,_,rfl,rfl,⟨by decide,by decide,by decide⟩,_,_,rfl,rfl,0,_,rfl,_,rfl,_,_,rfl,rfl,(by show (0:Int)<2147483629;decide),_,rfl,_,_,rfl,rfl,_,_,rfl,rfl,.inl ⟨by decide,by decide⟩,_,_,rfl,rfl,_,_,rfl,rfl,⟨by decide,by decide,by show (c % 2147483629+40503*((k:Int)+1)).natAbs<2 ^ 64;lia⟩,_,_,rfl,rfl,(by show (0:Int)<2147483563;decide),_,_,rfl,rfl,by show 2<=sizeLine;decide,fun r wm=>?_⟩;have v0:0<=(c % 2147483629+40503*((k:Int)+1)) ^ Int.toNat 3 % 2147483563:=kr _ (by decide);have v1:(c % 2147483629+40503*((k:Int)+1)) ^ Int.toNat 3 % 2147483563<2147483563:=kg _ (by decide);refine q r _ (am wm) wm ⟨_,_,ag,by split <;> lia,?_,?_⟩
  .show 0<=(c % 2147483629+40503*((k:Int)+1)) ^ Int.toNat 3 % 2147483563+1;generalize (c % 2147483629+40503*((k:Int)+1)) ^ Int.toNat 3 % 2147483563=z at *;lia
  .show (c % 2147483629+40503*((k:Int)+1)) ^ Int.toNat 3 % 2147483563+1<_;generalize (c % 2147483629+40503*((k:Int)+1)) ^ Int.toNat 3 % 2147483563=z at *;lia
theorem Kx:aw ["_law_pot_here","_law_many_here","_law_digit"] ["_law_pot_here","_law_many_here"] (aj OS):=⟨rfl,rfl,rfl,by decide +kernel,rfl,by decide +kernel,by decide +kernel⟩
def A1:Sp:=fun vs H Q _=>∃ (p:Addr) (m:Nat),vs=[.ref p,.int m]/\0<m/\m<2 ^ 200/\cp H p/\∀ (d:Nat) (H':Hp),d<m->bz p H H'->cp H' p->Q (.int d) H'
theorem Ky{f:Addr}{fd:FuncData}(F:dE K "_law_draw" "_law_draw" OS f fd)(B2:RQ mg):aU P w K mg base aZ 1 f fd ["_law_pot_here","_law_many_here"] A1:=by
 refine F.ok Kx (fun vs H Q E h=>?_) (fun bX A outer s H vs Q E hr h=>?_)
 .obtain⟨p,m,rfl,_⟩:=h;rfl
 .obtain⟨p,m',rfl,VV,VW,⟨a,b,hp,a0,b0,b1⟩,q'⟩:=h;generalize hm:((m':Nat):Int)=m;have m0:0<m:=by lia
  have m1:m<2 ^ 200:=by lia
  have q:∀ (d a b:Int) (H':Hp),0<=d->d<m->0<=a->0<=b->b<4294967296->bz p H H'->H' p=some (.lst [.int a,.int b])->Q (.int d) H':=fun d a b H' h1 h2 h3 h4 h5 h6 h7=>by
   have:=q' d.toNat H' (by lia) h6 ⟨a,b,h7,h3,h4,h5⟩;rw[Int.toNat_of_nonneg h1] at this;exact this
  refine⟨_,(ah (bq (aR zh (bu bi (pv 0) au (fun _ _=>rfl)) au (a7 _)) (ah (m9 (az rj (by rfl) B2.divmod PyProof.Rows.boot_divmod (aa (bu bi (pv 0) au (fun _ _=>rfl)) (aa (pv 1) af))) (jn (n:=2) rfl (bT (qx (pv 0) au hZ) (bT (aH (i:=2) Kx.nd rfl (Or.inl rfl)) fZ))))
    (ai (aG (pv 2)))) aN)
   (ah (m9 (aV hU (aV dX (aV kO (bu bi (pv 0) au (fun _ _=>rfl)) au) au) au) (qx (pv 0) au hZ))
   (ai (aG (aV hU (aV lV (aV hU (aV kO (bu bi (pv 0) au (fun _ _=>rfl)) (bu bi (pv 0) au (fun _ _=>rfl))) au) au) (pv 1)))))),?_⟩
  have g0:zE [V.int a,V.int b] 0=some (.int a):=aO (j:=0) rfl;have g1:zE [V.int a,V.int b] 1=some (.int b):=aO (j:=1) rfl;refine⟨_,rfl,p,_,_,_,rfl,rfl,bg.of hp,g0,_,_,rfl,rfl,_,rfl,?_⟩;refine nu (fun e=>?_) (fun e=>?_)
  .refine⟨_,rfl,p,_,_,_,rfl,rfl,bg.of hp,g0,_,rfl,_,_,rfl,⟨m0,by lia⟩,fun t ht=>?_⟩;have US:p≠t:=aq hp ht;refine⟨t,_,rfl,cu.of ag,rfl,_,_,rfl,?_⟩;refine⟨_,rfl,p,_,0,0,rfl,rfl,by rw[ap US];exact hp,jX (j:=0) (by show 0<2;decide),_,_,rfl,rfl,_,rfl,?_⟩;exact q _ _ _ _ (kr _ (by lia)) (kg _ m0) (Int.ediv_nonneg a0 (by lia)) b0 b1 (fun c o e n=>by rw[ap n,ap (aq e ht)];exact e) ag
  .refine⟨_,rfl,p,_,_,_,rfl,rfl,bg.of hp,g1,_,_,rfl,rfl,.inl ⟨by lia,by lia⟩,_,_,rfl,rfl,_,_,rfl,rfl,(by show (0:Int)<2147483629;decide),?_⟩;refine⟨_,rfl,p,_,1,1,rfl,rfl,hp,jX (j:=1) (by show 1<2;decide),?_⟩;have c0:0<=(b*39373+7919) % 2147483629:=kr _ (by decide);have c1:(b*39373+7919) % 2147483629<2147483629:=kg _ (by decide);refine⟨_,rfl,p,_,_,_,rfl,rfl,bg.of ag,aO (j:=1) rfl,_,rfl,p,_,_,_,rfl,rfl,bg.of ag,aO (j:=1) rfl,_,_,rfl,rfl,.inl ⟨by lia,by lia⟩,_,_,rfl,rfl,(by show (0:Int)<2147483587;decide),_,_,rfl,rfl,⟨by decide,by decide⟩,_,rfl,_,_,rfl,rfl,m0,?_⟩;exact q _ _ _ _ (kr _ (by lia)) (kg _ m0) a0 c0 (by lia) bz.upd ag
end
abbrev OU:Stmt:=fg 47
abbrev OV:Stmt:=fg 48
abbrev OW:Stmt:=fg 49
abbrev OX:Stmt:=fg 50
theorem GZ{xs:List V}{k:Nat}:qz xs none (some (k:Int))=xs.take k:=by
 have h1:HT.dB xs.length 0 none=0:=rfl;have h2:HT.dB xs.length xs.length (some (k:Int))=min k xs.length:=by
  unfold HT.dB;simp;try lia
 unfold qz;rw[h1,h2,uF,Nat.sub_zero,List.take_eq_take_iff];simp;try lia
theorem A2:∀ {ns:List Nat} {h k:Nat},k<ns.length->(bn ns h).getD k 0=h / pr (ns.take k) % ns.getD k 0
 |[],_,_,hk=>absurd hk (jb _)
 |n::ns,h,0,_=>by show h % n=h / 1 % n;rw[kA]
 |n::ns,h,k+1,hk=>by
  have:=A2 (ns:=ns) (h:=h / n) (k:=k) (mw hk);show (bn ns (h / n)).getD k 0=h / (n*pr (ns.take k)) % ns.getD k 0;rw[this,mm]
theorem EY{ns:List Nat}{h k:Nat}(hk:k<ns.length)(h1:1<=(bn ns h).getD k 0):pr (ns.take k)<=h:=by
 rw[A2 hk] at h1;rcases Nat.lt_or_ge h (pr (ns.take k)) with c|c
 .rw[ur c,Nat.zero_mod] at h1;exact absurd h1 (by decide)
 .exact c
def tu(ns:List Nat)(h k:Nat)(up:Bool):Option Nat:=if up then (if (bn ns h).getD k 0+1<ns.getD k 0 then some (h+pr (ns.take k)) else none) else if 1<=(bn ns h).getD k 0 then some (h-pr (ns.take k)) else none
theorem Kz{ns:List Nat}{a b k:Nat}(hp:∀x∈ns,0<x)(h:lM ns a b=some k):BK ns a b=tu ns a k (decide ((bn ns a).getD k 0<(bn ns b).getD k 0)):=by
 obtain⟨hk,ne⟩:=l_ h;have la:=jy (h:=a) hp hk;have lb:=jy (h:=b) hp hk;unfold BK tu;rw[h,uA];by_cases c:(bn ns a).getD k 0<(bn ns b).getD k 0
 .rw[ak c,bj c,ak rfl,ak (by lia)]
 .rw[al c,cS c,al (by decide),ak (by lia)]
section
variable {P:Program} {w:World} {K:PySem.W.Frag} {mg:Str->Option Value} {base:Heap}
theorem vQ:aw ["_law_pot_here","_law_found","_law_left","_law_ways","_law_k","_law_most"] ["_law_pot_here"] (aj OU):=⟨rfl,rfl,rfl,by decide +kernel,rfl,by decide +kernel,by decide +kernel⟩
def G0:Sp:=fun vs H Q _=>∃ (p:Addr),vs=[.ref p]/\cp H p/\∀ (r:Addr) (ns:List Nat) (H':Hp),bz p H H'->cp H' p->H' r=some (.tup (NV ns))->Bx ns->Q (.ref r) H'
theorem KA{f:Addr}{fd:FuncData}(F:dE K "_law_sides" "_law_sides" OU f fd)(B:Bl mg)(DR:ck P w K mg base aZ 1 "_law_draw" ["_law_pot_here","_law_many_here"] A1):aU P w K mg base aZ 2 f fd ["_law_pot_here"] G0:=by
 refine F.ok vQ (fun vs H Q E h=>?_) (fun bX A outer s H vs Q E hr h=>?_)
 .obtain⟨p,rfl,_⟩:=h;rfl
 .obtain⟨p,rfl,hp,q⟩:=h;refine⟨_,(ah (aM (i:=1) vQ.nd rfl (Or.inl rfl) (bZ af))
   (ah (aM (i:=2) vQ.nd rfl (Or.inl rfl) au)
   (ah (aM (i:=3) vQ.nd rfl (Or.inl rfl) (aV dX au (av DR hr aF (aa (pv 0) (aa au af)))))
   (ah (cg dh rfl (bK rfl B.range (aa (pv 3) af)) (aH (i:=4) vQ.nd rfl (Or.inl rfl))
    (ah (aM (i:=5) vQ.nd rfl (Or.inl rfl) (az (o_ rfl) (by rfl) B.min PyProof.Rows.boot_min (aa au (aa (aV GV (pv 2) (aV kN (aV kN (pv 3) au) (pv 4))) af))))
    (ah (cH (nq mj mi mh cU (pv 1) (aa (aV dX au (av DR hr aF (aa (pv 0) (aa (aV kN (pv 5) au) af)))) af)))
    (ai (aM (i:=2) vQ.nd rfl (Or.inl rfl) (aV lV (pv 2) (bu bi (pv 1) (o6 kP au) (fun _ _=>rfl))))))))
   (ai (aG (dq dC (by rfl) B.tup oR (aa (pv 1) af)))))))),?_⟩
  refine⟨by show 0<=sizeLine;decide,fun Fd hF=>?_⟩;have OY:Fd≠p:=hp.ne hF;have s0:=am (o:=.lst []) hF;refine⟨_,rfl,p,5,rfl,by decide,by decide,hp.same s0,fun d H1 hd s1 NE=>⟨_,_,rfl,rfl,?_⟩⟩;obtain⟨W,hW,w1,w5⟩:∃W:Nat,(1+(d:Int))=(W:Int)/\1<=W/\W<=5:=⟨1+d,by lia,by lia,by lia⟩
  change cA 3 (V.int (1+(d:Int))) _ H1 _;rw[hW];refine⟨_,rfl,_,rfl,by lia,by lia,cT (n:=W) (lo:=0) (fun k σ H2=>∃ (rm:Nat) (fs:List Nat) (x4 x5:Option V),σ=[some (.ref p),some (.ref Fd),some (.int rm),some (.int W),x4,x5]/\bz p H H2/\cp H2 p/\H2 Fd=some (.lst (NV fs))/\fs.length=k/\(∀x∈fs,2<=x/\x<=8)/\pr fs*rm<=32/\2 ^ (W-k)<=rm/\rm<=32) ?_ ?_ ?_⟩
  .refine⟨32,[],_,_,rfl,(bz.of s0).trans s1,NE,s1 _ _ ag OY,rfl,(fun x hx=>nomatch hx),by decide,?_,by decide⟩;exact Nat.pow_le_pow_right (by decide) (show W-0<=5 by lia)
  .rintro k σ H2 hk ⟨rm,fs,x4,x5,rfl,s2,p2,Ms,fl,fb,fp,rl,RS⟩;rw[eG];have e2:2 ^ (W-k)=2 ^ (W-1-k)*2:=by rw[<-Nat.pow_succ];congr 1;lia
   have g1:1<=2 ^ (W-1-k):=Nat.one_le_two_pow;have ej:((W:Int)-1-(k:Int)).toNat=W-1-k:=by lia
   refine⟨_,rfl,_,rfl,_,_,rfl,rfl,_,rfl,_,_,rfl,rfl,_,_,rfl,rfl,⟨by show (0:Int)<=(W:Int)-1-(k:Int);lia,by show ((2 ^ ((W:Int)-1-(k:Int)).toNat:Nat):Int)<=(rm:Int);rw[ej];lia⟩,8,_,rfl,?_⟩;change cA 5 (V.int (if (rm:Int) / ((2 ^ ((W:Int)-1-(k:Int)).toNat:Nat):Int)<8 then (rm:Int) / ((2 ^ ((W:Int)-1-(k:Int)).toNat:Nat):Int) else 8)) _ H2 _;rw[ej];generalize hg:2 ^ (W-1-k)=g at *;obtain⟨tp,Nr,t2,t8,tg⟩:∃tp:Nat,(if (rm:Int) / (g:Int)<8 then (rm:Int) / (g:Int) else 8)=(tp:Int)/\2<=tp/\tp<=8/\tp*g<=rm:=by
    have d1:2<=rm / g:=(Nat.le_div_iff_mul_le (by lia)).mpr (by lia);have d2:rm / g*g<=rm:=Nat.div_mul_le_self _ _;have e:(rm:Int) / (g:Int)=((rm / g:Nat):Int):=rfl;rw[e];by_cases c:rm / g<8
    .exact⟨rm / g,by rw[ak (by lia)],d1,by lia,d2⟩
    .refine⟨8,by rw[al (by lia)];rfl,by lia,by lia,bb (Nat.mul_le_mul_right g (by lia:8<=rm / g)) d2⟩
   rw[Nr];refine⟨_,rfl,.inl ⟨rfl,_,bg.of Ms⟩,_,rfl,_,rfl,_,_,rfl,rfl,p,tp-1,by show [V.ref p,V.int ((tp:Int)-1)]=_;rw[show ((tp:Int)-1)=((tp-1:Nat):Int) by lia],by lia,bp (show tp-1<8 by lia) (by decide),p2,fun e H4 he s4 UT=>?_⟩;have UU:=s4 _ _ Ms OY;refine⟨_,_,rfl,rfl,Fd,_,.int ((2+e:Nat):Int),rfl,by show [V.int (2+(e:Int))]=_;rw[show (2+(e:Int))=((2+e:Nat):Int) by lia],UU,by rw[ba,fl];exact bp (show k<6 by lia) (by decide),?_⟩;have RU:(upd H4 Fd (.lst (NV fs++[.int ((2+e:Nat):Int)]))) Fd=some (.lst (NV (fs++[2+e]))):=by rw[ag,jZ]
   have s5:bz p H (upd H4 Fd (.lst (NV fs++[.int ((2+e:Nat):Int)]))):=fun b o eq n=>by rw[ap (aq eq hF)];exact s4 _ _ (s2 _ _ eq n) n
   have UV:cp (upd H4 Fd (.lst (NV fs++[.int ((2+e:Nat):Int)]))) p:=UT.put OY.symm;generalize upd H4 Fd _=H5 at *;have fe:2+e<=tp:=by lia
   have UW:zE (NV (fs++[2+e])) (-1)=some (.int ((2+e:Nat):Int)):=by rw[<-jZ];exact zF _ _
   refine⟨_,rfl,_,rfl,_,rfl,Fd,_,_,_,rfl,rfl,bg.of RU,UW,_,_,rfl,rfl,⟨by lia,by lia⟩,rm / (2+e),fs++[2+e],_,_,rfl,s5,UV,RU,by rw[gK,fl];rfl,?_,?_,?_,?_⟩
   .intro x hx;rcases cJ.mp hx with z|z
    .exact fb x z
    .rw[gn.mp z];lia
   .rw[gl,je];exact bb (ke _ (by rw[Nat.mul_comm];exact Nat.div_mul_le_self _ _)) fp
   .rw[show W-(k+1)=W-1-k by lia,hg];refine(Nat.le_div_iff_mul_le (by lia)).mpr ?_;rw[Nat.mul_comm];exact bb (Nat.mul_le_mul_right g fe) tg
   .exact bb (Nat.div_le_self _ _) RS
  .rintro σ H2 ⟨rm,fs,x4,x5,rfl,s2,p2,Ms,fl,fb,fp,rl,RS⟩;have r1:1<=rm:=bb Nat.one_le_two_pow rl;exact⟨_,rfl,Fd,_,rfl,.inl ⟨bg.of Ms,fun t ht=>q t fs _ (s2.trans (bz.of (am ht))) (p2.same (am ht)) ag ⟨by lia,by lia,fb,bb (tO _ r1) fp⟩⟩⟩
theorem DC:aw ["_law_sides_here","_law_found","_law_side"] ["_law_sides_here"] (aj OV):=⟨rfl,rfl,rfl,by decide +kernel,rfl,by decide +kernel,by decide +kernel⟩
def A3:Sp:=fun vs H Q _=>∃ (a:Addr) (ns:List Nat),vs=[.ref a]/\H a=some (.tup (NV ns))/\(∀x∈ns,x<=8)/\Q (.int (pr ns:Nat)) H
theorem KB{f:Addr}{fd:FuncData}(F:dE K "_law_many" "_law_many" OV f fd):aU P w K mg base aZ 1 f fd ["_law_sides_here"] A3:=by
 refine F.ok DC (fun vs H Q E h=>?_) (fun bX A outer s H vs Q E hr h=>?_)
 .obtain⟨a,ns,rfl,_⟩:=h;rfl
 .obtain⟨a,ns,rfl,ha,hx,q⟩:=h;refine⟨_,(ah (aM (i:=1) DC.nd rfl (Or.inl rfl) au)
   (ah (cg dh rfl (kM (pv 0)) (aH (i:=2) DC.nd rfl (Or.inl rfl))
    (ai (aM (i:=1) DC.nd rfl (Or.inl rfl) (aV kO (pv 1) (pv 2)))))
   (ai (aG (pv 1))))),?_⟩
  refine⟨_,rfl,a,rfl,⟨_,cu.of ha⟩,iC (K:=K) (xs:=NV ns) (fun i σ H2=>H=H2/\∃x,σ=[some (.ref a),some (.int ((pr (ns.take i):Nat):Int)),x]) ⟨rfl,_,rfl⟩ (fun i σ H2 _ z=>by rw[<-z.1];exact cu.of ha) ?_ ?_⟩
  .rintro i x σ _ uL ⟨rfl,y,rfl⟩;obtain⟨v,hv,rfl⟩:=j3 uL;have h1:=hx v (cD hv);refine⟨_,rfl,_,rfl,_,_,rfl,rfl,.inr ⟨by lia,by lia⟩,rfl,some (.int v),?_⟩;rw[show ns.take (i+1)=ns.take i++[v] by rw[eO,hv];rfl,gl];rfl
  .rintro σ _ ⟨rfl,x,rfl⟩;rw[ba,gs];exact⟨_,rfl,q⟩
theorem DD:aw ["_law_sides_here","_law_house","_law_found","_law_side"] ["_law_sides_here","_law_house"] (aj OW):=⟨rfl,rfl,rfl,by decide +kernel,rfl,by decide +kernel,by decide +kernel⟩
def vR:Sp:=fun vs H Q _=>∃ (a:Addr) (ns:List Nat) (h:Nat),vs=[.ref a,.int h]/\H a=some (.tup (NV ns))/\Bx ns/\∀ (r:Addr) (H':Hp),aB H H'->H r=none->H' r=some (.lst (NV (bn ns h)))->Q (.ref r) H'
theorem KC{f:Addr}{fd:FuncData}(F:dE K "_law_place" "_law_place" OW f fd):aU P w K mg base aZ 1 f fd ["_law_sides_here","_law_house"] vR:=by
 refine F.ok DD (fun vs H Q E h=>?_) (fun bX A outer s H vs Q E hr h=>?_)
 .obtain⟨a,ns,h,rfl,_⟩:=h;rfl
 .obtain⟨a,ns,h,rfl,ha,BX,k⟩:=h;have hl:=BX.l5;have hn:=BX.sd;refine⟨_,(ah (aM (i:=2) DD.nd rfl (Or.inl rfl) (bZ af))
   (ah (cg dh rfl (kM (pv 0)) (aH (i:=3) DD.nd rfl (Or.inl rfl))
    (ah (cH (nq mj mi mh cU (pv 2) (aa (aV hU (pv 1) (pv 3)) af)))
    (ai (aM (i:=1) DD.nd rfl (Or.inl rfl) (aV lV (pv 1) (pv 3))))))
   (ai (aG (pv 2))))),?_⟩
  refine⟨by show 0<=sizeLine;decide,fun D hD=>?_⟩;have s0:=am (o:=.lst []) hD;refine⟨_,rfl,a,rfl,⟨_,cu.of (s0 _ _ ha)⟩,iC (K:=K) (xs:=NV ns) (fun i σ H2=>(∃x,σ=[some (.ref a),some (.int ((h / pr (ns.take i):Nat):Int)),some (.ref D),x])/\aB H H2/\H2 D=some (.lst (NV (bn (ns.take i) h)))) ⟨⟨_,by rw[List.take_zero];show _=[_,some (V.int ((h / 1:Nat):Int)),_,_];rw[kA];rfl⟩,s0,ag⟩ (fun i σ H2 _ z=>cu.of (z.2.1 _ _ ha)) ?_ ?_⟩
  .rintro i x σ H2 hx ⟨⟨x',rfl⟩,sm,oq⟩;obtain⟨n,hv,rfl⟩:=j3 hx;have hi:i<ns.length:=(cC.mp hv).1;have RL:=hn n (cD hv);have tk:ns.take (i+1)=ns.take i++[n]:=by rw[eO,hv];rfl
   rw[tk,nZ,gl];have dl:(bn (ns.take i) h).length<=5:=by rw[dH,iY];lia
   refine⟨_,rfl,.inl ⟨rfl,_,bg.of oq⟩,_,rfl,_,rfl,_,_,rfl,rfl,(by show (0:Int)<(n:Int);lia),D,_,_,rfl,rfl,oq,by rw[ba];exact gm dl (by decide),?_⟩;refine⟨_,rfl,_,rfl,_,_,rfl,rfl,⟨by lia,by lia⟩,⟨some (.int n),?_⟩,cj sm hD,?_⟩
   .rw[<-mm];rfl
   .rw[ag,<-jZ];rfl
  .rintro σ H2 ⟨⟨x',rfl⟩,sm,oq⟩;rw[ba,gs] at oq;exact⟨_,rfl,k D H2 sm hD oq⟩
theorem KE:aw ["_law_sides_here","_law_house","_law_k","_law_by","_law_place_here"] ["_law_sides_here","_law_house","_law_k","_law_by"] (aj OX):=⟨rfl,rfl,rfl,by decide +kernel,rfl,by decide +kernel,by decide +kernel⟩
def DE:Sp:=fun vs H Q _=>∃ (a:Addr) (ns:List Nat) (h k:Nat) (up:Bool),vs=[.ref a,.int h,.int k,.int (if up then 1 else -1)]/\H a=some (.tup (NV ns))/\Bx ns/\k<ns.length/\∀H',aB H H'->Q (oV (tu ns h k up)) H'
theorem KG{f:Addr}{fd:FuncData}(F:dE K "_law_step" "_law_step" OX f fd)(PL:ck P w K mg base aZ 1 "_law_place" ["_law_sides_here","_law_house"] vR)(MA:ck P w K mg base aZ 1 "_law_many" ["_law_sides_here"] A3):aU P w K mg base aZ 2 f fd ["_law_sides_here","_law_house","_law_k","_law_by"] DE:=by
 refine F.ok KE (fun vs H Q E h=>?_) (fun bX A outer s H vs Q E hr h=>?_)
 .obtain⟨a,ns,h,k,up,rfl,_⟩:=h;rfl
 .obtain⟨a,ns,h,k,up,rfl,ha,BX,hk,q⟩:=h;have h1:bh 1 _:=hr;refine⟨_,(ah (aM (i:=4) KE.nd rfl (Or.inl rfl) (av PL h1 aF (aa (pv 0) (aa (pv 1) af))))
   (ah (bq (cz (zk zg o7 au (aV dX (bu bi (pv 4) (pv 2) (fun _ _=>rfl)) (pv 3)) (bu d0 (pv 0) (pv 2) (fun _ _=>rfl)))) (ai (aG dW)) aN)
   (ai (aG (aV dX (pv 1) (aV kO (pv 3) (av MA h1 aF (aa (zD Du (pv 0) Ca (Cb (pv 2))) af)))))))),?_⟩
  generalize G4:(if up=true then (1:Int) else -1)=u;have gk:=BX.gd hk;have gd:(NV ns)[k]?=some (.int ((ns.getD k 0:Nat):Int)):=by
   rw[bQ,cV hk,dL,cV hk];rfl
  refine⟨_,rfl,_,rfl,a,ns,h,rfl,ha,BX,fun r H1 s1 VX yc=>?_⟩;have dl:=jy (h:=h) BX.pos hk;have key:(0<=(((bn ns h).getD k 0:Nat):Int)+u/\(((bn ns h).getD k 0:Nat):Int)+u<((ns.getD k 0:Nat):Int))/\(∃y:Nat,tu ns h k up=some y/\(h:Int)+u*((pr (ns.take k):Nat):Int)=(y:Int))\/¬ (0<=(((bn ns h).getD k 0:Nat):Int)+u/\(((bn ns h).getD k 0:Nat):Int)+u<((ns.getD k 0:Nat):Int))/\tu ns h k up=none:=by
   unfold tu;cases up with
   |true=>
    have G4:(1:Int)=u:=G4;rw[<-G4,ak rfl];by_cases c:(bn ns h).getD k 0+1<ns.getD k 0
    .exact .inl ⟨⟨by lia,by lia⟩,h+pr (ns.take k),ak c,by lia⟩
    .exact .inr ⟨fun z=>c (by lia),al c⟩
   |false=>
    have G4:(-1:Int)=u:=G4;rw[<-G4,al (by decide)];by_cases c:1<=(bn ns h).getD k 0
    .have:=EY hk c;exact .inl ⟨⟨by lia,by lia⟩,h-pr (ns.take k),ak c,by lia⟩
    .exact .inr ⟨fun z=>c (by lia),al c⟩
  have UX:-(2 ^ 64)<u/\u<2 ^ 64:=by rw[<-G4];split <;> decide
  have q1:=q H1 s1;have cN:∀y:Nat,tu ns h k up=some y->(h:Int)+u*((pr (ns.take k):Nat):Int)=(y:Int)->ID (uS (Em fun i j=>.int (i+j)) (cq 1) (uS (rI zd fun i j=>.int (i*j)) (cq 3) (nj A3 [] E0 (ci (QA Kl (cq 0) wb (Eo (cq 2))) gD)))) { nx:=fun _ H'=>Q .bt H',rt:=Q } [some (.ref a),some (.int (h:Int)),some (.int (k:Int)),some (.int u),some (.ref r)] H1:=fun y hy e=>by
   refine⟨_,rfl,_,rfl,_,rfl,_,rfl,_,rfl,a,_,rfl,s1 _ _ ha,fun t H2 s2 ht=>?_⟩;rw[GZ,show (NV ns).take k=NV (ns.take k) from (List.map_take).symm] at ht;refine⟨t,ns.take k,rfl,ht,fun x hx=>(BX.sd x (oX hx)).2,_,_,rfl,rfl,.inl UX,_,_,rfl,rfl,?_⟩;have:=q H2 (s1.trans s2);rw[hy] at this;have e':(fun (i j:Int)=>i+j) (h:Int) ((fun (i j:Int)=>i*j) u ((pr (ns.take k):Nat):Int))=(y:Int):=e;show Q (.int _) _;rw[e];exact this
  refine⟨_,rfl,_,rfl,r,_,_,_,rfl,rfl,bg.of yc,aO (dI hk),_,rfl,_,_,rfl,rfl,_,_,rfl,rfl,_,rfl,?_⟩;rcases key with ⟨⟨c1,c2⟩,y,hy,e⟩|⟨c,hy⟩
  .refine sQ (bj c1) ⟨_,rfl,_,rfl,a,_,_,_,rfl,rfl,cu.of (s1 _ _ ha),aO gd,_,_,rfl,rfl,_,rfl,fG (by rw[bj c2];rfl) (cN y hy e)⟩
  .rw[hy] at q1;refine nu (fun c1=>⟨_,rfl,_,rfl,a,_,_,_,rfl,rfl,cu.of (s1 _ _ ha),aO gd,_,_,rfl,rfl,_,rfl,sQ (by rw[cS fun c2=>c ⟨fj c1,c2⟩];rfl) q1⟩) (fun c1=>⟨_,rfl,gG q1⟩)
end
abbrev OZ:Stmt:=fg 51
abbrev O0:Stmt:=fg 52
abbrev O1:Stmt:=fg 53
abbrev O2:Stmt:=fg 57
theorem A4:(["_law_other"]:List Str).Nodup:=by decide +kernel
theorem eN:(["_law_k","_law_sides_here","_law_house","_law_home"]:List Str).Nodup:=by decide +kernel
theorem DG{β:Type}{K:PySem.W.Frag}{a D:Addr}{g:TG}{tt:TT}{te:TE}{cN:Hp->Prop}{σB:St}{H0:Hp}(ms:List β)(e:β->V)(c:β->Bool)(G:β->V)(et:St->Prop)(ha:H0 a=some (.lst (ms.map e)))(hD:H0 D=none)(hn:ms.length<=1000)(h0:et σB)(hs:∀m σ H (Kt:V->St->Hp->Prop) (Kf:St->Hp->Prop),m∈ms->et σ->aB H0 H->(∀σ2 H2,et σ2->aB H H2->c m=true->Kt (G m) σ2 H2)->(∀σ2 H2,et σ2->aB H H2->c m=false->Kf σ2 H2)->
   g (e m) σ H fun σ2 H2=>tt σ2 H2 fun b H3=>if b=true then te σ2 H3 fun v H4=>Kt v σ2 H4 else Kf σ2 H3)(hd:∀H,aB H0 H->H D=some (.lst ((ms.filter c).map G))->cN H):jR (BZ K a) g tt te D cN σB (upd H0 D (.lst [])):=by
 refine fw (xs:=ms.map e) (fun i ys σ H=>et σ/\aB H0 H/\H D=some (.lst ys)/\ys=((ms.take i).filter c).map G) ⟨h0,am hD,ag,rfl⟩ (fun i ys σ H _ z=>bg.of (z.2.1 _ _ ha)) ?_ ?_
 .rintro i x ys σ H Kt Kf hx ⟨sh,sm,tf,rfl⟩ kt kf;rw[bQ] at hx;obtain⟨y,hy,rfl⟩:=Option.map_eq_some_iff.mp hx;have tk:ms.take (i+1)=ms.take i++[y]:=by rw[eO,hy];rfl
  refine hs y σ H Kt Kf (cD hy) sh sm (fun σ2 H2 C_ s2 e=>?_) (fun σ2 H2 C_ s2 e=>?_)
  .refine kt _ _ _ (s2 _ _ tf) ?_ ⟨C_,cj (sm.trans s2) hD,ag,?_⟩
   .rw[bJ];exact gm (bb (mx _ _) (List.length_take_le' _ _)) (gm hn (by decide))
   .rw[tk,jC,eQ,fk,e];rfl
  .refine kf _ _ ⟨C_,sm.trans s2,s2 _ _ tf,?_⟩;rw[tk,jC,fk,e];simp
 .rintro ys σ H ⟨_,sm,tf,rfl⟩;rw[bJ,gs] at tf;exact hd H sm tf
theorem DH{lo:Int}{n:Nat}{D:Addr}{g:TG}{tt:TT}{te:TE}{cN:Hp->Prop}{σB:St}{H0:Hp}(c:Nat->Bool)(et:St->Prop)(hD:H0 D=none)(hn:n<=1000)(h0:et σB)(hs:∀x σ H (Kt:V->St->Hp->Prop) (Kf:St->Hp->Prop),x<n->et σ->aB H0 H->(∀σ2 H2,et σ2->aB H H2->c x=true->Kt (.int (lo+(x:Nat))) σ2 H2)->(∀σ2 H2,et σ2->aB H H2->c x=false->Kf σ2 H2)->
   g (.int (lo+(x:Nat))) σ H fun σ2 H2=>tt σ2 H2 fun b H3=>if b=true then te σ2 H3 fun v H4=>Kt v σ2 H4 else Kf σ2 H3)(hd:∀H,aB H0 H->H D=some (.lst (((List.range n).filter c).map fun (x:Nat)=>V.int (lo+(x:Int))))->cN H):jR (Bz lo n) g tt te D cN σB (upd H0 D (.lst [])):=by
 refine ge (fun i ys σ H=>et σ/\aB H0 H/\H D=some (.lst ys)/\ys=((List.range i).filter c).map fun (x:Nat)=>V.int (lo+(x:Int))) ⟨h0,am hD,ag,rfl⟩ ?_ ?_
 .rintro i ys σ H Kt Kf hi ⟨sh,sm,tf,rfl⟩ kt kf;refine hs i σ H Kt Kf hi sh sm (fun σ2 H2 C_ s2 e=>?_) (fun σ2 H2 C_ s2 e=>?_)
  .refine kt _ _ _ (s2 _ _ tf) ?_ ⟨C_,cj (sm.trans s2) hD,ag,?_⟩
   .rw[bJ];refine gm (mx _ _) ?_;rw[mG];exact bp (show i<1000 by lia) (by decide)
   .rw[kn,jC,eQ];simp[fk,e]
  .refine kf _ _ ⟨C_,sm.trans s2,s2 _ _ tf,?_⟩;rw[kn,jC];simp[fk,e]
 .rintro ys σ H ⟨_,sm,tf,rfl⟩;exact hd H sm tf
theorem yj{e:V->V->Bool}:∀ {xs:List V},jV e xs []=decide (xs=[])
 |[]=>rfl
 |x::xs=>by simp[jV]
def EZ(ns:List Nat)(h k:Nat):List Nat:=(tu ns h k false).toList++(tu ns h k true).toList
theorem vS{ns:List Nat}{h g k:Nat}(hp:∀x∈ns,0<x)(hk:k<ns.length):g∈EZ ns h k↔BJ ns h g k:=by
 unfold EZ BJ;rw[cJ,Option.mem_toList,Option.mem_toList,AN hp hk,vP hp hk,or_comm];refine or_congr ?_ ?_
 .unfold tu;rw[ak rfl];by_cases c:(bn ns h).getD k 0+1<ns.getD k 0
  .rw[ak c];exact⟨fun z=>⟨c,(bA z).symm⟩,fun z=>by rw[z.2]⟩
  .rw[al c];exact⟨fun z=>(nomatch z),fun z=>absurd z.1 c⟩
 .unfold tu;rw[al (by decide)];by_cases c:1<=(bn ns h).getD k 0
  .have:=EY hk c;rw[ak c];exact⟨fun z=>⟨c,by have:=bA z;lia⟩,fun z=>congrArg some (by lia)⟩
  .rw[al c];exact⟨fun z=>(nomatch z),fun z=>absurd z.1 c⟩
theorem yk{a b:Option Nat}:([a,b].filter Option.isSome).map oV=NV (a.toList++b.toList):=by cases a <;> cases b <;> rfl
theorem DI{n:Nat}{c:Nat->Bool}:(NV ((List.range n).filter c))[0]?=((List.range n).find? c).map fun (k:Nat)=>V.int (k:Int):=by
 rw[bQ,<-List.head?_eq_getElem?,List.head?_filter]
section
variable {P:Program} {w:World} {K:PySem.W.Frag} {mg:Str->Option Value} {base:Heap}
theorem O4:aw ["_law_sides_here","_law_house","_law_k"] ["_law_sides_here","_law_house","_law_k"] (aj OZ):=⟨rfl,rfl,rfl,by decide +kernel,rfl,by decide +kernel,by decide +kernel⟩
def DJ:Sp:=fun vs H Q _=>∃ (a:Addr) (ns:List Nat) (h k:Nat),vs=[.ref a,.int h,.int k]/\H a=some (.tup (NV ns))/\Bx ns/\k<ns.length/\∀ (r:Addr) (H':Hp),aB H H'->H r=none->H' r=some (.lst (NV (EZ ns h k)))->Q (.ref r) H'
theorem KH{f:Addr}{fd:FuncData}(F:dE K "_law_ties" "_law_ties" OZ f fd)(ST:ck P w K mg base aZ 2 "_law_step" ["_law_sides_here","_law_house","_law_k","_law_by"] DE):aU P w K mg base aZ 3 f fd ["_law_sides_here","_law_house","_law_k"] DJ:=by
 refine F.ok O4 (fun vs H Q E h=>?_) (fun bX A outer s H vs Q E hr h=>?_)
 .obtain⟨a,ns,h,k,rfl,_⟩:=h;rfl
 .obtain⟨a,ns,h,k,rfl,ha,BX,hk,q⟩:=h;refine'⟨_,(ai (aG ?c1)),?_⟩;case c1=>
   refine' gb (g:=(cA 0)) (tt:=(o8 (uS (fun x y H Q=>y=.bt/\Q (.bl (!decide (x=.bt))) H) (cq 0) (tC .bt)))) (te:=(cq 0)) (NB:=["_law_other"]) (src:=[none]) (d8 (by kernel_rfl)) rfl (cP (bZ (aa (av ST hr aF (aa (pv 0) (aa (pv 1) (aa (pv 2) (aa (o6 kP au) af))))) (aa (av ST hr aF (aa (pv 0) (aa (pv 1) (aa (pv 2) (aa au af))))) af)))) ?g ?t ?e;case g=>exact fun cl C s₃ H₃ fp=>(aH (i:=0) A4 rfl (Or.inl rfl) (Or.inr rfl))
   case t=>exact fun cl C s₃ H₃ fp=>iH (aR B0 (pv 0) dW (a7 _))
   case e=>exact fun cl C s₃ H₃ fp=>(pv 0)
  refine⟨_,rfl,_,rfl,_,rfl,_,rfl,a,ns,h,k,false,rfl,ha,BX,hk,fun H1 s1=>⟨_,rfl,_,rfl,_,rfl,a,ns,h,k,true,rfl,s1 _ _ ha,BX,hk,fun H2 s2=>⟨by show 2<=sizeLine;decide,fun L hL=>⟨_,rfl,⟨_,bg.of ag⟩,fun D hD=>?_⟩⟩⟩⟩;have s3:=(s1.trans s2).trans (am (o:=.lst [oV (tu ns h k false),oV (tu ns h k true)]) hL);refine DG [tu ns h k false,tu ns h k true] oV Option.isSome oV (fun σ=>∃b,σ=[b]) ag hD (by show 2<=1000;decide) ⟨_,rfl⟩ ?_ ?_
  .rintro m σ H5 Kt Kf hm ⟨b',rfl⟩ s5 kt kf;refine⟨_,rfl,rfl,_,rfl,?_⟩;cases m with
   |none=>exact du (kf _ _ ⟨_,rfl⟩ (aB.refl _) rfl)
   |some y=>exact sQ rfl ⟨_,rfl,kt _ _ ⟨_,rfl⟩ (aB.refl _) rfl⟩
  .intro H5 s5 EX;rw[yk] at EX;exact q D H5 (s3.trans s5) (s3.free hD) EX
theorem KI:aw ["_law_sides_here","_law_house","_law_home","_law_unlike"] ["_law_sides_here","_law_house","_law_home"] (aj O0):=⟨rfl,rfl,rfl,by decide +kernel,rfl,by decide +kernel,by decide +kernel⟩
def DK:Sp:=fun vs H Q _=>∃ (a:Addr) (ns:List Nat) (h g:Nat),vs=[.ref a,.int h,.int g]/\H a=some (.tup (NV ns))/\Bx ns/\∀H',aB H H'->Q (oV (lM ns h g)) H'
theorem KJ{f:Addr}{fd:FuncData}(F:dE K "_law_phase" "_law_phase" O0 f fd)(B:Bl mg)(PL:ck P w K mg base aZ 1 "_law_place" ["_law_sides_here","_law_house"] vR):aU P w K mg base aZ 2 f fd ["_law_sides_here","_law_house","_law_home"] DK:=by
 refine F.ok KI (fun vs H Q E h=>?_) (fun bX A outer s H vs Q E hr h=>?_)
 .obtain⟨a,ns,h,g,rfl,_⟩:=h;rfl
 .obtain⟨a,ns,h,g,rfl,ha,BX,q⟩:=h;have l5:=BX.l5;refine'⟨_,(ah (jr (i:=3) (g:=(cA 0)) (tt:=(o8 (uS (Qy) (uS (Ce K) (nj vR [] E0 (ci (cq 1) (ci (cq 2) gD))) (cq 0)) (uS (Ce K) (nj vR [] E0 (ci (cq 1) (ci (cq 3) gD))) (cq 0))))) (te:=(cq 0)) (NB:=["_law_k","_law_sides_here","_law_house","_law_home"]) (src:=[none,some 0,some 1,some 2]) (d8 (by kernel_rfl)) rfl (bK rfl B.range (aa (az aQ (by rfl) B.len eF (aa (pv 0) af)) af)) ?g1 ?t1 ?e1 KI.nd rfl rfl rfl)
   (ai (aG (jJ (aR (FW (e:=zG) hr.u) (pv 3) (bZ af) (a7 _)) (bu bi (pv 3) au (fun _ _=>rfl)) dW)))),?_⟩
  case g1=>exact fun cl C s₃ H₃ fp=>(aH (i:=0) eN rfl (Or.inl rfl) (Or.inr rfl))
  case t1=>exact fun cl C s₃ H₃ fp=>iH (aR nh (bu bi (av PL hr aF (aa (pv 1) (aa (pv 2) af))) (pv 0) (fun _ _=>rfl)) (bu bi (av PL hr aF (aa (pv 1) (aa (pv 3) af))) (pv 0) (fun _ _=>rfl)) (a7 _))
  case e1=>exact fun cl C s₃ H₃ fp=>(pv 0)
  refine⟨_,rfl,a,_,rfl,.inr (cu.of ha),_,rfl,by lia,by rw[ba];lia,fun D hD=>?_⟩;rw[ba];refine DH (lo:=0) (n:=ns.length) (fun i=>decide ((bn ns h).getD i 0≠(bn ns g).getD i 0)) (fun σ=>∃b,σ=[b,some (.ref a),some (.int (h:Int)),some (.int (g:Int))]) hD (by lia) ⟨_,rfl⟩ ?_ ?_
  .rintro j σ H5 Kt Kf hj ⟨b',rfl⟩ s5 kt kf;rw[eG] at kt |-;refine⟨_,rfl,_,rfl,a,ns,h,rfl,s5 _ _ ha,BX,fun r1 H6 s6 _ yc=>⟨_,rfl,r1,_,_,_,rfl,rfl,bg.of yc,aO (dI hj),?_⟩⟩;refine⟨_,rfl,_,rfl,a,ns,g,rfl,s6 _ _ (s5 _ _ ha),BX,fun r2 H7 s7 _ BH=>⟨_,rfl,r2,_,_,_,rfl,rfl,bg.of BH,aO (dI hj),rfl,_,rfl,?_⟩⟩;have RV:=s6.trans s7;by_cases c:(bn ns h).getD j 0=(bn ns g).getD j 0
   .rw[c,bj rfl];exact du (kf _ _ ⟨_,rfl⟩ RV (cS fun z=>z c))
   .rw[cS (fun z=>c (by injection z with z;exact eh z))];exact gG ⟨_,rfl,kt _ _ ⟨_,rfl⟩ RV (bj c)⟩
  intro H5 s5 EX;rw[show (((List.range ns.length).filter fun i=>decide ((bn ns h).getD i 0≠(bn ns g).getD i 0)).map fun (x:Nat)=>V.int (0+(x:Int)))=NV ((List.range ns.length).filter fun i=>decide ((bn ns h).getD i 0≠(bn ns g).getD i 0)) from lr fun x _=>by rw[eG]] at EX;have hf:=DI (n:=ns.length) (c:=fun i=>decide ((bn ns h).getD i 0≠(bn ns g).getD i 0));refine⟨_,rfl,by show 0<=sizeLine;decide,fun E1 UY=>?_⟩;have sE:=am (o:=.lst []) UY;refine⟨D,E1,_,[],rfl,rfl,bg.of (sE _ _ EX),bg.of ag,fun i h1 h2=>absurd h2 (by simp),_,rfl,?_⟩;rw[ak rfl,yj];have q1:=q _ (s5.trans sE);unfold lM at q1;cases hp:(List.range ns.length).find? fun i=>decide ((bn ns h).getD i 0≠(bn ns g).getD i 0) with
  |none=>
   rw[hp] at q1 hf;have e:NV ((List.range ns.length).filter fun i=>decide ((bn ns h).getD i 0≠(bn ns g).getD i 0))=[]:=List.eq_nil_of_length_eq_zero (by have:=yK.mp hf;lia);rw[bj e];exact du q1
  |some k=>
   rw[hp] at q1 hf;rw[cS (fun z=>by rw[z] at hf;cases hf)];exact gG ⟨_,rfl,D,_,_,_,rfl,rfl,bg.of (sE _ _ EX),aO (j:=0) hf,q1⟩
theorem KL:aw ["_law_sides_here","_law_house","_law_home","_law_k"] ["_law_sides_here","_law_house","_law_home"] (aj O1):=⟨rfl,rfl,rfl,by decide +kernel,rfl,by decide +kernel,by decide +kernel⟩
def G5:Sp:=fun vs H Q _=>∃ (a:Addr) (ns:List Nat) (h g:Nat),vs=[.ref a,.int h,.int g]/\H a=some (.tup (NV ns))/\Bx ns/\∀H',aB H H'->Q (oV (BK ns h g)) H'
theorem KM{f:Addr}{fd:FuncData}(F:dE K "_law_wish" "_law_wish" O1 f fd)(PL:ck P w K mg base aZ 1 "_law_place" ["_law_sides_here","_law_house"] vR)(ST:ck P w K mg base aZ 2 "_law_step" ["_law_sides_here","_law_house","_law_k","_law_by"] DE)(PH:ck P w K mg base aZ 2 "_law_phase" ["_law_sides_here","_law_house","_law_home"] DK):aU P w K mg base aZ 3 f fd ["_law_sides_here","_law_house","_law_home"] G5:=by
 refine F.ok KL (fun vs H Q E h=>?_) (fun bX A outer s H vs Q E hr h=>?_)
 .obtain⟨a,ns,h,g,rfl,_⟩:=h;rfl
 .obtain⟨a,ns,h,g,rfl,ha,BX,q⟩:=h;have h1:bh 1 _:=hr.mono (by decide);refine⟨_,(ah (aM (i:=3) KL.nd rfl (Or.inl rfl) (av PH hr aF (aa (pv 0) (aa (pv 1) (aa (pv 2) af)))))
   (ah (bq (aR uU (pv 3) dW (a7 _)) (ai (aG dW)) aN)
   (ai (aG (av ST hr aF (aa (pv 0) (aa (pv 1) (aa (pv 3) (aa (jJ (aR o7 (bu bi (av PL h1 aF (aa (pv 0) (aa (pv 1) af))) (pv 3) (fun _ _=>rfl)) (bu bi (av PL h1 aF (aa (pv 0) (aa (pv 2) af))) (pv 3) (fun _ _=>rfl)) (a7 _)) au (o6 kP au)) af))))))))),?_⟩
  refine⟨_,rfl,_,rfl,_,rfl,a,ns,h,g,rfl,ha,BX,fun H1 s1=>?_⟩;cases hp:lM ns h g with
  |none=>
   have:=q H1 s1;unfold BK at this;rw[hp] at this;exact⟨_,rfl,rfl,_,rfl,gG this⟩
  |some k=>
   obtain⟨hk,ne⟩:=l_ hp;refine⟨_,rfl,rfl,_,rfl,fG rfl ?_⟩;refine⟨_,rfl,_,rfl,_,rfl,_,rfl,_,rfl,a,ns,h,rfl,s1 _ _ ha,BX,fun r1 H2 s2 _ yc=>⟨_,rfl,r1,_,_,_,rfl,rfl,bg.of yc,aO (dI hk),?_⟩⟩;have Do:=s1.trans s2;refine⟨_,rfl,_,rfl,a,ns,g,rfl,Do _ _ ha,BX,fun r2 H3 s3 _ BH=>⟨_,rfl,r2,_,_,_,rfl,rfl,bg.of BH,aO (dI hk),_,_,rfl,rfl,_,rfl,?_⟩⟩;have KN:=Do.trans s3;have cN:∀H',aB H3 H'->Q (oV (tu ns h k (decide ((bn ns h).getD k 0<(bn ns g).getD k 0)))) H':=fun H' s'=>by
    have:=q H' (KN.trans s');rw[Kz BX.pos hp] at this;exact this
   by_cases c:(bn ns h).getD k 0<(bn ns g).getD k 0
   .rw[bj c] at cN;exact sQ (bj (by lia)) ⟨a,ns,h,k,true,rfl,KN _ _ ha,BX,hk,cN⟩
   .rw[cS c] at cN;exact fG (cS (by lia)) ⟨_,rfl,a,ns,h,k,false,rfl,KN _ _ ha,BX,hk,cN⟩
theorem KO:aw ["_law_sides_here","_law_one","_law_other","_law_k"] ["_law_sides_here","_law_one","_law_other"] (aj O2):=⟨rfl,rfl,rfl,by decide +kernel,rfl,by decide +kernel,by decide +kernel⟩
def G6:Sp:=fun vs H Q _=>∃ (a:Addr) (ns:List Nat) (h g:Nat),vs=[.ref a,.int h,.int g]/\H a=some (.tup (NV ns))/\Bx ns/\(∀k,BJ ns h g k->∀H',aB H H'->Q (.int (k:Int)) H')/\((∀k,¬ BJ ns h g k)->∀ (r:Addr) (H':Hp),aB H H'->H' r=some (.lst [.int 2,.bl true])->Q (.ref r) H')
theorem KP{f:Addr}{fd:FuncData}(F:dE K "_law_way" "_law_way" O2 f fd)(B:Bl mg)(TI:ck P w K mg base aZ 3 "_law_ties" ["_law_sides_here","_law_house","_law_k"] DJ):aU P w K mg base aZ 4 f fd ["_law_sides_here","_law_one","_law_other"] G6:=by
 refine F.ok KO (fun vs H Q E h=>?_) (fun bX A outer s H vs Q E hr h=>?_)
 .obtain⟨a,ns,h,g,rfl,_⟩:=h;rfl
 .obtain⟨a,ns,h,g,rfl,ha,BX,k1,k2⟩:=h;have l5:=BX.l5;refine⟨_,(ah (cg dh rfl (bK rfl B.range (aa (az aQ (by rfl) B.len eF (aa (pv 0) af)) af)) (aH (i:=3) KO.nd rfl (Or.inl rfl))
    (ai (bq (aR iF (pv 2) (av TI hr aF (aa (pv 0) (aa (pv 1) (aa (pv 3) af)))) rfl) (ai (aG (pv 3))) aN)))
   (ai (aG (bZ (aa au (aa eS af)))))),?_⟩
  refine⟨_,rfl,a,_,rfl,.inr (cu.of ha),_,rfl,by lia,by rw[ba];lia,?_⟩;rw[ba];refine cT (n:=ns.length) (lo:=0) (fun k σ H2=>(∃z,σ=[some (.ref a),some (.int (h:Int)),some (.int (g:Int)),z])/\aB H H2/\∀j,j<k->¬ BJ ns h g j) ⟨⟨_,rfl⟩,aB.refl _,fun j hj=>absurd hj (jb _)⟩ ?_ ?_
  .rintro k σ H2 hk ⟨⟨z,rfl⟩,s2,hj⟩;rw[eG];refine⟨_,rfl,_,rfl,_,rfl,_,rfl,a,ns,h,k,rfl,s2 _ _ ha,BX,hk,fun r H3 s3 _ UZ=>⟨r,_,rfl,.inl (bg.of UZ),rfl,rh,_,rfl,?_⟩⟩;have e:(if false=true then !we (V.int (g:Int)) (NV (EZ ns h k)) else we (V.int (g:Int)) (NV (EZ ns h k)))=decide (g∈EZ ns h k):=by
    show we _ _=_;rw[jc,uc];unfold we;rw[uy];constructor
    .rintro⟨v,hv,e⟩;obtain⟨y,hy,rfl⟩:=a8.mp hv;have:(((y:Nat):Int)==(g:Int))=true\/((g:Int)==((y:Nat):Int))=true:=by first|exact .inl e|exact .inr e
     have:y=g:=by rcases this with t|t <;> simp at t <;> lia
     rw[<-this];exact hy
    .intro hy;exact⟨.int (g:Int),a8.mpr ⟨g,hy,rfl⟩,by show ((g:Int)==(g:Int))=true;simp⟩
   rw[e];by_cases c:g∈EZ ns h k
   .rw[bj c];exact gG ⟨_,rfl,k1 k ((vS BX.pos hk).mp c) _ (s2.trans s3)⟩
   .rw[cS c];exact du ⟨⟨_,rfl⟩,s2.trans s3,fun j OR=>by
     rcases yM.mp OR with z|z
     .exact hj j z
     .rw[z];exact fun y=>c ((vS BX.pos hk).mpr y)⟩
  .rintro σ H2 ⟨⟨z,rfl⟩,s2,hj⟩;refine⟨by show 2<=sizeLine;decide,fun r wm=>k2 (fun k y=>hj k ?_ y) r _ (s2.trans (am wm)) ag⟩;rcases y with y|y <;> exact EU y
end
end oI
namespace L2
open PySem PySem.Spec PyProof.Rows
def KQ(K:PySem.W.Frag)(Dc:Addr)(i:Nat)(tb:(St->XK)->TS)(th:Addr->TS):TS:=fun D σ H=>∃E,Js K Dc i E (tb E) th D σ H
theorem DL{X:Cx}{body rS:List Stmt}{b₀:Stmt}{x n:Str}{np rT pos:Pos}{Dc:Addr}{i:Nat}{tb:(St->XK)->TS}{th:Addr->TS}(TD:iS X.K Dc)(hg:Gl X x)(hm:X.mg x=some (.ref Dc))(iB:X.stack=X.env::X.outer)(yQ:X.env.frame=some X.env.locals)(hN:X.N.Nodup)(hi:X.N[i]?=some n)(hn:X.env.scope.names.lookup n=some .local)(hb:∀E pn xe,lY (d6 X.prog X.w) (X.d7 pn xe) E->om (X.d7 pn xe) body (tb E))(hh:∀pn p,om (X.cY pn p) (b₀::rS) (th p))(oC:(x==("__debug__":Str))=false:=by decide):
  PS X (.Try body [.ExceptHandler (some (.Name x np)) (some n) (b₀::rS) rT] [] [] pos) (KQ X.K Dc i tb th):=by
 intro ae s σ H D I h;obtain⟨E,h⟩:=h;exact FQ (E:=E) TD hg hm iB yQ hN hi hn (hb E) hh oC ae s σ H D I h
theorem oa{X:Cx}{CX:lX}{k:Nat}{f C:Addr}{fd:FuncData}{ps:List Str}{sp:Sp}{f9:List V}{ds:List Value}{E:St->XK}{m:Str}{pos iR:Pos}{e o:Expr}{es:List Expr}{ta:TE}{t:TA}{pl:Sem Bool}(he:PE X o ta)(c:xo X.K C)(hm:zu X.K C m f)(F:aU X.prog X.w X.K X.mg X.base CX k f fd ps sp)(hr:bh k X.A)(hb:dN X.K fd ps ds)(hd:aL f9 ds)(hx:lY CX X E)(ha:PA X (e::es) t)(iB:starEach (e::es) X.env=(false,eval e X.env)::starEach es X.env:=by rfl)(lT:(backTo pos (starEach es X.env)).any (·.1)=false:=by rfl)(ht:eval (.Call (.Attribute o m iR) (e::es) [] pos) X.env=(do
   let ov <- eval o X.env
   standAt iR.atName
   let (f,first) <- holding [ov] (getMethod ov m pl)
   callWith pos f first (backTo pos (starEach (e::es) X.env)) (backToKw pos (keywordEach [] X.env))):=by rfl):
  PE X (.Call (.Attribute o m iR) (e::es) [] pos) (qF C m sp f9 E ta t):=by
 intro ae s σ H Q I h;refine tV (pl:=pl) (bC (he ae s σ H _ I h) fun u s1 ⟨x,H1,I1,rx,a,dx,fs,ex,ea,l,q⟩=>?_) ht;subst ex;obtain rfl:u=Value.ref a:=rx;refine jo I1 ea c hm l ?_;refine mC (first:=[.ref a]) (h₀:=X.base) I.ok.mod.Bv hm.kp (bC (ha pos ae s1 σ H1 _ I1 q) fun us s2 ⟨vs,H2,I2,r,q2⟩=>⟨I2.jl,?_⟩) iB lT;exact Cq (us:=.ref a::us) (vs:=.ref a::vs) F hr hb hd hx I2 (.cons rfl r) q2
theorem sS{G:Hp->Prop}{lo:Int}{n:Nat}{D:Addr}{g:TG}{tt:TT}{te:TE}{cN:Hp->Prop}{σB:St}{H0:Hp}(Pv:Nat->List V->St->Hp->Prop)(h0:Pv 0 [] σB H0)(hG:∀i ys σ H,Pv i ys σ H->G H)(hs:∀i ys σ H (Kt:V->St->Hp->Prop) (Kf:St->Hp->Prop),i<n->Pv i ys σ H->
   (∀v σ2 H4,H4 D=some (.lst ys)->ys.length<sizeLine->Pv (i+1) (ys++[v]) σ2 (upd H4 D (.lst (ys++[v])))->Kt v σ2 H4)->(∀σ2 H3,Pv (i+1) ys σ2 H3->Kf σ2 H3)->
   g (.int (lo+i)) σ H fun σ2 H2=>tt σ2 H2 fun b H3=>if b=true then te σ2 H3 fun v H4=>Kt v σ2 H4 else Kf σ2 H3)(hd:∀ys σ H,Pv n ys σ H->cN H):ny G (Bz lo n) g tt te D cN σB H0:=by
 obtain⟨W,w0,st⟩:=ge (lo:=lo) (n:=n) (fun i ys σ H=>Pv i ys σ H) h0 hs hd;refine⟨fun i m σ H=>m=n-i/\i<=n/\∃ys,Pv i ys σ H,⟨n,by simp,cK _,[],h0⟩,?_⟩;rintro i m σ H ⟨rfl,hi,ys,p⟩;refine⟨hG _ _ _ _ p,?_⟩;by_cases eE:i<n
 .refine .inr ⟨eE,?_⟩;rintro x H' ⟨rfl,rfl⟩;exact hs i ys σ _ (fun v σ2 H4=>∃ys,H4 D=some (.lst ys)/\ys.length<sizeLine/\∃m',m'<n-i/\m'=n-(i+1)/\i+1<=n/\∃sg,Pv (i+1) sg σ2 (upd H4 D (.lst (ys++[v]))))
   (fun σ2 H3=>∃m',m'<n-i/\m'=n-(i+1)/\i+1<=n/\∃sg,Pv (i+1) sg σ2 H3) eE p
   (fun v σ2 H4 z1 z2 z3=>⟨ys,z1,z2,_,by lia,rfl,eE,_,z3⟩) (fun σ2 H3 z=>⟨_,by lia,rfl,eE,_,z⟩)
 .obtain rfl:i=n:=by lia
  exact .inl ⟨aK _,hd ys σ H p⟩
end L2
namespace oI
open PySem L2 iT
abbrev O5:Stmt:=fg 54
theorem yl:(["_law_k","_law_some"]:List Str).Nodup:=by decide +kernel
theorem O6:∀j,j<12->(List.range 12).filter (fun k=>decide (k=j))=[j]:=by decide +kernel
theorem KR:bootBuiltins "ValueError"=some (.type "ValueError"):=by decide +kernel
structure RW(mg:Str->Option Value)(c:Nat->Addr):Prop where
 e0:mg "NoNet"=some (.ref (c 0))
 e1:mg "NoShape"=some (.ref (c 1))
 e2:mg "NoTie"=some (.ref (c 2))
 e3:mg "NoText"=some (.ref (c 3))
 e4:mg "NoHouse"=some (.ref (c 4))
 e5:mg "NoRanks"=some (.ref (c 5))
 e6:mg "NoStand"=some (.ref (c 6))
 e7:mg "NoBerth"=some (.ref (c 7))
 e8:mg "NoHanding"=some (.ref (c 8))
 e9:mg "NoPlan"=some (.ref (c 9))
 U0:mg "TooMany"=some (.ref (c 10))
 U1:mg "NoRow"=some (.ref (c 11))
structure Mt(K:PySem.W.Frag)(c:Nat->Addr)(CE:Addr)(j:Nat):Prop where
 ok:iS K CE
 U2:j<12
 kv:PySem.W.kitOne K (.ref CE) (.type "ValueError")=some true
 k0:PySem.W.kitOne K (.ref CE) (.ref (c 0))=some (decide (0=j))
 k1:PySem.W.kitOne K (.ref CE) (.ref (c 1))=some (decide (1=j))
 k2:PySem.W.kitOne K (.ref CE) (.ref (c 2))=some (decide (2=j))
 k3:PySem.W.kitOne K (.ref CE) (.ref (c 3))=some (decide (3=j))
 k4:PySem.W.kitOne K (.ref CE) (.ref (c 4))=some (decide (4=j))
 k5:PySem.W.kitOne K (.ref CE) (.ref (c 5))=some (decide (5=j))
 k6:PySem.W.kitOne K (.ref CE) (.ref (c 6))=some (decide (6=j))
 k7:PySem.W.kitOne K (.ref CE) (.ref (c 7))=some (decide (7=j))
 k8:PySem.W.kitOne K (.ref CE) (.ref (c 8))=some (decide (8=j))
 k9:PySem.W.kitOne K (.ref CE) (.ref (c 9))=some (decide (9=j))
 U3:PySem.W.kitOne K (.ref CE) (.ref (c 10))=some (decide (10=j))
 U4:PySem.W.kitOne K (.ref CE) (.ref (c 11))=some (decide (11=j))
section
variable {P:Program} {w:World} {K:PySem.W.Frag} {mg:Str->Option Value} {base:Heap}
theorem DM:aw ["_law_e","_law_some"] ["_law_e"] (aj O5):=⟨rfl,rfl,rfl,by decide +kernel,rfl,by decide +kernel,by decide +kernel⟩
def DN(K:PySem.W.Frag)(c:Nat->Addr):Sp:=fun vs H Q _=>∃ (x CE:Addr) (j:Nat),vs=[.ref x]/\Mt K c CE j/\H x=some (qE x (.ref CE))/\∀ (r:Addr) (H':Hp),aB H H'->H' r=some (.lst [.int (j:Int)])->Q (.ref r) H'
theorem KS{f:Addr}{c:Nat->Addr}{fd:FuncData}(F:dE K "_law_kinds" "_law_kinds" O5 f fd)(B:Bl mg)(R:RW mg c):pz P w K mg base (d6 P w) 1 f fd ["_law_e"] (DN K c):=by
 refine F.SL DM (fun vs H Q E h=>?_) (fun bX A outer s H vs Q E hr hd h=>?_)
 .obtain⟨x,CE,j,rfl,_⟩:=h;rfl
 .obtain⟨x,CE,j,rfl,kd,hx,q⟩:=h;refine'⟨_,(ah (aM (i:=1) DM.nd rfl (Or.inr rfl) (bZ (aa (az bL (by rfl) B.qU cW (aa (pv 0) (aa (bv (v:=.ref (c 0)) rfl R.e0 rfl) af))) (aa (az bL (by rfl) B.qU cW (aa (pv 0) (aa (bv (v:=.ref (c 1)) rfl R.e1 rfl) af))) (aa (az bL (by rfl) B.qU cW (aa (pv 0) (aa (bv (v:=.ref (c 2)) rfl R.e2 rfl) af))) (aa (az bL (by rfl) B.qU cW (aa (pv 0) (aa (bv (v:=.ref (c 3)) rfl R.e3 rfl) af))) af))))))
   (ah (aM (i:=1) DM.nd rfl (Or.inr rfl) (aV vb (pv 1) (bZ (aa (az bL (by rfl) B.qU cW (aa (pv 0) (aa (bv (v:=.ref (c 4)) rfl R.e4 rfl) af))) (aa (az bL (by rfl) B.qU cW (aa (pv 0) (aa (bv (v:=.ref (c 5)) rfl R.e5 rfl) af))) (aa (az bL (by rfl) B.qU cW (aa (pv 0) (aa (bv (v:=.ref (c 6)) rfl R.e6 rfl) af))) (aa (az bL (by rfl) B.qU cW (aa (pv 0) (aa (bv (v:=.ref (c 7)) rfl R.e7 rfl) af))) af)))))))
   (ah (aM (i:=1) DM.nd rfl (Or.inr rfl) (aV vb (pv 1) (bZ (aa (az bL (by rfl) B.qU cW (aa (pv 0) (aa (bv (v:=.ref (c 8)) rfl R.e8 rfl) af))) (aa (az bL (by rfl) B.qU cW (aa (pv 0) (aa (bv (v:=.ref (c 9)) rfl R.e9 rfl) af))) (aa (az bL (by rfl) B.qU cW (aa (pv 0) (aa (bv (v:=.ref (c 10)) rfl R.U0 rfl) af))) (aa (az bL (by rfl) B.qU cW (aa (pv 0) (aa (bv (v:=.ref (c 11)) rfl R.U1 rfl) af))) af)))))))
   (ai (aG ?c1))))),?_⟩
  case c1=>
   refine' zL (g:=(cA 0)) (tt:=(tB (uS (Ce K) (cq 1) (cq 0)))) (te:=(cq 0)) (NB:=["_law_k","_law_some"]) (src:=[none,some 1]) (d8 (by kernel_rfl)) (bK rfl B.range (aa au af)) ?g ?t ?e;case g=>exact fun cl C s₃ H₃ fp=>(aH (i:=0) yl rfl (Or.inl rfl) (Or.inr rfl))
   case t=>exact fun cl C s₃ H₃ fp=>iH (cr (bu bi (pv 1) (pv 0) (fun _ _=>rfl)))
   case e=>exact fun cl C s₃ H₃ fp=>(pv 0)
  refine⟨_,rfl,_,_,_,_,rfl,kd.k0,.exc kd.ok hx,_,rfl,_,_,_,_,rfl,kd.k1,.exc kd.ok hx,_,rfl,_,_,_,_,rfl,kd.k2,.exc kd.ok hx,_,rfl,_,_,_,_,rfl,kd.k3,.exc kd.ok hx,by show 4<=sizeLine;decide,fun l1 HV=>?_⟩;have s1:=am (o:=.lst [V.bl (decide (0=j)),.bl (decide (1=j)),.bl (decide (2=j)),.bl (decide (3=j))]) HV;have g1:(upd H l1 (.lst [V.bl (decide (0=j)),.bl (decide (1=j)),.bl (decide (2=j)),.bl (decide (3=j))])) l1=some (.lst ((List.range 4).map fun i=>V.bl (decide (i=j)))):=ag;have x1:=s1 _ _ hx;generalize upd H l1 _=H1 at *;refine⟨_,rfl,_,rfl,_,_,_,_,rfl,kd.k4,.exc kd.ok x1,_,rfl,_,_,_,_,rfl,kd.k5,.exc kd.ok x1,_,rfl,_,_,_,_,rfl,kd.k6,.exc kd.ok x1,_,rfl,_,_,_,_,rfl,kd.k7,.exc kd.ok x1,by show 4<=sizeLine;decide,fun l2 Jb=>?_⟩;have s2:=am (o:=.lst [V.bl (decide (4=j)),.bl (decide (5=j)),.bl (decide (6=j)),.bl (decide (7=j))]) Jb;refine⟨l1,l2,_,_,rfl,rfl,s2 _ _ g1,ag,by show 8<=sizeLine;decide,fun l3 U5=>?_⟩;have s3:=s2.trans (am (o:=.lst (((List.range 4).map fun i=>V.bl (decide (i=j)))++[V.bl (decide (4=j)),.bl (decide (5=j)),.bl (decide (6=j)),.bl (decide (7=j))])) U5);have g3:(upd (upd H1 l2 (.lst [V.bl (decide (4=j)),.bl (decide (5=j)),.bl (decide (6=j)),.bl (decide (7=j))])) l3 (.lst (((List.range 4).map fun i=>V.bl (decide (i=j)))++[V.bl (decide (4=j)),.bl (decide (5=j)),.bl (decide (6=j)),.bl (decide (7=j))]))) l3=some (.lst ((List.range 8).map fun i=>V.bl (decide (i=j)))):=ag;have x3:=s3 _ _ x1;have KN:=s1.trans s3;generalize upd (upd H1 l2 _) l3 _=H3 at *;refine⟨_,rfl,_,rfl,_,_,_,_,rfl,kd.k8,.exc kd.ok x3,_,rfl,_,_,_,_,rfl,kd.k9,.exc kd.ok x3,_,rfl,_,_,_,_,rfl,kd.U3,.exc kd.ok x3,_,rfl,_,_,_,_,rfl,kd.U4,.exc kd.ok x3,by show 4<=sizeLine;decide,fun l4 U6=>?_⟩;have s4:=am (o:=.lst [V.bl (decide (8=j)),.bl (decide (9=j)),.bl (decide (10=j)),.bl (decide (11=j))]) U6;refine⟨l3,l4,_,_,rfl,rfl,s4 _ _ g3,ag,by show 12<=sizeLine;decide,fun l5 U7=>?_⟩;have s5:=s4.trans (am (o:=.lst (((List.range 8).map fun i=>V.bl (decide (i=j)))++[V.bl (decide (8=j)),.bl (decide (9=j)),.bl (decide (10=j)),.bl (decide (11=j))])) U7);have g5:(upd (upd H3 l4 (.lst [V.bl (decide (8=j)),.bl (decide (9=j)),.bl (decide (10=j)),.bl (decide (11=j))])) l5 (.lst (((List.range 8).map fun i=>V.bl (decide (i=j)))++[V.bl (decide (8=j)),.bl (decide (9=j)),.bl (decide (10=j)),.bl (decide (11=j))]))) l5=some (.lst ((List.range 12).map fun i=>V.bl (decide (i=j)))):=ag;have RX:=KN.trans s5;generalize upd (upd H3 l4 _) l5 _=H5 at *;have U8:=hd.same RX;refine⟨(12:Int),rfl,by decide,by decide,fun D hD=>?_⟩;refine sS (lo:=0) (n:=12) (fun i ys σ H6=>(∃u,σ=[u,some (.ref l5)])/\aB H5 H6/\H6 D=some (.lst ys)/\ys=NV ((List.range i).filter fun k=>decide (k=j))) ⟨⟨_,rfl⟩,am hD,ag,rfl⟩ (fun i ys σ H6 z=>(U8.same z.2.1).BY) ?_ ?_
  .rintro i ys σ H6 Kt Kf hi ⟨⟨u,rfl⟩,sm,yA,rfl⟩ kt kf;rw[eG];refine⟨_,rfl,_,rfl,l5,_,_,_,rfl,rfl,bg.of (sm _ _ g5),aO (j:=i) (by rw[bQ,List.getElem?_range hi];rfl),_,rfl,?_⟩;refine nu (fun e=>?_) (fun e=>?_)
   .refine⟨_,rfl,kt _ _ _ yA ?_ ⟨⟨_,rfl⟩,cj sm ?_,ag,?_⟩⟩
    .rw[ba];exact gm (mx _ _) (by rw[mG];exact bp (show i<12 from hi) (by decide))
    .exact hD
    .rw[kn,jC,fk,ak e,List.filter_nil];exact jZ
   .refine kf _ _ ⟨⟨_,rfl⟩,sm,yA,?_⟩;rw[kn,jC,fk,al e,List.filter_nil,qi]
  .rintro ys σ H6 ⟨_,sm,yA,rfl⟩;refine q D H6 (RX.trans sm) ?_;rw[yA];congr 2;rw[O6 j kd.U2];rfl
end
abbrev Mu:Stmt:=fg 55
theorem G7{pn sr:Addr}:(yB pn sr).lookup ("way":Str)=none:=n6 (by decide +kernel) (by decide +kernel)
theorem DO{pn sr:Addr}:(yB pn sr).lookup ("wish":Str)=none:=n6 (by decide +kernel) (by decide +kernel)
structure Rf(K:PySem.W.Frag)(mg:Str->Option Value)(c:Nat->Addr)(cB CE CT:Addr):Prop where
 KT:Er K mg "BeatError" cB
 tie:Mt K c CT 2
 house:Mt K c CE 4
 st:PySem.W.subIn K (.ref CT) (.ref cB)=some true
 sh:PySem.W.subIn K (.ref CE) (.ref cB)=some true
def Mv(ns:List Nat)(way h g:Nat):Option Nat:=if way=2 then BK ns h g else lM ns h g
def RY(ns:List Nat)(way:Nat)(o o':Option Int):Prop:=(way=0/\yi ns o o'=false)\/(way≠0/\(aI o 0 ((pr ns:Int)-1)=false\/aI o' 0 ((pr ns:Int)-1)=false))
section
variable {P:Program} {w:World} {K:PySem.W.Frag} {mg:Str->Option Value} {base:Heap}
theorem ym:aw ["_law_box","_law_way_here","_law_one","_law_other","_law_told_here","_law_e"] ["_law_box","_law_way_here","_law_one","_law_other"] (aj Mu):=⟨rfl,rfl,rfl,by decide +kernel,rfl,by decide +kernel,by decide +kernel⟩
def DP(K:PySem.W.Frag)(C CB:Addr):Sp:=fun vs H Q _=>∃ (L:Addr->Prop) (b:Addr) (ns:List Nat) (way:Nat) (x y:V) (o o':Option Int),vs=[.ref b,.int way,x,y]/\way<=2/\eM C CB H L b ns/\rB K H x o/\rB K H y o'/\
 (RY ns way o o'->∀ (r:Addr) (H':Hp),aB H H'->H' r=some (.lst [.int (if way=0 then 2 else 4:Nat),.bl true])->Q (.ref r) H')/\
 ∀h g:Nat,h<pr ns->g<pr ns->o=some (h:Int)->o'=some (g:Int)->(way=0->yi ns o o'=true)->∀H',aB H H'->Q (oV (Mv ns way h g)) H'
theorem KU{f C CB CE CT cB:Addr}{c:Nat->Addr}{fd:FuncData}(F:dE K "_law_told" "_law_told" Mu f fd)(B:Bl mg)(TB:Dz K mg CB)(R:Rf K mg c cB CE CT)(KD:Ct P w K mg base 1 "_law_kinds" ["_law_e"] (DN K c))(MY:ff P w K mg base (d6 P w) 7 CB "way" ["self","one","other"] (w6 K C CB CT))(MP:ff P w K mg base (d6 P w) 6 CB "phase" ["self","house","home"] (pT K C CB CE))(MW:ff P w K mg base (d6 P w) 7 CB "wish" ["self","house","home"] (w9 K C CB CE)):
  aU P w K mg base aZ 8 f fd ["_law_box","_law_way_here","_law_one","_law_other"] (DP K C CB):=by
 obtain⟨fY,VY,mY,bY,GY⟩:=MY.ex;obtain⟨fP,UR,mP,bP,GP⟩:=MP.ex;obtain⟨fW,VZ,mW,bW,GW⟩:=MW.ex;refine F.ok ym (fun vs H Q E h=>?_) (fun bX A outer s H vs Q E hr h=>?_)
 .obtain⟨L,b,ns,way,x,y,o,o',rfl,_⟩:=h;rfl
 .obtain⟨L,b,ns,way,x,y,o,o',rfl,hw,BA,wx,wy,k1,k2⟩:=h;have h1:bh 1 _:=hr.mono (by decide);have h6:bh 6 _:=hr.mono (by decide);refine'⟨_,ah (aM (i:=4) ym.nd rfl (Or.inl rfl) (bZ af))
   (ah (DL (i:=5) (tb:=fun E=>IE (o8 (uS M7 (cq 1) (tC (.int 0)))) (xi (qF CB "way" (w6 K C CB CT) [] E (cq 0) (ci (cq 2) (ci (cq 3) gD))) (cA 4)) (xi (Qw (o8 (uS M7 (cq 1) (tC (.int 1)))) (qF CB "phase" (pT K C CB CE) [] E (cq 0) (ci (cq 2) (ci (cq 3) gD))) (qF CB "wish" (w9 K C CB CE) [] E (cq 0) (ci (cq 2) (ci (cq 3) gD)))) (cA 4))) (th:=fun p'=>xi (uS Ja (vf ((A.deeper (PyProof.Rows.envOfC "_law_told" (aj Mu) s.heap.objs.size f bX)).mark (some (.ref p'))) (DN K c) [] E0 (ci (cq 5) gD)) (Fx (ci (Nb (Jq K) (ci (cq 5) (ci (tC (.ty "ValueError")) gD))) gD))) (cA 4)) R.KT.ok rfl R.KT.at_ rfl rfl ym.nd rfl rfl
      (fun E U9 xe hx=>?tb)
      ?hh)
   (ai (aG (pv 4)))),?_⟩
  case tb=>exact ai (bq (aR ng (pv 1) au (a7 _)) (ai (aM (i:=4) ym.nd rfl (Or.inl rfl) (oa (pv 0) TB.cl mY GY hr bY .nil hx (aa (pv 2) (aa (pv 3) af))))) (ai (aM (i:=4) ym.nd rfl (Or.inl rfl) (jJ (aR ng (pv 1) au (a7 _)) (oa (pv 0) TB.cl mP GP h6 bP .nil hx (aa (pv 2) (aa (pv 3) af))) (oa (pv 0) TB.cl mW GW hr bW .nil hx (aa (pv 2) (aa (pv 3) af)))))))
  case hh=>exact fun U9 p'=>ai (aM (i:=4) ym.nd rfl (Or.inl rfl) (aV vb (Cu KD ⟨h1.dp,h1.un⟩ nA (aa (pv 5) af)) (bZ (aa (az eK (by rfl) B.qU cW (aa (pv 5) (aa (fX (v:=.ty "ValueError") rfl B.Oe KR rfl) af))) af))))
  refine⟨by show 0<=sizeLine;decide,fun l0 Nm=>?_⟩;have s0:=am (o:=.lst []) Nm;have Mw:=BA.same s0;have O7:rB K (upd H l0 (.lst [])) x o:=fun H' s'=>wx H' (s0.trans s');have O8:rB K (upd H l0 (.lst [])) y o':=fun H' s'=>wy H' (s0.trans s');obtain⟨dx,pn,sr,hb,N,rf⟩:=Mw.ob;generalize upd H l0 (.lst [])=H0 at *;refine⟨fun σ' C' a H'=>σ'=[some (.ref b),some (.int (way:Int)),some x,some y,some (.ref l0),none]/\(C'=.ref CT/\way=0\/C'=.ref CE/\way≠0)/\aB H H'/\RY ns way o o',⟨?_,?_⟩⟩
  .refine⟨_,rfl,rfl,_,rfl,nu (fun e=>?_) (fun e=>?_)⟩
   .obtain rfl:way=0:=by have:=fj e;injection this with z;lia
    refine⟨_,rfl,b,dx,_,rfl,hb,G7,_,rfl,_,rfl,L,b,ns,x,y,o,o',rfl,Mw,O7,O8,fun ha H' s'=>⟨rfl,.inl ⟨rfl,rfl⟩,s0.trans s',.inl ⟨rfl,ha⟩⟩,fun h g hh hg e1 e2 ha H' s'=>⟨_,rfl,?_⟩⟩;exact k2 h g hh hg e1 e2 (fun _=>ha) H' (s0.trans s')
   .have n0:way≠0:=fun z=>e (by rw[z];exact bj rfl);refine⟨_,rfl,rfl,_,rfl,nu (fun e1=>?_) (fun e1=>?_)⟩
    .obtain rfl:way=1:=by have:=fj e1;injection this with z;lia
     refine⟨_,rfl,b,dx,_,rfl,hb,n9,_,rfl,_,rfl,L,b,ns,x,y,o,o',rfl,Mw,O7,O8,fun ha H' s'=>⟨rfl,.inr ⟨rfl,n0⟩,s0.trans s',.inr ⟨n0,ha⟩⟩,fun h g hh hg e1 e2 H' s'=>⟨_,rfl,?_⟩⟩;exact k2 h g hh hg e1 e2 (fun z=>absurd z n0) H' (s0.trans s')
    .obtain rfl:way=2:=by
      have:way≠1:=fun z=>e1 (by rw[z];exact bj rfl);lia
     refine⟨_,rfl,b,dx,_,rfl,hb,DO,_,rfl,_,rfl,L,b,ns,x,y,o,o',rfl,Mw,O7,O8,fun ha H' s'=>⟨rfl,.inr ⟨rfl,n0⟩,s0.trans s',.inr ⟨n0,ha⟩⟩,fun h g hh hg e1 e2 H' s'=>⟨_,rfl,?_⟩⟩;exact k2 h g hh hg e1 e2 (fun z=>absurd z n0) H' (s0.trans s')
  .rintro σ' C' H4 ⟨rfl,hC,s4,O9⟩;obtain⟨CC,j,rfl,kd,hj,sb⟩:∃CC j,C'=.ref CC/\Mt K c CC j/\j=(if way=0 then 2 else 4)/\PySem.W.subIn K (.ref CC) (.ref cB)=some true:=by
    rcases hC with ⟨rfl,z⟩|⟨rfl,z⟩
    .exact⟨CT,2,rfl,R.tie,by rw[ak z],R.st⟩
    .exact⟨CE,4,rfl,R.house,by rw[al z],R.sh⟩
   refine⟨sb,⟨_,rfl⟩,fun px U_=>?_⟩;have s5:=am (o:=qE px (.ref CC)) U_;refine⟨_,rfl,.inr ⟨px,_,rfl,ag⟩,px,CC,j,rfl,kd,ag,fun r H6 s6 AC=>?_⟩;refine⟨_,rfl,_,_,_,.ref CC,true,rfl,⟨rfl,kd.kv⟩,.exc kd.ok (s6 _ _ ag),by show 1<=sizeLine;decide,fun l hl=>?_⟩;refine⟨r,l,_,_,rfl,rfl,(am hl) _ _ AC,ag,by show 2<=sizeLine;decide,fun l2 Jb=>⟨_,rfl,?_⟩⟩;refine k1 O9 l2 _ ((((s4.trans s5).trans s6).trans (am hl)).trans (am Jb)) ?_;rw[ag,<-hj];rfl
end
end oI
namespace L2
open PySem PySem.Spec PyProof.Rows
theorem vU{X:Cx}{f:_}{r1 r2:R2}(h1:iQ X f r1)(h2:iQ X f r2):iQ X f (fun x y H Q=>r1 x y H Q\/r2 x y H Q):=fun ae s σ H x y v u Q I rx ry h=>h.elim (h1 ae s σ H x y v u Q I rx ry) (h2 ae s σ H x y v u Q I rx ry)
theorem DQ{X:Cx}{d:Nat}(hu:X.A.units+(d+1)<cLine):iQ X (compareOp .Eq) (ES X false d):=by
 intro ae s σ H x y v u Q I rx ry h;obtain⟨p,q,xs,ys,rfl,rfl,hp,hq,hl,he,k⟩:=h;obtain rfl:v=Value.ref p:=rx;obtain rfl:u=Value.ref q:=ry;obtain⟨us,r1,p1,_⟩:=I.list hp;obtain⟨vs,r2,p2,_⟩:=I.list hq;refine SeqAt.eq_listAt (e:=fun _=>true) p1.isList p2.isList (by simp only[ce];rw[<-r1.length,<-r2.length];exact hl) (by lia) (pQ I (by show X.A.units+1+d<cLine;lia) r1 r2 he) ⟨.bl _,H,I,rfl,?_⟩;rw[sO];exact k
end L2
namespace oI
open PySem L2 iT
abbrev A5:Stmt:=fg 56
abbrev O_:Stmt:=fg 58
theorem A6{X:Cx}{H:Hp}{x:V}(h:h_ x=true)(e:zG x x=true):Kj X H 0 x x:=by
 intro ae s σ A u v I hu rx ry;have q:=u_ (A:=A) (s:=s) rx ry h h;rw[e] at q;exact q
theorem j7{X:Cx}{H:Hp}{j:Int}:∀i,i<[V.int j,.bl true].length->i<[V.int j,.bl true].length->Kj X H 0 ([V.int j,.bl true].getD i .bt) ([V.int j,.bl true].getD i .bt)
 |0,_,_=>Dp
 |1,_,_=>A6 rfl rfl
 |n+2,h,_=>absurd h (by show ¬ n+2<2;lia)
def ln(p:Addr)(m:Nat)(H:Hp)(x:V):Prop:=(∃i:Int,x=.int i/\(i<0\/(m:Int)<=i))\/x=.bt\/(∃b,x=.bl b)\/(∃z,x=.str z)\/∃a ob,x=.ref a/\a≠p/\H a=some ob/\((∃xs,ob=.tup xs)\/∃xs,ob=.lst xs)
theorem ln.cM{p:Addr}{m:Nat}{H H':Hp}{x:V}(h:ln p m H x)(s:bz p H H'):ln p m H' x:=by
 rcases h with h|h|h|h|⟨a,ob,e,n,g,z⟩
 .exact .inl h
 .exact .inr (.inl h)
 .exact .inr (.inr (.inl h))
 .exact .inr (.inr (.inr (.inl h)))
 .exact .inr (.inr (.inr (.inr ⟨a,ob,e,n,s _ _ g n,z⟩)))
inductive Ox where
 |bt|bl (b:Bool)|neg (i:Int)|str (s:Str)|tupI (i:Int)|DS (i:Int)
def KW:Expr->Option Ox
 |.Constant .none _ _=>some .bt
 |.Constant (.bool b) _ _=>some (.bl b)
 |.Constant (.str s) _ _=>some (.str s)
 |.UnaryOp .USub (.Constant (.int i) _ _) _=>some (.neg i)
 |.Tuple [.Constant (.int i) _ _] _ _=>some (.tupI i)
 |.List [.Constant (.int i) _ _] _=>some (.DS i)
 |_=>none
def DT:List Expr->Option (List Ox)
 |[]=>some []
 |e::es=>(KW e).bind fun o=>(DT es).map (o::·)
def Pa:Ox->TE
 |.bt=>tC .bt
 |.bl b=>tC (.bl b)
 |.neg i=>M5 (rU fun i=>.int (-i)) (tC (.int i))
 |.str s=>tC (.str s)
 |.tupI i=>Fw (ci (tC (.int i)) gD)
 |.DS i=>Fx (ci (tC (.int i)) gD)
def G8:List Ox->TA->TA
 |[],t=>t
 |o::os,t=>ci (Pa o) (G8 os t)
theorem DU{X:Cx}{e:Expr}{es:List Expr}{o:Ox}(h:KW e=some o):starEach (e::es) X.env=(false,eval e X.env)::starEach es X.env:=by
 unfold KW at h;split at h;all_goals first|rfl|cases h
theorem KY{X:Cx}{e:Expr}{o:Ox}(h:KW e=some o):PE X e (Pa o):=by
 unfold KW at h;split at h;all_goals first|(cases h;done)|(cases h;first|exact dW|exact eS|exact kG|exact(o6 kP au:PE X _ (M5 (rU fun i=>V.int (-i)) (tC (V.int _))))|exact hV (aa au af)|exact bZ (aa au af))
theorem E2{X:Cx}:∀ {es:List Expr} {os:List Ox} {r:List Expr} {t:TA},DT es=some os->PA X r t->PA X (es++r) (G8 os t)
 |[],os,r,t,h,hr=>by cases h;exact hr
 |e::es,os,r,t,h,hr=>by
  unfold DT at h;obtain⟨o,h1,h2⟩:=Option.bind_eq_some_iff.mp h;obtain⟨Qz,h3,rfl⟩:=Option.map_eq_some_iff.mp h2;exact aa (KY h1) (E2 h3 hr) (DU h1)
def Pb:Ox->Bool
 |.neg i=>decide (0<i)
 |_=>true
theorem Pc{p:Addr}{m:Nat}{σ:St}:∀ {o:Ox} {H:Hp} {Q:V->Hp->Prop},Pb o=true->H p≠none->(∀v H',aB H H'->ln p m H' v->Q v H')->Pa o σ H Q
 |.bt,H,Q,_,hp,k=>k _ _ (aB.refl _) (.inr (.inl rfl))
 |.bl b,H,Q,_,hp,k=>k _ _ (aB.refl _) (.inr (.inr (.inl ⟨_,rfl⟩)))
 |.neg i,H,Q,h,hp,k=>⟨i,rfl,k _ _ (aB.refl _) (.inl ⟨_,rfl,.inl (by have:0<i:=fj h;lia)⟩)⟩
 |.str s,H,Q,_,hp,k=>k _ _ (aB.refl _) (.inr (.inr (.inr (.inl ⟨_,rfl⟩))))
 |.tupI i,H,Q,_,hp,k=>⟨by show 1<=sizeLine;decide,fun a ha=>k _ _ (am ha) (.inr (.inr (.inr (.inr ⟨a,_,rfl,(fun e=>by rw[e] at ha;exact hp ha),ag,.inl ⟨_,rfl⟩⟩))))⟩
 |.DS i,H,Q,_,hp,k=>⟨by show 1<=sizeLine;decide,fun a ha=>k _ _ (am ha) (.inr (.inr (.inr (.inr ⟨a,_,rfl,(fun e=>by rw[e] at ha;exact hp ha),ag,.inr ⟨_,rfl⟩⟩))))⟩
theorem E3{p:Addr}{m:Nat}{σ:St}{t:TA}:∀ {os:List Ox} {H:Hp} {Q:List V->Hp->Prop},(∀o∈os,Pb o=true)->H p≠none->(∀vs H',aB H H'->vs.length=os.length->(∀v∈vs,ln p m H' v)->t σ H' fun xs H2=>Q (vs++xs) H2)->G8 os t σ H Q
 |[],H,Q,_,hp,k=>k [] H (aB.refl _) rfl fun v hv=>(nomatch hv)
 |o::os,H,Q,h,hp,k=>by
  refine Pc (m:=m) (h o b9) hp fun v H' s sh=>?_;refine E3 (p:=p) (m:=m) (os:=os) (fun o' ho=>h o' (bD _ ho)) (fun z=>?_) fun vs H2 s2 hl hv=>?_
  .cases e:H p with
   |none=>exact hp e
   |some u=>rw[s _ _ e] at z;cases z
  refine k (v::vs) H2 (s.trans s2) (congrArg (·+1) hl) fun x hx=>?_;rcases a_.mp hx with rfl|hx
  .exact sh.cM (bz.of s2)
  .exact hv x hx
abbrev bo(i:Nat):Stmt:=(aY A5).getD i (.Pass ⟨0,0,0,0⟩)
def KZ:Stmt->List Expr
 |.Assign _ (.List es _) _=>es
 |_=>[]
def oE(i:Nat):Expr:=(KZ (bo 0)).getD i (.Name "x" ⟨0,0,0,0⟩)
theorem A7:∃es os q1 q2 q3,aY A5=[.Assign [.Name "_law_some" q1] (.List (es++[oE 7,oE 8,oE 9]) q2) q3,bo 1]/\DT es=some os/\(∀o∈os,Pb o=true)/\os.length=7:=
 ⟨(KZ (bo 0)).take 7,[.bt,.bl true,.bl false,.str "0",.tupI 0,.DS 0,.neg 1],_,_,_,rfl,by kernel_rfl,by decide +kernel,rfl⟩
theorem eD{K:PySem.W.Frag}{H:Hp}{i:Int}:rB K H (.int i) (some i):=fun _ _=>.int i
theorem ln.wh{K:PySem.W.Frag}{p:Addr}{m:Nat}{H:Hp}{x:V}(h:ln p m H x):∃o,aI o 0 ((m:Int)-1)=false/\rB K H x o:=by
 rcases h with ⟨i,rfl,h⟩|rfl|⟨b,rfl⟩|⟨z,rfl⟩|⟨a,ob,rfl,n,g,⟨xs,rfl⟩|⟨xs,rfl⟩⟩
 .refine⟨some i,?_,eD⟩;unfold aI;simp;lia
 .exact⟨none,rfl,fun H' s=>.no ⟨_,.of .bt,.inl (by kernel_rfl)⟩⟩
 .exact⟨none,rfl,fun H' s=>.no ⟨_,.of (.bl b),.inr ⟨by kernel_rfl,by kernel_rfl⟩⟩⟩
 .exact⟨none,rfl,fun H' s=>.no ⟨_,.of (.str z),.inl (by kernel_rfl)⟩⟩
 .exact⟨none,rfl,fun H' s=>.no ⟨_,.of (.tup (s _ _ g)),.inl (by kernel_rfl)⟩⟩
 .exact⟨none,rfl,fun H' s=>.no ⟨_,.of (.lst (s _ _ g)),.inl (by kernel_rfl)⟩⟩
theorem G9{ns:List Nat}{h g:Nat}(BX:Bx ns)(hh:h<pr ns)(hg:g<pr ns):yi ns (some (h:Int)) (some (g:Int))=true↔∃k,BJ ns h g k:=by
 rw[<-Dw BX.pos hh hg];unfold yi;rw[bN hh,bN hg];show decide _=true↔_;rw[uc];exact Iff.rfl
theorem K0{o:Option Nat}:Fu (oV o) (oV o)=true:=by cases o <;> rfl
section
variable {P:Program} {w:World} {K:PySem.W.Frag} {mg:Str->Option Value} {base:Heap}
theorem E4:aw ["_law_pot_here","_law_many_here","_law_some"] ["_law_pot_here","_law_many_here"] (aj A5):=⟨rfl,rfl,rfl,by decide +kernel,rfl,by decide +kernel,by decide +kernel⟩
def A8:Sp:=fun vs H Q _=>∃ (p:Addr) (m:Nat),vs=[.ref p,.int m]/\cp H p/\∀ (x:V) (H':Hp),bz p H H'->cp H' p->ln p m H' x->Q x H'
theorem G_{f:Addr}{fd:FuncData}(F:dE K "_law_odd" "_law_odd" A5 f fd)(B:Bl mg)(D:ck P w K mg base aZ 1 "_law_draw" ["_law_pot_here","_law_many_here"] A1):aU P w K mg base aZ 2 f fd ["_law_pot_here","_law_many_here"] A8:=by
 refine F.ok E4 (fun vs H Q E h=>?_) (fun bX A outer s H vs Q E hr h=>?_)
 .obtain⟨p,m,rfl,_⟩:=h;rfl
 .obtain⟨p,m,rfl,hp,q⟩:=h;have h1:bh 1 _:=hr.mono (by decide);obtain⟨es,os,q1,q2,q3,eb,Ny,yx,ol⟩:=A7;rw[eb];refine⟨_,(ah (aM (i:=2) E4.nd rfl (Or.inl rfl) (bZ (E2 Ny (aa (e:=oE 7) (pv 1) (aa (e:=oE 8) (aV dX (pv 1) (av D h1 aF (aa (pv 0) (aa (aV uT au au) af)))) (aa (e:=oE 9) (aV kN (o6 kP au) (av D h1 aF (aa (pv 0) (aa au af)))) af))))))
   (ai (aG (bu bi (pv 2) (av D h1 aF (aa (pv 0) (aa (az aQ (by rfl) B.len eF (aa (pv 2) af)) af))) (fun _ _=>rfl))))),?_⟩
  refine E3 (p:=p) (m:=m) yx hp.full fun vs H2 s2 vl Va=>?_;have p2:=hp.same s2;refine⟨_,rfl,_,rfl,_,rfl,_,_,rfl,rfl,⟨by decide,by decide,by decide⟩,p,10 ^ 30,?_,by decide,by decide +kernel,p2,fun d1 H3 QN s3 p3=>?_⟩
  .rw[show ((10 ^ 30:Nat):Int)=(10:Int) ^ Int.toNat 30 by decide +kernel];rfl
  refine⟨_,_,rfl,rfl,_,rfl,_,rfl,p,99,rfl,by decide,by decide +kernel,p3,fun d2 H4 V0 s4 p4=>⟨_,_,rfl,rfl,?_,fun D hD=>?_⟩⟩
  .rw[gK,vl,ol];show 10<=sizeLine;decide
  have Vb:=(bz.of s2).trans (s3.trans s4);have hv:∀v∈vs++[V.int (m:Int),.int ((m:Int)+(d1:Int)),.int (-2-(d2:Int))],ln p m H4 v:=by
   intro v hv;rcases cJ.mp hv with z|z
   .exact(Va v z).cM (s3.trans s4)
   .simp only[a_,jD,fS] at z;rcases z with rfl|rfl|rfl
    .exact .inl ⟨_,rfl,.inr (by lia)⟩
    .exact .inl ⟨_,rfl,.inr (by lia)⟩
    .exact .inl ⟨_,rfl,.inl (by lia)⟩
  have wl:(vs++[V.int (m:Int),.int ((m:Int)+(d1:Int)),.int (-2-(d2:Int))]).length=10:=by rw[gK,vl,ol];rfl
  change cA 2 (V.ref D) _ (upd H4 D (.lst (vs++[V.int (m:Int),.int ((m:Int)+(d1:Int)),.int (-2-(d2:Int))]))) _;generalize vs++[V.int (m:Int),.int ((m:Int)+(d1:Int)),.int (-2-(d2:Int))]=us at *;have sD:=am (o:=.lst us) hD;have nD:=p4.ne hD;refine⟨_,rfl,_,rfl,_,rfl,D,_,rfl,.inl (bg.of ag),p,10,by rw[wl];rfl,by decide,by decide +kernel,p4.same sD,fun d H5 hd s5 p5=>?_⟩;have Eg:d<us.length:=by rw[wl];exact hd
  exact⟨D,_,_,us[d],rfl,rfl,bg.of (s5 _ _ ag nD),aO (cV Eg),q _ H5 ((Vb.trans (bz.of sD)).trans s5) p5 (((hv _ (jE Eg)).cM (bz.of sD)).cM s5)⟩
theorem Pd:aw ["_law_box","_law_sides_here","_law_one","_law_other"] ["_law_box","_law_sides_here","_law_one","_law_other"] (aj O_):=⟨rfl,rfl,rfl,by decide +kernel,rfl,by decide +kernel,by decide +kernel⟩
def Ha(C CB:Addr):Sp:=fun vs H Q _=>∃ (L:Addr->Prop) (b a:Addr) (ns:List Nat) (h g:Nat),vs=[.ref b,.ref a,.int h,.int g]/\eM C CB H L b ns/\H a=some (.tup (NV ns))/\h<pr ns/\g<pr ns/\∀H',aB H H'->Q (.bl true) H'
theorem K1{f C CB:Addr}{fd:FuncData}(F:dE K "_law_right" "_law_right" O_ f fd)(TO:ck P w K mg base aZ 8 "_law_told" ["_law_box","_law_way_here","_law_one","_law_other"] (DP K C CB))(WA:ck P w K mg base aZ 4 "_law_way" ["_law_sides_here","_law_one","_law_other"] G6)(PH:ck P w K mg base aZ 2 "_law_phase" ["_law_sides_here","_law_house","_law_home"] DK)(WI:ck P w K mg base aZ 3 "_law_wish" ["_law_sides_here","_law_house","_law_home"] G5):aU P w K mg base aZ 9 f fd ["_law_box","_law_sides_here","_law_one","_law_other"] (Ha C CB):=by
 refine F.ok Pd (fun vs H Q E h=>?_) (fun bX A outer s H vs Q E hr h=>?_)
 .obtain⟨L,b,a,ns,h,g,rfl,_⟩:=h;rfl
 .obtain⟨L,b,a,ns,h,g,rfl,BA,ha,hh,hg,q⟩:=h;have h4:bh 4 _:=hr.mono (by decide);have h2:bh 2 _:=hr.mono (by decide);have h3:bh 3 _:=hr.mono (by decide);have BX:=BA.bx;have AI:=G9 BX hh hg;refine⟨_,(ah (bq (aR (vU nh (j4 (d:=0) hr.u)) (av TO hr aF (aa (pv 0) (aa au (aa (pv 2) (aa (pv 3) af))))) (av WA h4 aF (aa (pv 1) (aa (pv 2) (aa (pv 3) af)))) (a7 _)) (ai (aG eS)) aN)
   (ah (bq (aR (vU nh (j4 (d:=0) hr.u)) (av TO hr aF (aa (pv 0) (aa au (aa (pv 2) (aa (pv 3) af))))) (av PH h2 aF (aa (pv 1) (aa (pv 2) (aa (pv 3) af)))) (a7 _)) (ai (aG eS)) aN)
   (ai (aG (iD (vU ng (DQ (d:=0) hr.u)) (av TO hr aF (aa (pv 0) (aa au (aa (pv 2) (aa (pv 3) af))))) (av WI h3 aF (aa (pv 1) (aa (pv 2) (aa (pv 3) af)))) (a7 _)))))),?_⟩
  refine fE (fun σ H1=>aB H H1/\σ=[some (.ref b),some (.ref a),some (.int (h:Int)),some (.int (g:Int))]) ?_ ?_
  rotate_left
  .intro N hN;refine⟨_,rfl,_,rfl,_,rfl,L,b,ns,0,_,_,_,_,rfl,by decide,BA,eD,eD,fun bd r1 H1 s1 yc=>?_,fun h' g' _ _ e1 e2 z H1 s1=>?_⟩
   .have nt:∀k,¬ BJ ns h g k:=fun k t=>by
     rcases bd with ⟨_,y⟩|⟨y,_⟩
     .rw[AI.mpr ⟨k,t⟩] at y;cases y
     .exact y rfl
    refine⟨_,rfl,_,rfl,_,rfl,a,ns,h,g,rfl,s1 _ _ ha,BX,fun k t=>absurd t (nt k),fun _ r2 H2 s2 BH=>.inr ⟨r1,r2,_,_,rfl,rfl,bg.of (s2 _ _ yc),bg.of BH,rfl,j7,_,rfl,fG rfl (hN _ _ ⟨s1.trans s2,rfl⟩)⟩⟩
   .obtain rfl:h=h':=eh (bA e1);obtain rfl:g=g':=eh (bA e2);obtain⟨k0,t0⟩:=AI.mp (z rfl);refine⟨_,rfl,_,rfl,_,rfl,a,ns,h,g,rfl,s1 _ _ ha,BX,fun k t H2 s2=>.inl ?_,fun nt=>absurd t0 (nt k0)⟩;have e:oV (Mv ns 0 h g)=.int (k:Int):=by
     show oV (lM ns h g)=_;rw[Km t];rfl
    rw[e];exact⟨rfl,_,rfl,fG (by rw[bj rfl];rfl) (hN _ _ ⟨s1.trans s2,rfl⟩)⟩
  rintro σ H1 ⟨s1,rfl⟩;refine fE (fun σ H1=>aB H H1/\σ=[some (.ref b),some (.ref a),some (.int (h:Int)),some (.int (g:Int))]) ?_ ?_
  rotate_left
  .intro N hN;refine⟨_,rfl,_,rfl,_,rfl,L,b,ns,1,_,_,_,_,rfl,by decide,BA.same s1,eD,eD,fun bd=>?_,fun h' g' _ _ e1 e2 z H2 s2=>?_⟩
   .rcases bd with ⟨y,_⟩|⟨_,y|y⟩
    .exact absurd y (by decide)
    .rw[bN hh] at y;cases y
    .rw[bN hg] at y;cases y
   .obtain rfl:h=h':=eh (bA e1);obtain rfl:g=g':=eh (bA e2);refine⟨_,rfl,_,rfl,_,rfl,a,ns,h,g,rfl,(s1.trans s2) _ _ ha,BX,fun H3 s3=>.inl ⟨K0,_,rfl,fG (by rw[show Mv ns 1 h g=lM ns h g from rfl,bj rfl];rfl) (hN _ _ ⟨(s1.trans s2).trans s3,rfl⟩)⟩⟩
  clear s1 H1;rintro σ H1 ⟨s1,rfl⟩;refine⟨_,rfl,_,rfl,_,rfl,L,b,ns,2,_,_,_,_,rfl,by decide,BA.same s1,eD,eD,fun bd=>?_,fun h' g' _ _ e1 e2 z H2 s2=>?_⟩
  .rcases bd with ⟨y,_⟩|⟨_,y|y⟩
   .exact absurd y (by decide)
   .rw[bN hh] at y;cases y
   .rw[bN hg] at y;cases y
  .obtain rfl:h=h':=eh (bA e1);obtain rfl:g=g':=eh (bA e2);refine⟨_,rfl,_,rfl,_,rfl,a,ns,h,g,rfl,(s1.trans s2) _ _ ha,BX,fun H3 s3=>.inl ⟨K0,?_⟩⟩;rw[show Mv ns 2 h g=BK ns h g from rfl,bj rfl];exact q _ ((s1.trans s2).trans s3)
end
abbrev vV:Stmt:=fg 59
theorem Hb{ns:List Nat}(B:Bx ns):2<=pr ns:=by
 have h1:=B.l1;have hs:=B.sd;have hp:=B.pos;cases ns with
 |nil=>exact absurd h1 (by decide)
 |cons n l=>
  have a:=(hs n b9).1;have b:=GC (ns:=l) fun x hx=>hp x (bD _ hx);show 2<=n*pr l;exact bb (show 2<=n*1 by lia) (ke n b)
theorem Hd{ns:List Nat}{h y k:Nat}(BX:Bx ns)(F:iU (pr ns) (tm ns))(hh:h<pr ns)(hk:k<ns.length)(t:BJ ns h y k):y<pr ns:=by
 rcases t with t|t
 .have m:((h:Int),(y:Int))∈tm ns:=dG.mpr (.inl (a8.mpr ⟨(h,y),ll.mpr ⟨hh,(yh BX.pos).mpr ⟨k,t⟩⟩,rfl⟩));have:=(F.rg _ m).2.2;exact Int.ofNat_lt.mp this
 .have:=((vP BX.pos hk).mp t).2;lia
theorem _root_.L2.jW.kE{lp:Pos}{q:Str}{p Pt:Addr}{H H':Hp}(t:jW lp q Pt H)(s:bz p H H')(hp:cp H p):jW lp q Pt H':=by
 obtain⟨a,b,e,_⟩:=hp;rcases t with z|⟨c,z,y⟩
 .exact .inl (s _ _ z (by rintro rfl;rw[z] at e;cases e))
 .exact .inr ⟨c,s _ _ z (by rintro rfl;rw[z] at e;cases e),s _ _ y (by rintro rfl;rw[y] at e;cases e)⟩
theorem _root_.L2.jW.sm{lp:Pos}{q:Str}{Pt:Addr}{H H':Hp}(t:jW lp q Pt H)(s:aB H H'):jW lp q Pt H':=by
 rcases t with z|⟨c,z,y⟩
 .exact .inl (s _ _ z)
 .exact .inr ⟨c,s _ _ z,s _ _ y⟩
theorem eM.cM{C CB b p:Addr}{H H':Hp}{L:Addr->Prop}{ns:List Nat}(h:eM C CB H L b ns)(s:bz p H H')(hp:cp H p)(nL:¬ L p):eM C CB H' L b ns:=by
 obtain⟨dx,pn,sr,hb,N,rf⟩:=h.ob;obtain⟨x,y,e,_⟩:=hp;refine⟨h.bx,dx,pn,sr,s _ _ hb (by rintro rfl;rw[hb] at e;cases e),N.keep (fun c o l z=>s _ _ z (by rintro rfl;exact nL l)) (fun o z=>s _ _ z ?_),s _ _ rf (by rintro rfl;rw[rf] at e;cases e)⟩;obtain⟨_,_,_,_,g,_⟩:=N.ob;rintro rfl;rw[g] at e;cases e
section
variable {P:Program} {w:World} {K:PySem.W.Frag} {mg:Str->Option Value} {base:Heap}
def yC(K:PySem.W.Frag)(H:Hp)(a:Addr)(xs:List V):Prop:=(∃o,H a=some (.o3 o (.lst xs)))\/(∀H':Hp,bg K H' a xs)
theorem yC.seq{H:Hp}{a:Addr}{xs:List V}(h:yC K H a xs):bg K H a xs:=by
 rcases h with ⟨o,h⟩|h
 .exact .inl (.inr ⟨o,h⟩)
 .exact h H
theorem yC.mono{H H':Hp}{a:Addr}{xs:List V}(h:yC K H a xs)(e:∀o u,H a=some (.o3 o u)->H' a=some (.o3 o u)):yC K H' a xs:=by
 rcases h with ⟨o,h⟩|h
 .exact .inl ⟨o,e _ _ h⟩
 .exact .inr h
theorem yC.cM{H H':Hp}{a p:Addr}{xs:List V}(h:yC K H a xs)(s:bz p H H')(hp:cp H p):yC K H' a xs:=by
 obtain⟨x,y,e,_⟩:=hp;exact h.mono fun o u z=>s _ _ z (by rintro rfl;rw[z] at e;cases e)
structure Cs(K:PySem.W.Frag)(C CB Pt:Addr)(L:Addr->Prop)(a p bx sd:Addr)(xs:List V)(ns:List Nat)(H:Hp):Prop where
 RZ:yC K H a xs
 Il:cp H p
 box:eM C CB H L bx ns
 nl:¬ L p
 hd:H sd=some (.tup (NV ns))
 tp:jA Pt H
theorem Cs.cM{C CB Pt a p bx sd:Addr}{L:Addr->Prop}{xs:List V}{ns:List Nat}{H H':Hp}(c:Cs K C CB Pt L a p bx sd xs ns H)(s:bz p H H')(hp:cp H' p):Cs K C CB Pt L a p bx sd xs ns H':=
 ⟨c.RZ.cM s c.Il,hp,c.box.cM s c.Il c.nl,c.nl,s _ _ c.hd (c.Il.neT c.hd),c.tp.kE s c.Il⟩
theorem Cs.same{C CB Pt a p bx sd:Addr}{L:Addr->Prop}{xs:List V}{ns:List Nat}{H H':Hp}(c:Cs K C CB Pt L a p bx sd xs ns H)(s:aB H H'):Cs K C CB Pt L a p bx sd xs ns H':=c.cM (bz.of s) (c.Il.same s)
theorem gy:aw ["_law_script","_law_k","_law_pot_here","_law_sides_here","_law_box","_law_many_here","_law_turn","_law_odd_here","_law_one","_law_other","_law_way_here","_law_tie","_law_pair"] ["_law_script"] (aj vV):=⟨rfl,rfl,rfl,by decide +kernel,rfl,by decide +kernel,by decide +kernel⟩
def w_(K:PySem.W.Frag)(Pt:Addr):Sp:=fun vs H Q _=>∃ (a:Addr) (ns:List Int),vs=[.ref a]/\yC K H a (ns.map V.int)/\ns.length<=63/\jA Pt H/\∀H',Q (.bl true) H'
theorem He{f C CB Pt fB:Addr}{fd R0:FuncData}(F:dE K "law" "law" vV f fd)(B:Bl mg)(TB:Dz K mg CB)(MB:Mk K CB fB)(bB:dN K R0 ["self","sides"] [])(GB:aU P w K mg base aZ 11 fB R0 ["self","sides"] (AR C CB Pt))(PT:ck P w K mg base aZ 1 "_law_pot" ["_law_script","_law_k"] (A0 K))(DR:ck P w K mg base aZ 1 "_law_draw" ["_law_pot_here","_law_many_here"] A1)(SI:ck P w K mg base aZ 2 "_law_sides" ["_law_pot_here"] G0)(MA:ck P w K mg base aZ 1 "_law_many" ["_law_sides_here"] A3)(TI:ck P w K mg base aZ 3 "_law_ties" ["_law_sides_here","_law_house","_law_k"] DJ)(OD:ck P w K mg base aZ 2 "_law_odd" ["_law_pot_here","_law_many_here"] A8)(TO:ck P w K mg base aZ 8 "_law_told" ["_law_box","_law_way_here","_law_one","_law_other"] (DP K C CB))(RT:ck P w K mg base aZ 9 "_law_right" ["_law_box","_law_sides_here","_law_one","_law_other"] (Ha C CB)):
  aU P w K mg base aZ 13 f fd ["_law_script"] (w_ K Pt):=by
 refine F.ok gy (fun vs H Q E h=>?_) (fun bX A outer s H vs Q E hr h=>?_)
 .obtain⟨a,ns,rfl,_⟩:=h;rfl
 .obtain⟨a,yD,rfl,hS,vv,tb,q⟩:=h;have h1:bh 1 _:=hr.mono (by decide);have h2:bh 2 _:=hr.mono (by decide);have h3:bh 3 _:=hr.mono (by decide);have h8:bh 8 _:=hr.mono (by decide);have h9:bh 9 _:=hr.mono (by decide);refine⟨_,(ah (cg dh rfl (bK rfl B.range (aa (az (o9 rfl) (by rfl) B.max PyProof.Rows.boot_max (aa au (aa (az (o_ rfl) (by rfl) B.min PyProof.Rows.boot_min (aa (az aQ (by rfl) B.len eF (aa (pv 0) af)) (aa au af))) af))) af)) (aH (i:=1) gy.nd rfl (Or.inl rfl)) (ah (aM (i:=2) gy.nd rfl (Or.inl rfl) (av PT h1 aF (aa (pv 0) (aa (pv 1) af)))) (ah (aM (i:=3) gy.nd rfl (Or.inl rfl) (av SI h2 aF (aa (pv 2) af))) (ah (aM (i:=4) gy.nd rfl (Or.inl rfl) (v9 MB GB hr rfl TB.Of bB .nil aF (aa (pv 3) af))) (ah (aM (i:=5) gy.nd rfl (Or.inl rfl) (av MA h1 aF (aa (pv 3) af))) (ai (cg dh rfl (bK rfl B.range (aa au af)) (aH (i:=6) gy.nd rfl (Or.inl rfl)) (ah (aM (i:=7) gy.nd rfl (Or.inl rfl) (av OD h2 aF (aa (pv 2) (aa (pv 5) af)))) (ah (Fn (i:=8) (j:=9) rfl gy.nd rfl rfl (by decide) rfl rfl (aa (av DR h1 aF (aa (pv 2) (aa (pv 5) af))) (aa (av DR h1 aF (aa (pv 2) (aa (pv 5) af))) af)) (by rfl)) (ah (bq (PW.pt (yV (cz (cr (av RT h9 aF (aa (pv 4) (aa (pv 3) (aa (pv 8) (aa (pv 9) af))))))) (uK (cz (cr (av RT h9 aF (aa (pv 4) (aa (pv 3) (aa (pv 8) (aa (pv 8) af)))))))))) (ai (aG eS)) aN) (ah (cg dh rfl (bK rfl B.range (aa (az aQ (by rfl) B.len eF (aa (pv 3) af)) af)) (aH (i:=10) gy.nd rfl (Or.inl rfl)) (ai (cg dh rfl (cP (av TI h3 aF (aa (pv 3) (aa (pv 8) (aa (pv 10) af))))) (aH (i:=11) gy.nd rfl (Or.inl rfl)) (ai (bq (cz (cr (av RT h9 aF (aa (pv 4) (aa (pv 3) (aa (pv 8) (aa (pv 11) af))))))) (ai (aG eS)) aN))))) (ai (cg dh rfl (cP (bZ (aa (hV (aa (pv 7) (aa (pv 9) af))) (aa (hV (aa (pv 8) (aa (pv 7) af))) (aa (hV (aa (pv 7) (aa (pv 7) af))) af))))) (aH (i:=12) gy.nd rfl (Or.inl rfl)) (ah (bq (aR (j4 (d:=0) hr.u) (av TO h8 aF (aa (pv 4) (aa au (aa (bu d0 (pv 12) au (fun _ _=>rfl)) (aa (bu d0 (pv 12) au (fun _ _=>rfl)) af))))) (bZ (aa au (aa eS af))) (a7 _)) (ai (aG eS)) aN) (ah (bq (aR (j4 (d:=0) hr.u) (av TO h8 aF (aa (pv 4) (aa au (aa (bu d0 (pv 12) au (fun _ _=>rfl)) (aa (bu d0 (pv 12) au (fun _ _=>rfl)) af))))) (bZ (aa au (aa eS af))) (a7 _)) (ai (aG eS)) aN) (ai (bq (aR (j4 (d:=0) hr.u) (av TO h8 aF (aa (pv 4) (aa au (aa (bu d0 (pv 12) au (fun _ _=>rfl)) (aa (bu d0 (pv 12) au (fun _ _=>rfl)) af))))) (bZ (aa au (aa eS af))) (a7 _)) (ai (aG eS)) aN))))))))))))))))) (ai (aG eS))),?_⟩;refine⟨_,rfl,a,_,rfl,.inl hS.seq,_,4,rfl,1,_,rfl,_,rfl,?_⟩;obtain⟨j,hj,j1⟩:∃j:Int,(if (if (4:Int)<(((yD.map V.int).length:Nat):Int) then (4:Int) else (((yD.map V.int).length:Nat):Int)) > 1 then (if (4:Int)<(((yD.map V.int).length:Nat):Int) then (4:Int) else (((yD.map V.int).length:Nat):Int)) else 1)=j/\1<=j/\j<=4:=⟨_,rfl,by split <;> split <;> lia⟩
  rw[hj];refine⟨by lia,by lia,cT (n:=j.toNat) (lo:=0) (fun k σ H2=>(∃x1 x2 x3 x4 x5 x6 x7 x8 x9 y1 y2 y3,σ=[some (.ref a),x1,x2,x3,x4,x5,x6,x7,x8,x9,y1,y2,y3])/\yC K H2 a (yD.map V.int)/\jA Pt H2) ⟨⟨_,_,_,_,_,_,_,_,_,_,_,_,rfl⟩,hS,tb⟩ ?_ (fun σ H2 _=>q H2)⟩;rintro k σ H2 hk ⟨⟨x1,x2,x3,x4,x5,x6,x7,x8,x9,y1,y2,y3,rfl⟩,S2,t2⟩;refine⟨_,rfl,_,rfl,a,yD,k,by rw[eG];rfl,S2.seq,by lia,fun p H3 s3 np p3=>?_⟩;refine⟨_,rfl,p,rfl,p3,fun sd ns H6 s6 p6 Pe BX=>?_⟩;have OO:=BX.OO;have V1:=Hb BX;have S6:=(S2.mono fun o u e=>s3 _ _ e).cM s6 p3;have t6:=(t2.sm s3).kE s6 p3;refine⟨_,rfl,fun bx dx nx OH OI=>?_⟩;have sN:aB H6 (upd (upd H6 dx (.own bx)) bx (.ins CB dx [])):=(am (o:=.own bx) OH).trans (am (D:=bx) (o:=.ins CB dx []) (by rw[ap OI.symm];exact nx));have Vc:(upd (upd H6 dx (.own bx)) bx (.ins CB dx [])) bx=some (.ins CB dx []):=ag;generalize upd (upd H6 dx (.own bx)) bx (.ins CB dx [])=HM at *;refine⟨bx,dx,sd,ns,rfl,Vc,sN _ _ Pe,BX,t6.sm sN,fun H8 BA t8 s8=>⟨rfl,?_⟩⟩;have tN:jA Pt HM:=t6.sm sN;have kp:∀ {c o},H6 c=some o->(∀ps,o≠.mV ps)->H8 c=some o:=fun {c o} e nt=>s8 _ _ (sN _ _ e) (aq e nx) (tN.not (sN _ _ e) nt);have cs:Cs K C CB Pt (fun a=>HM a=none) a p bx sd (yD.map V.int) ns H8:=by
   refine⟨S6.mono fun o u e=>kp e (by intro ps z;cases z),?_,BA,fun z=>?_,kp Pe (by intro ps z;cases z),t8⟩
   .obtain⟨u,v,e,r⟩:=p6;exact⟨u,v,kp e (by intro ps z;cases z),r⟩
   .exact(p6.same sN).full z
  clear kp;refine⟨_,rfl,sd,ns,rfl,cs.hd,(fun x hx=>(BX.sd x hx).2),?_⟩;refine⟨6,rfl,by lia,by lia,cT (n:=6) (lo:=0) (fun _ σ H9=>∃x6 x7 x8 x9 y1 y2 y3,σ=[some (.ref a),some (.int (k:Int)),some (.ref p),some (.ref sd),some (.ref bx),some (.int (pr ns:Nat)),x6,x7,x8,x9,y1,y2,y3]/\Cs K C CB Pt (fun a=>HM a=none) a p bx sd (yD.map V.int) ns H9) ⟨_,_,_,_,_,_,_,by rw[eG];rfl,cs⟩ ?_ ?_⟩
  rotate_left
  .rintro σ H9 ⟨x6,x7,x8,x9,y1,y2,y3,rfl,c9⟩;exact⟨⟨_,_,_,_,_,_,_,_,_,_,_,_,rfl⟩,c9.RZ,c9.tp⟩
  clear cs S6 t6 p6 p3 Pe;rintro i σ H9 hi ⟨x6,x7,x8,x9,y1,y2,y3,rfl,c0⟩;refine⟨_,rfl,_,rfl,p,pr ns,rfl,c0.Il,fun ox H1 s1 p1 Mx=>?_⟩;have c1:=c0.cM s1 p1;refine⟨_,rfl,_,rfl,p,pr ns,rfl,by lia,by lia,p1,fun h H2 hh s2 p2=>⟨_,rfl,_,rfl,p,pr ns,rfl,by lia,by lia,p2,fun g H3 hg s3 p3=>⟨_,_,rfl,?_⟩⟩⟩;have c3:=(c1.cM s2 p2).cM s3 p3;have R1:=(Mx.cM s2).cM s3;clear c1 c0 Mx s1 s2 s3 p1 p2 p3;refine fE (fun σ H9=>σ=[some (.ref a),some (.int (k:Int)),some (.ref p),some (.ref sd),some (.ref bx),some (.int (pr ns:Nat)),some (.int (i:Int)),some ox,some (.int (h:Int)),some (.int (g:Int)),y1,y2,y3]/\Cs K C CB Pt (fun a=>HM a=none) a p bx sd (yD.map V.int) ns H9/\ln p (pr ns) H9 ox) ?_ (fun N hN=>hN _ _ ⟨by rw[eG];rfl,c3,R1⟩);clear c3 R1;rintro σ H0 ⟨rfl,c0,DV⟩;refine fE (fun σ H9=>σ=[some (.ref a),some (.int (k:Int)),some (.ref p),some (.ref sd),some (.ref bx),some (.int (pr ns:Nat)),some (.int (i:Int)),some ox,some (.int (h:Int)),some (.int (g:Int)),y1,y2,y3]/\Cs K C CB Pt (fun a=>HM a=none) a p bx sd (yD.map V.int) ns H9/\ln p (pr ns) H9 ox) ?_ ?_
  rotate_left
  .intro N hN;refine⟨_,rfl,_,rfl,_,rfl,_,rfl,_,bx,sd,ns,h,g,rfl,c0.box,c0.hd,hh,hg,fun H1 s1=>⟨_,rfl,du ?_⟩⟩;have c1:=c0.same s1;exact⟨_,rfl,_,rfl,_,rfl,_,rfl,_,bx,sd,ns,h,h,rfl,c1.box,c1.hd,hh,hh,fun H2 s2=>⟨_,rfl,du (hN _ _ ⟨rfl,c1.same s2,(DV.cM (bz.of s1)).cM (bz.of s2)⟩)⟩⟩
  clear c0 DV;rintro σ H0 ⟨rfl,c0,DV⟩;have l5:=BX.l5;have FI:iU (pr ns) (tm ns):=by obtain⟨_,_,_,_,NB,_⟩:=c0.box.ob;exact NB.oK
  refine fE (fun σ H9=>(∃y1 y2,σ=[some (.ref a),some (.int (k:Int)),some (.ref p),some (.ref sd),some (.ref bx),some (.int (pr ns:Nat)),some (.int (i:Int)),some ox,some (.int (h:Int)),some (.int (g:Int)),y1,y2,y3])/\Cs K C CB Pt (fun a=>HM a=none) a p bx sd (yD.map V.int) ns H9/\ln p (pr ns) H9 ox) ?_ ?_
  rotate_left
  .intro N hN;refine⟨_,rfl,sd,_,rfl,.inr (cu.of c0.hd),_,rfl,by lia,by rw[ba];lia,?_⟩;rw[ba];refine cT (n:=ns.length) (lo:=0) (fun _ σ H9=>(∃y1 y2,σ=[some (.ref a),some (.int (k:Int)),some (.ref p),some (.ref sd),some (.ref bx),some (.int (pr ns:Nat)),some (.int (i:Int)),some ox,some (.int (h:Int)),some (.int (g:Int)),y1,y2,y3])/\Cs K C CB Pt (fun a=>HM a=none) a p bx sd (yD.map V.int) ns H9/\ln p (pr ns) H9 ox) ⟨⟨_,_,rfl⟩,c0,DV⟩ ?_ (fun σ H9 z=>hN _ _ z);clear c0 DV y1 y2;rintro j σ H1 hj ⟨⟨y1,y2,rfl⟩,c1,Mx⟩;rw[eG];refine⟨_,rfl,_,rfl,_,rfl,sd,ns,h,j,rfl,c1.hd,BX,hj,fun r H2 s2 nr BH=>⟨r,rfl,⟨_,bg.of BH⟩,?_⟩⟩;refine g_ (K:=K) (xs:=NV (EZ ns h j)) (fun _ σ H9=>(∃y1 y2,σ=[some (.ref a),some (.int (k:Int)),some (.ref p),some (.ref sd),some (.ref bx),some (.int (pr ns:Nat)),some (.int (i:Int)),some ox,some (.int (h:Int)),some (.int (g:Int)),y1,y2,y3])/\aB H2 H9) ⟨⟨_,_,rfl⟩,aB.refl _⟩ (fun _ σ H9 _ z=>bg.of (z.2 _ _ BH)) ?_ (fun σ H9 z=>⟨z.1,(c1.same s2).same z.2,(Mx.cM (bz.of s2)).cM (bz.of z.2)⟩);rintro m v σ H3 hv ⟨⟨z1,z2,rfl⟩,s3⟩;obtain⟨y,hy,rfl⟩:=j3 hv;have Vd:=Hd BX FI hh hj ((vS BX.pos hj).mp (cD hy));have c3:=(c1.same s2).same s3;exact⟨_,rfl,_,rfl,_,rfl,_,rfl,_,bx,sd,ns,h,y,rfl,c3.box,c3.hd,hh,Vd,fun H4 s4=>⟨_,rfl,du ⟨⟨_,_,rfl⟩,s3.trans s4⟩⟩⟩
  clear c0 DV;rintro σ H0 ⟨⟨z1,z2,rfl⟩,c0,DV⟩;refine⟨_,rfl,_,rfl,by show 2<=sizeLine;decide,fun t1 Ik=>⟨_,rfl,_,rfl,by show 2<=sizeLine;decide,fun t2 Dr=>⟨_,rfl,_,rfl,by show 2<=sizeLine;decide,fun t3 R3=>⟨by show 3<=sizeLine;decide,fun l hl=>?_⟩⟩⟩⟩;have u1:=am (o:=.tup [ox,.int (g:Int)]) Ik;have g1:(upd H0 t1 (.tup [ox,.int (g:Int)])) t1=some (.tup [ox,.int (g:Int)]):=ag;generalize upd H0 t1 (.tup [ox,.int (g:Int)])=H1 at *;have u2:=am (o:=.tup [.int (h:Int),ox]) Dr;have g2:(upd H1 t2 (.tup [.int (h:Int),ox])) t2=some (.tup [.int (h:Int),ox]):=ag;generalize upd H1 t2 (.tup [.int (h:Int),ox])=H2 at *;have u3:=am (o:=.tup [ox,ox]) R3;have g3:(upd H2 t3 (.tup [ox,ox])) t3=some (.tup [ox,ox]):=ag;generalize upd H2 t3 (.tup [ox,ox])=H3 at *;have u4:=am (o:=.lst [.ref t1,.ref t2,.ref t3]) hl;have g4:(upd H3 l (.lst [.ref t1,.ref t2,.ref t3])) l=some (.lst [.ref t1,.ref t2,.ref t3]):=ag;have R4:=((u1.trans u2).trans u3).trans u4;have e1:=u4 _ _ (u3 _ _ (u2 _ _ g1));have e2:=u4 _ _ (u3 _ _ g2);have e3:=u4 _ _ g3;have c4:=c0.same R4;have Ve:=DV.cM (bz.of R4);generalize upd H3 l (.lst [.ref t1,.ref t2,.ref t3])=H4 at *;clear u1 u2 u3 u4 g1 g2 g3 Ik Dr R3 hl c0 DV;refine⟨l,rfl,⟨_,bg.of g4⟩,?_⟩;refine g_ (K:=K) (xs:=[.ref t1,.ref t2,.ref t3]) (fun _ σ H9=>(∃y3,σ=[some (.ref a),some (.int (k:Int)),some (.ref p),some (.ref sd),some (.ref bx),some (.int (pr ns:Nat)),some (.int (i:Int)),some ox,some (.int (h:Int)),some (.int (g:Int)),z1,z2,y3])/\aB H4 H9) ⟨⟨_,rfl⟩,aB.refl _⟩ (fun _ σ H9 _ z=>bg.of (z.2 _ _ g4)) ?_ (fun σ H9 z=>by obtain⟨⟨y,rfl⟩,s⟩:=z;exact⟨_,_,_,_,_,_,_,rfl,c4.same s⟩);rintro m v σ H5 hv ⟨⟨y3,rfl⟩,s5⟩;obtain⟨o,wo,My⟩:=Ve.wh (K:=K);obtain⟨t,x,y,rfl,gt,o1,o2,w1,w2,hb⟩:∃ (t:Addr) (x y:V),v=.ref t/\H4 t=some (.tup [x,y])/\∃o1 o2,rB K H4 x o1/\rB K H4 y o2/\(aI o1 0 ((pr ns:Int)-1)=false\/aI o2 0 ((pr ns:Int)-1)=false):=by
   match m,hv with
   |0,hv=>exact⟨t1,_,_,(bA hv).symm,e1,o,_,My,eD,.inl wo⟩
   |1,hv=>exact⟨t2,_,_,(bA hv).symm,e2,_,o,eD,My,.inr wo⟩
   |2,hv=>exact⟨t3,_,_,(bA hv).symm,e3,o,o,My,My,.inl wo⟩
   |m+3,hv=>exact absurd hv (by simp)
  have no:∀ {h g:Nat},h<pr ns->g<pr ns->o1=some (h:Int)->o2=some (g:Int)->False:=fun hh hg z1 z2=>by
   rw[z1,z2,bN hh,bN hg] at hb;rcases hb with z|z <;> cases z
  have Vf:=s5 _ _ gt;have go:∀ (way:Nat) (σ:St) (H6:Hp),way<=2->aB H4 H6->rB K H6 x o1/\rB K H6 y o2/\H6 t=some (.tup [x,y]):=fun way σ H6 _ s=>⟨fun H' s'=>w1 H' (s.trans s'),fun H' s'=>w2 H' (s.trans s'),s _ _ gt⟩
  clear e1 e2 e3 Vf;refine fE (fun σ H9=>σ=[some (.ref a),some (.int (k:Int)),some (.ref p),some (.ref sd),some (.ref bx),some (.int (pr ns:Nat)),some (.int (i:Int)),some ox,some (.int (h:Int)),some (.int (g:Int)),z1,z2,some (.ref t)]/\aB H4 H9) ?_ ?_
  rotate_left
  .intro N hN;obtain⟨K2,K3,E5⟩:=go 0 [] H5 (by decide) s5;refine⟨_,rfl,_,rfl,t,_,_,_,rfl,rfl,cu.of E5,aO (j:=0) rfl,_,rfl,t,_,_,_,rfl,rfl,cu.of E5,aO (j:=1) rfl,_,bx,ns,0,x,y,o1,o2,rfl,by decide,(c4.same s5).box,K2,K3,fun _ r H6 s6 AC=>⟨by show 2<=sizeLine;decide,fun l' E6=>?_⟩,fun h' g' GR GS z1 z2=>(no GR GS z1 z2).elim⟩;exact⟨r,l',_,_,rfl,rfl,bg.of ((am E6) _ _ AC),bg.of ag,rfl,j7 (j:=2),_,rfl,fG rfl (hN _ _ ⟨rfl,(s5.trans s6).trans (am E6)⟩)⟩
  clear s5;rintro σ H5 ⟨rfl,s5⟩;refine fE (fun σ H9=>σ=[some (.ref a),some (.int (k:Int)),some (.ref p),some (.ref sd),some (.ref bx),some (.int (pr ns:Nat)),some (.int (i:Int)),some ox,some (.int (h:Int)),some (.int (g:Int)),z1,z2,some (.ref t)]/\aB H4 H9) ?_ ?_
  rotate_left
  .intro N hN;obtain⟨K2,K3,E5⟩:=go 1 [] H5 (by decide) s5;refine⟨_,rfl,_,rfl,t,_,_,_,rfl,rfl,cu.of E5,aO (j:=0) rfl,_,rfl,t,_,_,_,rfl,rfl,cu.of E5,aO (j:=1) rfl,_,bx,ns,1,x,y,o1,o2,rfl,by decide,(c4.same s5).box,K2,K3,fun _ r H6 s6 AC=>⟨by show 2<=sizeLine;decide,fun l' E6=>?_⟩,fun h' g' GR GS z1 z2=>(no GR GS z1 z2).elim⟩;exact⟨r,l',_,_,rfl,rfl,bg.of ((am E6) _ _ AC),bg.of ag,rfl,j7 (j:=4),_,rfl,fG rfl (hN _ _ ⟨rfl,(s5.trans s6).trans (am E6)⟩)⟩
  clear s5;rintro σ H5 ⟨rfl,s5⟩;obtain⟨K2,K3,E5⟩:=go 2 [] H5 (by decide) s5;refine⟨_,rfl,_,rfl,t,_,_,_,rfl,rfl,cu.of E5,aO (j:=0) rfl,_,rfl,t,_,_,_,rfl,rfl,cu.of E5,aO (j:=1) rfl,_,bx,ns,2,x,y,o1,o2,rfl,by decide,(c4.same s5).box,K2,K3,fun _ r H6 s6 AC=>⟨by show 2<=sizeLine;decide,fun l' E6=>?_⟩,fun h' g' GR GS z1 z2=>(no GR GS z1 z2).elim⟩;exact⟨r,l',_,_,rfl,rfl,bg.of ((am E6) _ _ AC),bg.of ag,rfl,j7 (j:=4),_,rfl,fG rfl (⟨⟨_,rfl⟩,(s5.trans s6).trans (am E6)⟩)⟩
end
def FD(K:PySem.W.Frag)(n:Str)(st:Stmt):Prop:=∃ (f:Addr) (oc:Value) (od an:Option Addr) (sl:Array (Option Value)) (kV dc pm cd ct:Value),PySem.W.nsIn K mainGlobals n=some (some (.ref f))/\K.lookup f=some ⟨oc,od,.func (PySem.W.fnOf n n (bV st) (aY st) (aj st) .none kV dc pm an cd ct),sl⟩/\PySem.W.codeIn K cd n=true/\PySem.W.keepIn K (.ref f)=true
def FC(K:PySem.W.Frag)(n:Str)(st:Stmt)(c:Addr):Prop:=∃ (f:Addr) (oc:Value) (od an:Option Addr) (sl:Array (Option Value)) (kV dc pm ct:Value),PySem.W.nsIn K mainGlobals n=some (some (.ref f))/\K.lookup f=some ⟨oc,od,.func (PySem.W.fnOf n n (bV st) (aY st) (aj st) .none kV dc pm an (.ref c) ct),sl⟩/\PySem.W.codeIn K (.ref c) n=true/\PySem.W.keepIn K (.ref f)=true
def MD(K:PySem.W.Frag)(C:Addr)(n q:Str)(st:Stmt):Prop:=∃ (f:Addr) (oc:Value) (od an:Option Addr) (sl:Array (Option Value)) (kV dc pm cd ct:Value),PySem.W.findIn K (.ref C) n=some (some (.ref f))/\PySem.W.isFn K (.ref f)=true/\K.lookup f=some ⟨oc,od,.func (PySem.W.fnOf n q (bV st) (aY st) (aj st) .none kV dc pm an cd ct),sl⟩/\PySem.W.codeIn K cd q=true/\PySem.W.keepIn K (.ref f)=true
def MC(K:PySem.W.Frag)(C:Addr)(n q:Str)(st:Stmt)(c:Addr):Prop:=∃ (f:Addr) (oc:Value) (od an:Option Addr) (sl:Array (Option Value)) (kV dc pm ct:Value),PySem.W.findIn K (.ref C) n=some (some (.ref f))/\PySem.W.isFn K (.ref f)=true/\K.lookup f=some ⟨oc,od,.func (PySem.W.fnOf n q (bV st) (aY st) (aj st) .none kV dc pm an (.ref c) ct),sl⟩/\PySem.W.codeIn K (.ref c) q=true/\PySem.W.keepIn K (.ref f)=true
section
variable {P:Program} {w:World} {K:PySem.W.Frag} {mg:Str->Option Value} {base h:Heap} {n q:Str} {st:Stmt} {f c C:Addr} {oc kV dc pm cd ct:Value} {od an:Option Addr} {sl:Array (Option Value)} {CX:lX} {k:Nat} {ps:List Str} {sp:Sp}
theorem FD.mk(a:PySem.W.nsIn K mainGlobals n=some (some (.ref f)))(l:K.lookup f=some ⟨oc,od,.func (PySem.W.fnOf n n (bV st) (aY st) (aj st) .none kV dc pm an cd ct),sl⟩)(d:PySem.W.codeIn K cd n=true)(k:PySem.W.keepIn K (.ref f)=true):FD K n st:=⟨f,oc,od,an,sl,kV,dc,pm,cd,ct,a,l,d,k⟩
theorem FC.mk(a:PySem.W.nsIn K mainGlobals n=some (some (.ref f)))(l:K.lookup f=some ⟨oc,od,.func (PySem.W.fnOf n n (bV st) (aY st) (aj st) .none kV dc pm an (.ref c) ct),sl⟩)(d:PySem.W.codeIn K (.ref c) n=true)(k:PySem.W.keepIn K (.ref f)=true):FC K n st c:=⟨f,oc,od,an,sl,kV,dc,pm,ct,a,l,d,k⟩
theorem MD.mk(a:PySem.W.findIn K (.ref C) n=some (some (.ref f)))(i:PySem.W.isFn K (.ref f)=true)(l:K.lookup f=some ⟨oc,od,.func (PySem.W.fnOf n q (bV st) (aY st) (aj st) .none kV dc pm an cd ct),sl⟩)(d:PySem.W.codeIn K cd q=true)(k:PySem.W.keepIn K (.ref f)=true):MD K C n q st:=⟨f,oc,od,an,sl,kV,dc,pm,cd,ct,a,i,l,d,k⟩
theorem MC.mk(a:PySem.W.findIn K (.ref C) n=some (some (.ref f)))(i:PySem.W.isFn K (.ref f)=true)(l:K.lookup f=some ⟨oc,od,.func (PySem.W.fnOf n q (bV st) (aY st) (aj st) .none kV dc pm an (.ref c) ct),sl⟩)(d:PySem.W.codeIn K (.ref c) q=true)(k:PySem.W.keepIn K (.ref f)=true):MC K C n q st c:=⟨f,oc,od,an,sl,kV,dc,pm,ct,a,i,l,d,k⟩
def BD(n q:Str)(st:Stmt)(ps:List Str):Prop:=∀ (kV iE pm:Value) (an:Option Addr) (bX ct:Value) (us:List Value),us.length=ps.length->bindArgs (PySem.W.fnOf n q (bV st) (aY st) (aj st) .none kV iE pm an bX ct) ⟨us,[]⟩=pure (ps.zip us)
theorem FD.fL(X:K.In h)(G:h.Ns mainGlobals mg)(D:FD K n st)(b:BD n n st ps)(o:∀ {f fd},dE K n n st f fd->aU P w K mg base CX k f fd ps sp):ck P w K mg base CX k n ps sp:=by
 obtain⟨f,_,_,_,_,_,_,_,_,_,a,l,d,kp⟩:=D;have F:=kX (x:=n) (qual:=n) (st:=st) l d kp;exact⟨⟨f,_,bR X G a,kp,F.binds b,o F⟩⟩
theorem FD.Pf(X:K.In h)(G:h.Ns mainGlobals mg)(D:FD K n st)(b:BD n n st ps)(o:∀ {f fd},dE K n n st f fd->pz P w K mg base (d6 P w) k f fd ps sp):Ct P w K mg base k n ps sp:=
 let ⟨f,_,_,_,_,_,_,_,_,_,a,l,d,kp⟩:=D
 have F:=kX (x:=n) (qual:=n) (st:=st) l d kp
 ⟨⟨f,_,bR X G a,kp,F.binds b,o F⟩⟩
theorem FC.fL(X:K.In h)(G:h.Ns mainGlobals mg)(D:FC K n st c)(b:BD n n st ps)(o:∀ {f fd},vw K n n st f fd c->aU P w K mg base CX k f fd ps sp):ck P w K mg base CX k n ps sp:=by
 obtain⟨f,_,_,_,_,_,_,_,_,a,l,d,kp⟩:=D;have F:=CI (x:=n) (qual:=n) (st:=st) l d kp;exact⟨⟨f,_,bR X G a,kp,F.fun.binds b,o F⟩⟩
theorem MD.fL(D:MD K C n q st)(b:BD n q st ps)(o:∀ {f fd},dE K n q st f fd->aU P w K mg base CX k f fd ps sp):ff P w K mg base CX k C n ps sp:=by
 obtain⟨f,_,_,_,_,_,_,_,_,_,a,i,l,d,kp⟩:=D;have F:=kX (x:=n) (qual:=q) (st:=st) l d kp;exact⟨⟨f,_,⟨a,i,kp⟩,F.binds b,o F⟩⟩
end
theorem iy{α:Type}{P:List α->Prop}(h:∀a0,P [a0])(l:List α)(e:l.length=1):P l:=by
 cases l with
 |nil=>cases e
 |cons a t=>cases t with
  |nil=>exact h a
  |cons b t=>cases e
theorem dQ{α:Type}{P:List α->Prop}(h:∀a0 a1,P [a0,a1])(l:List α)(e:l.length=2):P l:=by
 cases l with
 |nil=>cases e
 |cons a t=>exact iy (P:=fun t=>P (a::t)) (h a) t (mT e)
theorem fK{α:Type}{P:List α->Prop}(h:∀a0 a1 a2,P [a0,a1,a2])(l:List α)(e:l.length=3):P l:=by
 cases l with
 |nil=>cases e
 |cons a t=>exact dQ (P:=fun t=>P (a::t)) (h a) t (mT e)
theorem A9{α:Type}{P:List α->Prop}(h:∀a0 a1 a2 a3,P [a0,a1,a2,a3])(l:List α)(e:l.length=4):P l:=by
 cases l with
 |nil=>cases e
 |cons a t=>exact fK (P:=fun t=>P (a::t)) (h a) t (mT e)
theorem Hf{l:PySem.W.OpenLaw}{w:World}{K:PySem.W.Frag}{h:Heap}{mg:Str->Option Value}{fa:Addr}(X:K.In h)(G:h.Ns mainGlobals mg)(Vg:mg "law"=some (.ref fa)){C cO Pt dR md dA dJ j8 br iL iM iN eV j9 iO me bG:Addr}{lN oN lO rk lP og:Tok}(aC:PySem.W.nsIn K mainGlobals "Net"=some (some (.ref C)))(sU:PySem.W.nsIn K mainGlobals "BeatError"=some (some (.ref dR)))(DW:PySem.W.nsIn K mainGlobals "NoNet"=some (some (.ref md)))(pU:PySem.W.nsIn K mainGlobals "NoShape"=some (some (.ref dA)))(xa:PySem.W.nsIn K mainGlobals "NoTie"=some (some (.ref dJ)))(A_:PySem.W.nsIn K mainGlobals "NoText"=some (some (.ref j8)))(pV:PySem.W.nsIn K mainGlobals "NoHouse"=some (some (.ref br)))(yn:PySem.W.nsIn K mainGlobals "NoRanks"=some (some (.ref iL)))(yo:PySem.W.nsIn K mainGlobals "NoStand"=some (some (.ref iM)))(yp:PySem.W.nsIn K mainGlobals "NoBerth"=some (some (.ref iN)))(sV:PySem.W.nsIn K mainGlobals "NoHanding"=some (some (.ref eV)))(Ba:PySem.W.nsIn K mainGlobals "NoPlan"=some (some (.ref j9)))(yq:PySem.W.nsIn K mainGlobals "TooMany"=some (some (.ref iO)))(DX:PySem.W.nsIn K mainGlobals "NoRow"=some (some (.ref me)))(K4:PySem.W.nsIn K mainGlobals "Box"=some (some (.ref bG)))(DY:FD K "is_whole" vD)(Bb:FD K "is_whole_within" qT)(DZ:FD K "is_house" vE)(K5:FD K "is_row" F7)(K6:FD K "are_unlike_houses" Gd)(K7:FD K "is_tie" Gb)(D1:FD K "check_ties" vG)(K8:FD K "check_balance" Gc)(Hg:FC K "houses_out" sL cO)(Hh:FD K "distances_from" Az)(D4:FD K "check_reached" vI)(Hi:FD K "product" AE)(Bc:FD K "pairs_net" ra)(Bd:FD K "check_sides" rb)(Be:FD K "box_pairs" rd)(Hj:FD K "box_net" AD)(Pg:FD K "are_tied" ON)(K9:FD K "_law_pot" GU)(Ph:FD K "_law_draw" OS)(Pi:FD K "_law_sides" OU)(Pj:FD K "_law_many" OV)(Pk:FD K "_law_place" OW)(Pl:FD K "_law_step" OX)(Pm:FD K "_law_ties" OZ)(Pn:FD K "_law_phase" O0)(Po:FD K "_law_wish" O1)(Pp:FD K "_law_way" O2)(Pq:FD K "_law_kinds" O5)(Pr:FD K "_law_told" Mu)(K_:FD K "_law_odd" A5)(Ps:FD K "_law_right" O_)(La:FD K "law" vV)(Hk:MD K C "__init__" "Net.__init__" wR)(D5:MD K C "check_house" "Net.check_house" vF)(Lb:MD K C "out" "Net.out" F9)(Hl:MD K C "many" "Net.many" As)(pg:PySem.W.plainGet K C Str.empty=true)(Pu:PySem.W.hasDictIn K C=true)(po:PySem.W.plainOver K C=true)(sa:PySem.W.findIn K (.ref C) "__setattr__"=some (some (.builtin "object.__setattr__")))(mk:PySem.W.makesIn K C=true)(kc:PySem.W.keepIn K (.ref C)=true)(nH:PySem.W.findIn K (.ref C) "house_count"=some none)(nT:PySem.W.findIn K (.ref C) "tie_list"=some none)(nO:PySem.W.findIn K (.ref C) "out_lists"=some none)(nD:PySem.W.findIn K (.ref C) "distances"=some none)(rn:PySem.W.nsIn K mainGlobals "isinstance"=some none)(Lc:PySem.W.nsIn K mainGlobals "int"=some none)(Hm:PySem.W.nsIn K mainGlobals "bool"=some none)(D6:PySem.W.nsIn K mainGlobals "tuple"=some none)(Hn:PySem.W.nsIn K mainGlobals "list"=some none)(Ld:PySem.W.nsIn K mainGlobals "str"=some none)(Le:PySem.W.nsIn K mainGlobals "set"=some none)(Lf:PySem.W.nsIn K mainGlobals "len"=some none)(D7:PySem.W.nsIn K mainGlobals "range"=some none)(Bg:PySem.W.nsIn K mainGlobals "sorted"=some none)(Lg:PySem.W.nsIn K mainGlobals "any"=some none)(Lh:PySem.W.nsIn K mainGlobals "max"=some none)(Li:PySem.W.nsIn K mainGlobals "min"=some none)(rp:PySem.W.nsIn K mainGlobals "ValueError"=some none)(Lj:PySem.W.nsIn K mainGlobals "all"=some none)(Lk:PySem.W.nsIn K mainGlobals "abs"=some none)(Bh:PySem.W.nsIn K mainGlobals "divmod"=some none)(Ho:PySem.W.nsIn K mainGlobals "dict"=some none)(Ll:PySem.W.nsIn K mainGlobals "zip"=some none)(Hq:PySem.W.nsIn K mainGlobals "repr"=some none)(lQ:PySem.W.nsIn K mainGlobals "FEWEST_HOUSES"=some (some (.int 2 lN)))(i9:PySem.W.nsIn K mainGlobals "MOST_HOUSES"=some (some (.int 32 oN)))(lR:PySem.W.nsIn K mainGlobals "MOST_TIES_OUT"=some (some (.int 8 lO)))(rq:PySem.W.nsIn K mainGlobals "MOST_SIDES"=some (some (.int 5 rk)))(lS:PySem.W.nsIn K mainGlobals "SHORTEST_SIDE"=some (some (.int 2 lP)))(oh:PySem.W.nsIn K mainGlobals "LONGEST_SIDE"=some (some (.int 8 og)))(sW:iS K dR)(yr:iS K dA)(pW:iS K br)(xb:iS K dJ)(Pw:PySem.W.plainGet K bG Str.empty=true)(Px:PySem.W.hasDictIn K bG=true)(Py:PySem.W.plainOver K bG=true)(Pz:PySem.W.findIn K (.ref bG) "__setattr__"=some (some (.builtin "object.__setattr__")))(PB:PySem.W.makesIn K bG=true)(PC:PySem.W.keepIn K (.ref bG)=true)(PD:PySem.W.findIn K (.ref bG) "tied_net"=some none)(PF:PySem.W.findIn K (.ref bG) "side_row"=some none)(Hr:MD K bG "__init__" "Box.__init__" Dy)(PJ:MD K bG "place" "Box.place" Gv)(PM:MD K bG "house" "Box.house" Gw)(PP:MD K bG "way" "Box.way" Gx)(PQ:MD K bG "phase" "Box.phase" Gy)(PU:MD K bG "wish" "Box.wish" Gz)(kT:[md,dA,dJ,j8,br,iL,iM,iN,eV,j9,iO,me].map (fun y=>PySem.W.kitOne K (.ref dJ) (.ref y))=[some false,some false,some true,some false,some false,some false,some false,some false,some false,some false,some false,some false])(kH:[md,dA,dJ,j8,br,iL,iM,iN,eV,j9,iO,me].map (fun y=>PySem.W.kitOne K (.ref br) (.ref y))=[some false,some false,some false,some false,some true,some false,some false,some false,some false,some false,some false,some false])(vT:PySem.W.kitOne K (.ref dJ) (.type "ValueError")=some true)(vH:PySem.W.kitOne K (.ref br) (.type "ValueError")=some true)(sT:PySem.W.subIn K (.ref dJ) (.ref dR)=some true)(sH:PySem.W.subIn K (.ref br) (.ref dR)=some true)(Hs:PySem.W.codeHdIn K cO Pt=true):
  ∃fd:FuncData,(∀ (s:Shared) (v:Value),BindsTo s fd ⟨[v],[]⟩ [("_law_script",v)])/\∀base:Heap,K.In base->base.Ns mainGlobals mg->qL mg base->aU l.prog w K mg base aZ 13 fa fd ["_law_script"] (w_ K Pt):=by
 obtain⟨R5,oc,od,an,sl,kV,dc,pm,cd,ct,Lm,Ln,Lo,Lp⟩:=La;have e:=Vg.symm.trans (bR X G Lm);cases e;have Lq:=kX (x:="law") (qual:="law") (st:=vV) Ln Lo Lp;obtain⟨R6,V2,V3,V4,V5,V6,V7,V8,V9,V_,Vh,Vi,Vj,Vk,Vl⟩:=Hk;have sX:=kX (x:="__init__") (qual:="Net.__init__") (st:=wR) Vj Vk Vl;have Bi:=sX.binds (ps:=["self","many","ties"]) fun _ _ _ _ _ _=>fK fun _ _ _=>rfl;have MK:Mk K C R6:=⟨mk,Vh,Vi,kc⟩
 have B:Bl mg:=⟨cR X G rn,cR X G Lc,cR X G Hm,cR X G D6,cR X G Hn,cR X G Ld,cR X G Le,cR X G Lf,cR X G D7,cR X G Bg,cR X G Lg,cR X G Lh,cR X G Li,cR X G rp,cR X G Lj⟩
 have T:NT K mg C:=⟨⟨pg,Pu,po,sa⟩,nH,nT,nO,nD,bR X G aC⟩
 have B2:RQ mg:=⟨cR X G Lk,cR X G Bh,cR X G Ho,cR X G Ll,cR X G Hq⟩
 let c:Nat->Addr:=fun i=>[md,dA,dJ,j8,br,iL,iM,iN,eV,j9,iO,me].getD i 0
 have Vm:RW mg c:=⟨bR X G DW,bR X G pU,bR X G xa,bR X G A_,bR X G pV,bR X G yn,bR X G yo,bR X G yp,bR X G sV,bR X G Ba,bR X G yq,bR X G DX⟩
 simp only[fN,List.map_nil,List.cons.injEq,and_true] at kT kH;obtain⟨t0,t1,t2,t3,t4,t5,t6,t7,t8,t9,Vn,Vo⟩:=kT;obtain⟨r0,r1,r2,r3,r4,r5,r6,r7,r8,r9,Vp,Od⟩:=kH;have R:Rf K mg c dR br dJ:=⟨⟨bR X G sU,sW⟩,⟨xb,by decide,vT,t0,t1,t2,t3,t4,t5,t6,t7,t8,t9,Vn,Vo⟩,⟨pW,by decide,vH,r0,r1,r2,r3,r4,r5,r6,r7,r8,r9,Vp,Od⟩,sT,sH⟩
 have TB:Dz K mg bG:=⟨⟨Pw,Px,Py,Pz⟩,PD,PF,bR X G K4⟩
 obtain⟨Lr,Wa,Wb,Wc,Wd,We,Wf,Wg,Wi,Wj,PV,PX,PY,PZ,P0⟩:=Hr;have Ls:=kX (x:="__init__") (qual:="Box.__init__") (st:=Dy) PY PZ P0;have P1:=Ls.binds (ps:=["self","sides"]) fun _ _ _ _ _ _=>dQ fun _ _=>rfl;have MB:Mk K bG Lr:=⟨PB,PV,PX,PC⟩
 refine⟨PySem.W.fnOf "law" "law" (bV vV) (aY vV) (aj vV) .none kV dc pm an cd ct,fun s v=>.of_eq rfl,fun base kb nb hb=>?_⟩;have D8:ck l.prog w K mg base aZ 1 "is_whole" ["thing"] (qW K):=FD.fL X G DY (fun _ _ _ _ _ _=>iy fun _=>rfl) fun D9=>An D9 B;have oj:ck l.prog w K mg base aZ 2 "is_whole_within" ["thing","least","most"] (ip K):=FD.fL X G Bb (fun _ _ _ _ _ _=>fK fun _ _ _=>rfl) fun Bj=>x0 Bj D8;have mf:ck l.prog w K mg base aZ 3 "is_house" ["many","thing"] (iI K):=FD.fL X G DZ (fun _ _ _ _ _ _=>dQ fun _ _=>rfl) fun D_=>Ap D_ oj;have Bk:ck l.prog w K mg base aZ 1 "is_row" ["thing","length"] (sJ K):=FD.fL X G K5 (fun _ _ _ _ _ _=>dQ fun _ _=>rfl) fun Lu=>F8 Lu B;have Lv:ck l.prog w K mg base aZ 4 "are_unlike_houses" ["many","one","other"] Av:=FD.fL X G K6 (fun _ _ _ _ _ _=>fK fun _ _ _=>rfl) fun Lw=>Ge Lw mf;have Lx:ck l.prog w K mg base aZ 5 "is_tie" ["many","thing"] Aw:=FD.fL X G K7 (fun _ _ _ _ _ _=>dQ fun _ _=>rfl) fun Ly=>Gf Ly Bk Lv;have Ea:ck l.prog w K mg base aZ 6 "check_ties" ["many","ties"] iJ:=FD.fL X G D1 (fun _ _ _ _ _ _=>dQ fun _ _=>rfl) fun Eb=>Ax Eb B ⟨_,bR X G lQ⟩ ⟨_,bR X G i9⟩ oj Lx;have Lz:ck l.prog w K mg base aZ 1 "check_balance" ["many","ties"] iJ:=FD.fL X G K8 (fun _ _ _ _ _ _=>dQ fun _ _=>rfl) fun LA=>Gg LA B ⟨_,bR X G lR⟩;have Ht:ck l.prog w K mg base aZ 1 "houses_out" ["many","ties","house"] (q0 Pt):=FC.fL X G Hg (fun _ _ _ _ _ _=>fK fun _ _ _=>rfl) fun Hu=>Di Hu B kb hb Hs;have Hv:ck l.prog w K mg base aZ 1 "distances_from" ["out_lists","start"] q9:=FD.fL X G Hh (fun _ _ _ _ _ _=>dQ fun _ _=>rfl) fun Hw=>Dj Hw B;have Ec:ck l.prog w K mg base aZ 1 "check_reached" ["distances"] q_:=FD.fL X G D4 (fun _ _ _ _ _ _=>iy fun _=>rfl) fun Ed=>AB Ed B;have Hy:aU l.prog w K mg base aZ 7 R6 _ ["self","many","ties"] (vK C Pt):=Dn sX T B Ea Lz Ht Hv Ec;have xc:ff l.prog w K mg base (d6 l.prog w) 4 C "check_house" ["self","thing"] (l9 K C br):=MD.fL D5 (fun _ _ _ _ _ _=>dQ fun _ _=>rfl) fun yt=>At yt T ⟨bR X G pV,pW⟩ mf;have LB:ff l.prog w K mg base (d6 l.prog w) 5 C "out" ["self","house"] (Au K C br F_):=MD.fL Lb (fun _ _ _ _ _ _=>dQ fun _ _=>rfl) fun Ee=>Ga Ee T B xc;have Hz:ff l.prog w K mg base aZ 1 C "many" ["self"] (vL C):=MD.fL Hl (fun _ _ _ _ _ _=>iy fun _=>rfl) fun Bm=>Dq Bm T;have vW:ck l.prog w K mg base aZ 1 "product" ["numbers"] (nV K):=FD.fL X G Hi (fun _ _ _ _ _ _=>iy fun _=>rfl) fun HA=>Ds HA;have Bn:ck l.prog w K mg base aZ 9 "pairs_net" ["many","pairs"] (nU C Pt):=FD.fL X G Bc (fun _ _ _ _ _ _=>dQ fun _ _=>rfl) fun Bo=>yd Bo B T MK Bi Hy Bk;have Bp:ck l.prog w K mg base (d6 l.prog w) 3 "check_sides" ["sides"] (nX K dA):=FD.fL X G Bd (fun _ _ _ _ _ _=>iy fun _=>rfl) fun Bq=>ye Bq B ⟨bR X G pU,yr⟩ ⟨_,bR X G rq⟩ ⟨_,bR X G lS⟩ ⟨_,bR X G oh⟩ ⟨_,bR X G i9⟩ oj vW;have Br:ck l.prog w K mg base aZ 2 "box_pairs" ["sides"] nY:=FD.fL X G Be (fun _ _ _ _ _ _=>iy fun _=>rfl) fun Bs=>yf Bs B vW;have HB:ck l.prog w K mg base (d6 l.prog w) 10 "box_net" ["sides"] (vO K C Pt dA):=FD.fL X G Hj (fun _ _ _ _ _ _=>iy fun _=>rfl) fun HC=>Dt HC Bp Bn vW Br;have P3:ck l.prog w K mg base aZ 6 "are_tied" ["net","one","other"] (GJ K C):=FD.fL X G Pg (fun _ _ _ _ _ _=>fK fun _ _ _=>rfl) fun P6=>Ku P6 T mf Hz LB;have P7:aU l.prog w K mg base aZ 11 Lr _ ["self","sides"] (AR C bG Pt):=GA Ls B TB HB;have E7:ff l.prog w K mg base (d6 l.prog w) 5 bG "place" ["self","house"] (wZ K C bG br):=MD.fL PJ (fun _ _ _ _ _ _=>dQ fun _ _=>rfl) fun F=>GD F B T TB xc;have LC:ff l.prog w K mg base aZ 4 bG "house" ["self","place"] (AV C bG):=MD.fL PM (fun _ _ _ _ _ _=>dQ fun _ _=>rfl) fun F=>GE F B B2.zip TB Bk mf;have Bt:ff l.prog w K mg base (d6 l.prog w) 6 bG "phase" ["self","house","home"] (pT K C bG br):=MD.fL PQ (fun _ _ _ _ _ _=>fK fun _ _ _=>rfl) fun F=>GK F B TB E7;have LD:ff l.prog w K mg base (d6 l.prog w) 7 bG "way" ["self","one","other"] (w6 K C bG dJ):=MD.fL PP (fun _ _ _ _ _ _=>fK fun _ _ _=>rfl) fun F=>GQ F TB ⟨bR X G xa,xb⟩ P3 Bt;have LF:ff l.prog w K mg base (d6 l.prog w) 7 bG "wish" ["self","house","home"] (w9 K C bG br):=MD.fL PU (fun _ _ _ _ _ _=>fK fun _ _ _=>rfl) fun F=>GT F B TB Bt E7 LC;have LG:ck l.prog w K mg base aZ 1 "_law_pot" ["_law_script","_law_k"] (A0 K):=FD.fL X G K9 (fun _ _ _ _ _ _=>dQ fun _ _=>rfl) fun LH=>GX LH B;have HD:ck l.prog w K mg base aZ 1 "_law_draw" ["_law_pot_here","_law_many_here"] A1:=FD.fL X G Ph (fun _ _ _ _ _ _=>dQ fun _ _=>rfl) fun P8=>Ky P8 B2;have P9:ck l.prog w K mg base aZ 2 "_law_sides" ["_law_pot_here"] G0:=FD.fL X G Pi (fun _ _ _ _ _ _=>iy fun _=>rfl) fun P_=>KA P_ B HD;have LI:ck l.prog w K mg base aZ 1 "_law_many" ["_law_sides_here"] A3:=FD.fL X G Pj (fun _ _ _ _ _ _=>iy fun _=>rfl) fun Qa=>KB Qa;have HE:ck l.prog w K mg base aZ 1 "_law_place" ["_law_sides_here","_law_house"] vR:=FD.fL X G Pk (fun _ _ _ _ _ _=>dQ fun _ _=>rfl) fun Qb=>KC Qb;have LJ:ck l.prog w K mg base aZ 2 "_law_step" ["_law_sides_here","_law_house","_law_k","_law_by"] DE:=FD.fL X G Pl (fun _ _ _ _ _ _=>A9 fun _ _ _ _=>rfl) fun Qc=>KG Qc HE LI;have LK:ck l.prog w K mg base aZ 3 "_law_ties" ["_law_sides_here","_law_house","_law_k"] DJ:=FD.fL X G Pm (fun _ _ _ _ _ _=>fK fun _ _ _=>rfl) fun Qd=>KH Qd LJ;have LL:ck l.prog w K mg base aZ 2 "_law_phase" ["_law_sides_here","_law_house","_law_home"] DK:=FD.fL X G Pn (fun _ _ _ _ _ _=>fK fun _ _ _=>rfl) fun Qe=>KJ Qe B HE;have Qf:ck l.prog w K mg base aZ 3 "_law_wish" ["_law_sides_here","_law_house","_law_home"] G5:=FD.fL X G Po (fun _ _ _ _ _ _=>fK fun _ _ _=>rfl) fun Qg=>KM Qg HE LJ LL;have Qh:ck l.prog w K mg base aZ 4 "_law_way" ["_law_sides_here","_law_one","_law_other"] G6:=FD.fL X G Pp (fun _ _ _ _ _ _=>fK fun _ _ _=>rfl) fun Qi=>KP Qi B LK;have Qj:Ct l.prog w K mg base 1 "_law_kinds" ["_law_e"] (DN K c):=FD.Pf X G Pq (fun _ _ _ _ _ _=>iy fun _=>rfl) fun Qk=>KS Qk B Vm;have LM:ck l.prog w K mg base aZ 8 "_law_told" ["_law_box","_law_way_here","_law_one","_law_other"] (DP K C bG):=FD.fL X G Pr (fun _ _ _ _ _ _=>A9 fun _ _ _ _=>rfl) fun Ql=>KU Ql B TB R Qj LD Bt LF;have LN:ck l.prog w K mg base aZ 2 "_law_odd" ["_law_pot_here","_law_many_here"] A8:=FD.fL X G K_ (fun _ _ _ _ _ _=>dQ fun _ _=>rfl) fun LO=>G_ LO B HD;have Qm:ck l.prog w K mg base aZ 9 "_law_right" ["_law_box","_law_sides_here","_law_one","_law_other"] (Ha C bG):=FD.fL X G Ps (fun _ _ _ _ _ _=>A9 fun _ _ _ _=>rfl) fun Qn=>K1 Qn LM Qh LL Qf;exact He Lq B TB MB P1 P7 LG HD P9 LI LK LN LM Qm
theorem LP(h:((List.range 2000).any fun c=>PySem.W.codeHdIn K c P)=true):∃c,PySem.W.codeHdIn K c P=true:=
 let ⟨c,_,e⟩:=uy.mp h;⟨c,e⟩
theorem HF(hO:wD ts H)(h:bg K H a xs):yC K H a xs:=by
 rcases h with h|h
 .rcases h with h|⟨o,h⟩
  .rcases hO.2 a with z|⟨_,z⟩|⟨o,ys,z⟩ <;> · rw[h] at z;cases z
  .exact .inl ⟨o,h⟩
 .exact .inr fun H'=>.inr h
theorem walk{l:PySem.W.OpenLaw}{q:Program}{ph:List Str}{XP:(Str->Option Value)->Heap->Prop}{YP:World->Heap->Prop}{d:DefRec}{K:Params->PySem.W.Frag}{Pt:Addr}(hn:l.most=some 63)(Jc:d.params.defaults=[])(hY:∀ (w:World) (h:Heap),YP w h->(K w.params).In h)(hT:∀ (w:World) (h:Heap),YP w h->∀P∈[Pt],h.get? P=some (PySem.W.tabObj #[]))(Qo:∀ (w:World),((List.range 2000).any fun c=>PySem.W.codeHdIn (K w.params) c Pt)=true)(Qp:∀ (w:World),(K w.params).lookup Pt=none)(F:∀ (w:World) (mg:Str->Option Value) (fa:Addr) (h:Heap),(K w.params).In h->h.Ns mainGlobals mg->mg d.name=some (.ref fa)->
   ∃fd:FuncData,(∀ (s:Shared) (u:Value),BindsTo s fd ⟨[u],[]⟩ [("_law_script",u)])/\∀base:Heap,(K w.params).In base->base.Ns mainGlobals mg->qL mg base->aU l.prog w (K w.params) mg base aZ 13 fa fd ["_law_script"] (w_ (K w.params) Pt)):
  PySem.W.WalkO q ph XP YP l.row.toRowW d [] (fun f vs=>PySem.call f vs):=
 z8 (n:=63) (k:=13) (x:="_law_script") (ts:=[Pt]) (K:=K) (CX:=fun _=>aZ) (sp:=fun w=>(w_ (K w.params) Pt)) hn (by decide) Jc ⟨rfl,by decide,by decide,rfl⟩ hY hT
  (fun w P=>fun e=>by rw[gn.mp e];exact LP (Qo w)) (fun w P=>fun e=>by rw[gn.mp e];exact Qp w) F
  (fun w H a ns hl hO hS=>⟨a,ns,rfl,HF hO hS,hl,.inl (hO.1 _ (by simp)),fun _=>rfl⟩) fun _ _ _ _ _ z=>z
end oI
open PySem PySem.W PyProof.Rows
namespace PySem.W.Fast
def tw8641998754375635128:=trivial
def tw7332104904941773475:=trivial
def tw13364701981086970001:=trivial
def tw6327727181089164556:=trivial
def tw7132582837223031790:=trivial
def tw3597199742429669367:=trivial
def tw17730018523505436980:=trivial
def tw15896235599590351171:=trivial
def tw10768641174410775732:=trivial
def tw17439658158558862234:=trivial
def tw6862266612193854350:=trivial
def tw2876433732341937266:=trivial
def tw14547812960941029177:=trivial
def tw12810214523521430979:=trivial
def tw10832629684419589469:=trivial
def tw5713143657287567358:=trivial
def tw6652242465860841306:=trivial
def tw12863777464573223480:=trivial
def tw14050649599821410792:=trivial
def tw3585308891100501057:=trivial
def tw5813573371313349922:=trivial
def tw9915558102558822481:=trivial
def tw798292833315342924:=trivial
def tw6147386517032808836:=trivial
def tw9739866970291878049:=trivial
def tw17425279877647242513:=trivial
def tw5949045455158157015:=trivial
def tw7525385264779098260:=trivial
def tw6557313131811784536:=trivial
def tw15494165776259900720:=trivial
def tw7459635106484257099:=trivial
def tw9550831294102019091:=trivial
def tw16353569874048459236:=trivial
def tw6696649007788957074:=trivial
def tw5268007886191315925:=trivial
def tw10615257954738083450:=trivial
def tw9885182222060887468:=trivial
def tw11294503175147481028:=trivial
def tw5475750975560812919:=trivial
def tw13392797736831909864:=trivial
def tw4426673017333523379:=trivial
def tw17781398828905519294:=trivial
def tw11358919437221751128:=trivial
def tw5358255981130002203:=trivial
def tw18349245654293354326:=trivial
def tw12332510797372407271:=trivial
def tw5296280134684607632:=trivial
def tw2398627845302672522:=trivial
def tw4359675431747339127:=trivial
def tw12122388494407245001:=trivial
def tw12822176293749076185:=trivial
def tw14670142569574319134:=trivial
def tw12975557083287972837:=trivial
def tw1999671427082128918:=trivial
def tw4098366769823372975:=trivial
def tw7553043341260018886:=trivial
def tw15161404837800007087:=trivial
def tw4808926757715400895:=trivial
def tw1462068979182698035:=trivial
def tw15050487359783562327:=trivial
def tw11327881382619667564:=trivial
def tw9327638820253184323:=trivial
def tw5258038088562325977:=trivial
def tw6472937259857894781:=trivial
def tw8102238019006129028:=trivial
def tw11179765119749999814:=trivial
def tw10541004277967333414:=trivial
def tw2362818675211600866:=trivial
def tw11626464439049147133:=trivial
def tw2826252841231758635:=trivial
def tw2784164802939036911:=trivial
def tw2768249575430423991:=trivial
def tw1704575914683417389:=trivial
def tw1764413863793025209:=trivial
def tw574537435566799092:=trivial
def tw1174688226547790030:=trivial
def tw14015991683229446307:=trivial
def tw9566310867656797583:=trivial
def tw1932835527582780714:=trivial
def tw12730761036708915378:=trivial
def tw7142041126946244440:=trivial
def tw6233271111944800314:=trivial
def tw15970484990782667314:=trivial
def tw5086446278990283059:=trivial
def tw9282805485949457697:=trivial
def tw7282607213886083191:=trivial
def tw11944583480320492257:=trivial
def tw1138452113847362241:=trivial
def tw5578332190995269292:=trivial
def tw9152455699848330055:=trivial
def tw15054164041377493807:=trivial
def tw11781453396607997184:=trivial
def tw14406906279152220832:=trivial
def tw9941881590278095965:=trivial
def tw135075025898905483:=trivial
def tw7903159030844218976:=trivial
def tw16859451668644536291:=trivial
def tw14210938436983799823:=trivial
def tw15434051154074195556:=trivial
def tw15487953009114012542:=trivial
def tw12328941399800697766:=trivial
def tw8822669315475901135:=trivial
def tw13589158480950274757:=trivial
def tw16822675428769134655:=trivial
def tw18415732225431505584:=trivial
def tw3263134323129211785:=trivial
def tw17171286955130519607:=trivial
def tw12994765695237100709:=trivial
def tw4884301034533567420:=trivial
def tw10669938232953922716:=trivial
def tw1963418945884028686:=trivial
def tw16852033154664936351:=trivial
def tw10394935109307674929:=trivial
def tw15019450348968771908:=trivial
def tw17031124240498639452:=trivial
def tw16390770737014111086:=trivial
def tw3758042139496819098:=trivial
def tw6415980495064039083:=trivial
def tw9176109699103270133:=trivial
def tw2513979846303916652:=trivial
def tw7010274193481904561:=trivial
def tw5803096986426995847:=trivial
def tw5078024780369906690:=trivial
def tw12750224421778254465:=trivial
def tw2484737777723358642:=trivial
def tw1878587507996963807:=trivial
def tw7051662961794453927:=trivial
def tw15140974995473154735:=trivial
def tw16232539998691706105:=trivial
def tw4474169514992013692:=trivial
def tw18373437474166335034:=trivial
def tw2700369281288226051:=trivial
def tw12327770187941030726:=trivial
def tw18164175554484358120:=trivial
def tw6787929345311281706:=trivial
def tw1173662906174235170:=trivial
def tw2584338085837855885:=trivial
def tw6617344481507648228:=trivial
def tw11525523859362728607:=trivial
def tw11452400427161723578:=trivial
def tw823143099344772615:=trivial
def tw11172310500155546059:=trivial
def tw5063053434688445871:=trivial
def tw8783108131475176950:=trivial
def tw5729989414266515512:=trivial
def tw6307095657581770427:=trivial
def tw12032966426872941752:=trivial
def tw5169173357726517605:=trivial
def tw741805544618706180:=trivial
def tw15336132707518260030:=trivial
def tw9714478195913138183:=trivial
def tw11615859555425954640:=trivial
def tw6053052154750269437:=trivial
def tw15128146520809074636:=trivial
def tw6103066610561812116:=trivial
def tw15769793824837016068:=trivial
def tw8426898740460435989:=trivial
def tw12966072912679165130:=trivial
def tw16308979346964906974:=trivial
def tw1236997985707198504:=trivial
def tw18160036779311616758:=trivial
def tw14835991547279810055:=trivial
def tw12403694493274498780:=trivial
def tw3756606415261933094:=trivial
def tw4745544212013782077:=trivial
def tw1809281666176912617:=trivial
def tw16227695277182428381:=trivial
def tw16112873107479671051:=trivial
def tw138675554940870363:=trivial
def tw6878658014071674802:=trivial
def tw16429886564459481195:=trivial
def tw12840446965570873487:=trivial
def tw10482458621783564379:=trivial
def tw12451453335366124634:=trivial
def tw11037414746364650019:=trivial
def tw3237824420006429162:=trivial
def tw1213291346852008102:=trivial
def tw786116675227907184:=trivial
def tw15880129286791061883:=trivial
def tw11978805139152954630:=trivial
def tw1983878602209588645:=trivial
def tw1791899786132254255:=trivial
def tw1105673409964452898:=trivial
def tw17294466512256142174:=trivial
def tw7877321274037473188:=trivial
def tw11142562401353534344:=trivial
def tw9989108760365023518:=trivial
def tw13441537596863281185:=trivial
def tw12934782057963472669:=trivial
def tw753895451222376423:=trivial
def tw10663046464867256957:=trivial
def tw9818423060888770045:=trivial
def tw15410296770744682812:=trivial
def tw7077488890459309924:=trivial
def tw3778199780329214267:=trivial
def tw18226782026356134370:=trivial
def tw7318674111614913786:=trivial
def tw10174864778122031754:=trivial
def tw7201940209649486392:=trivial
def tw476218400020171050:=trivial
def tw7159032231504120096:=trivial
def tw10868005755547668308:=trivial
def tw3358923778720366606:=trivial
def tw3815232604122802055:=trivial
def tw4034196124974745136:=trivial
def tw13055108366654018623:=trivial
def tw3283699736046729639:=trivial
def tw10674824546365224424:=trivial
def tw12669374945130332225:=trivial
def tw8307565521437684663:=trivial
def tw5611198455029734807:=trivial
def tw18058875043396629804:=trivial
def tw6704223697359257287:=trivial
def tw996706695559723066:=trivial
def tw13094844635949104095:=trivial
def tw9449383960059389210:=trivial
def tw9401474564265386240:=trivial
def tw7140193395623033799:=trivial
def tw9785837076978899752:=trivial
def tw14227205394737571854:=trivial
def tw3650993165204657440:=trivial
def tw11265531558503863641:=trivial
def tw401386459696709696:=trivial
def tw5146229140422157341:=trivial
def tw14745061518548450202:=trivial
def tw13967238292822182304:=trivial
def tw5527993834858742178:=trivial
def tw13570925751055295022:=trivial
def tw8238885399128656266:=trivial
def tw17785247922884000921:=trivial
def tw9575831454573888769:=trivial
def tw9932226528702760141:=trivial
def tw14843230621547324000:=trivial
def tw15723640070068364107:=trivial
def tw8439899676699404618:=trivial
def tw678630661194842602:=trivial
def tw6704736592622975189:=trivial
def tw2497965184413739543:=trivial
def tw4610514254725660623:=trivial
def tw9181115788397205786:=trivial
def tw12081258020111200406:=trivial
def tw16981774552964241935:=trivial
def tw16730870192128439413:=trivial
def tw8408474585183056797:=trivial
def tw3003399728795872173:=trivial
def tw6443164660125397650:=trivial
def tw7862878073583149972:=trivial
def tw3310976206910704169:=trivial
def tw7602887955705383018:=trivial
def tw12751593889338573871:=trivial
def tw2072501903100281254:=trivial
def tw17546911450280749787:=trivial
def tw3195523163120953268:=trivial
def tw3385957723127922408:=trivial
def tw1074070029776024897:=trivial
def tw2114863532817839393:=trivial
def tw10805202466101777356:=trivial
def tw9365499583871628847:=trivial
def tw17704334638996054985:=trivial
def tw6659479933271361462:=trivial
def tw9918404036844077743:=trivial
def tw6599355162052531263:=trivial
def tw4375263783665284858:=trivial
def tw13129127232770411858:=trivial
def tw10520341843241889550:=trivial
def tw7113398658170009213:=trivial
def tw16489813969522191750:=trivial
def tw1907544800491216606:=trivial
def tw4323677489198082788:=trivial
def tw308570720634985512:=trivial
def tw16777737431200962340:=trivial
def tw3450344294976562993:=trivial
def tw3621082888326670042:=trivial
def tw16317815284658918617:=trivial
def tw2778124350019205041:=trivial
def tw17081656145594525826:=trivial
def tw2959186767996100179:=trivial
def tw2734643517858395328:=trivial
def tw11064055341386358531:=trivial
def tw15246862920781746278:=trivial
def tw3372403035827379576:=trivial
def tw17026987677443279423:=trivial
def tw5216868060611169716:=trivial
def tw5128601007955558208:=trivial
def tw6982006007899301923:=trivial
def tw480449178410982742:=trivial
def tw11694772680868695497:=trivial
def tw13294397750939402825:=trivial
def tw2517797870641992675:=trivial
def tw3478897849408533542:=trivial
def tw7167658879535640644:=trivial
def tw16477927882349950878:=trivial
def tw9431425933883798324:=trivial
def tw11641721800214331966:=trivial
def tw16623173381678379785:=trivial
def tw9285791882949238386:=trivial
def tw16971758730042183433:=trivial
def tw1028895874086238383:=trivial
def tw1635736862141392631:=trivial
def tw3534665336865614842:=trivial
def tw1864400010851271797:=trivial
def tw4962216332437866119:=trivial
def tw10792375746134674384:=trivial
def tw6510075734696593018:=trivial
def tw46059615076492362:=trivial
def tw11270023540565713863:=trivial
def tw15651623300118916105:=trivial
def tw15458066477119634390:=trivial
def tw15996316846008128563:=trivial
def tw471799054804190333:=trivial
def tw9628713870841432233:=trivial
def tw13001749338579191108:=trivial
def tw4884343007723294551:=trivial
def tw791827953147385383:=trivial
def tw9130150668543459006:=trivial
def tw10411464904585459994:=trivial
def tw17656830206479788515:=trivial
def tw13295064198644673323:=trivial
def tw6439680398923685670:=trivial
def tw16200318507638638684:=trivial
def tw3926821593915719791:=trivial
def tw5031552389681068092:=trivial
def tw15009676002790811573:=trivial
def tw12017736844716287605:=trivial
def tw1239458479058385231:=trivial
def tw15644469018953143466:=trivial
def tw5459062631653678409:=trivial
def tw3487542886908447110:=trivial
def tw16731383827269190868:=trivial
def tw5108851568148560299:=trivial
def tw7741587187226402100:=trivial
def tw3043890806244785562:=trivial
def tw17059216555897093244:=trivial
def tw6836391408971250405:=trivial
def tw4449473501730455754:=trivial
def tw7353281241673179793:=trivial
def tw17178535475237703829:=trivial
def tw10794290325050689657:=trivial
def tw18132843606265755678:=trivial
def tw7499755436291403693:=trivial
def tw7064856306158930989:=trivial
def tw14636906884413759430:=trivial
def tw10384952110448953487:=trivial
def tw15346176748154500561:=trivial
def tw15868886632093271008:=trivial
def tw13389971524288701834:=trivial
def tw5013349092602893867:=trivial
def tw2745081766554294914:=trivial
def tw6778653792524706711:=trivial
def tw16583048609503845984:=trivial
def tw13954953981620637362:=trivial
def tw1394660011526049794:=trivial
def tw4671122094329742616:=trivial
def tw13588908625459607501:=trivial
def tw9052458368858903445:=trivial
def tw3930599471695449905:=trivial
def tw11859110729132020430:=trivial
def tw8919721909827124560:=trivial
def tw18141273329539719067:=trivial
def tw689332553134363069:=trivial
def tw13671330332582959656:=trivial
def tw17876628825252572396:=trivial
def tw8245380542758189136:=trivial
def tw12548184409581001182:=trivial
def tw12158640670924945689:=trivial
def tw7582771803056430983:=trivial
def tw6027661432110496217:=trivial
def tw12300695308566548903:=trivial
def tw17242408262033068389:=trivial
def tw9915894736826796595:=trivial
def tw6805849409981731910:=trivial
def tw4441142168163205889:=trivial
def tw9033132990981388112:=trivial
def tw1425049318535447612:=trivial
def tw16901883584096759287:=trivial
def tw4263833237960701467:=trivial
def tw7007806520254154663:=trivial
def tw5410108176764780456:=trivial
def tw14001294377915283825:=trivial
def tw16418852905710722777:=trivial
def tw2847056747927751254:=trivial
def tw17139829199529666368:=trivial
def tw16826867288092753435:=trivial
def tw13386654797831723209:=trivial
def tw1106648378057705312:=trivial
def tw520797199457136896:=trivial
def tw10842135570064050104:=trivial
def tw2570813611274101976:=trivial
def tw8204800261888460911:=trivial
def tw12070362844495952130:=trivial
def tw4755795494921007142:=trivial
def tw3155609040275529806:=trivial
def tw17692452761390476072:=trivial
def tw10400579441705594671:=trivial
def tw3656460510593979478:=trivial
def tw3165044136664768622:=trivial
def tw17297079414777793722:=trivial
def tw8870274078015569518:=trivial
def tw8573643715200673853:=trivial
def tw10661736521564625523:=trivial
def tw11955911253138940778:=trivial
def tw16951936933938374354:=trivial
def tw9413504303859824116:=trivial
def tw13274174406004611257:=trivial
def tw7281129688391689679:=trivial
def tw9310270751727597893:=trivial
def tw9872511520114850722:=trivial
def tw10361687041371349065:=trivial
def tw16623434873337984562:=trivial
def tw2901152923895484244:=trivial
def tw240643039620084880:=trivial
def tw15781017295256562190:=trivial
def tw2298148361944865357:=trivial
def tw923869349240570808:=trivial
def tw11418449314377136067:=trivial
def tw8702628285619479766:=trivial
def tw17598149359746774422:=trivial
def tw14901295391808068607:=trivial
def tw276821238065616392:=trivial
def tw957527442775162210:=trivial
def tw16266045470996979374:=trivial
def tw4163211153221880584:=trivial
def tw15346177183875406245:=trivial
def tw11300060274306664387:=trivial
def tw4613510811351709937:=trivial
def tw14269896585547258707:=trivial
def tw17507356620430378005:=trivial
def tw11868050643232217506:=trivial
def tw2508374369315714784:=trivial
def tw4755247288056451487:=trivial
def tw757331088041431503:=trivial
def tw11641986162998172169:=trivial
def tw6278622413602869348:=trivial
def tw12990299328506019252:=trivial
def tw16186891809444417213:=trivial
def tw7701875065990888017:=trivial
def tw5250365570828092100:=trivial
def tw10474792887620416344:=trivial
def tw16979841608061180041:=trivial
def tw12155121605251632515:=trivial
def tw7490361882501515302:=trivial
def tw15329049238421862178:=trivial
def tw3568216066895348979:=trivial
def tw4303741560598480748:=trivial
def tw13266043052174536792:=trivial
def tw5060976656322676092:=trivial
def tw10445596228628291920:=trivial
def tw6460050810562368073:=trivial
def tw12429563071073679782:=trivial
def tw1981777244442342635:=trivial
def tw270102981473579781:=trivial
def tw5836662997310625167:=trivial
def tw9533605592587972612:=trivial
def tw11818268234144211326:=trivial
def tw2333133695079619490:=trivial
def tw13604591548200971395:=trivial
def tw1051525782242793161:=trivial
def tw15330093059460124288:=trivial
def tw11139024674828254404:=trivial
def tw17172871512743062335:=trivial
def tw17228767536839474661:=trivial
def tw11772560541014927159:=trivial
def tw17450130867489986717:=trivial
def tw2032841679227271427:=trivial
def tw13182043098484615438:=trivial
def tw13107274344683431406:=trivial
def tw11057330905736628001:=trivial
def tw17335797371802486462:=trivial
def tw2064902564569846594:=trivial
def tw3029203498814107988:=trivial
def tw1180023387220291225:=trivial
def tw5128665743825348327:=trivial
def tw17486249751898465809:=trivial
def tw12197923036970195007:=trivial
def tw4171914167542277197:=trivial
def tw9838128354762334265:=trivial
def tw11970573105810599469:=trivial
def tw9598722117600297797:=trivial
def tw5214462074779577873:=trivial
def tw7690381159448092094:=trivial
def tw15532637814675400727:=trivial
def tw17975217759981635245:=trivial
def tw2213098497263390662:=trivial
def tw11952199143085003715:=trivial
def tw11595148624128472136:=trivial
def tw2479263812071269743:=trivial
def tw18086646241659860379:=trivial
def tw4104882605065347512:=trivial
def tw2181953989942368085:=trivial
def tw11532809754654891419:=trivial
def tw9081437196618598487:=trivial
def tw14093836953112193994:=trivial
def tw11307353968444462833:=trivial
def tw3616438911098132528:=trivial
def tw15084485728989822158:=trivial
def tw3980970454761199008:=trivial
def tw1624840810392470417:=trivial
def tw15060413092955675971:=trivial
def tw13938611844482904557:=trivial
def tw17674208221562328515:=trivial
def tw14876648060450772116:=trivial
def tw3834668492482024998:=trivial
def tw5108556702780140963:=trivial
def tw11806484413049344202:=trivial
def tw18026232140799353806:=trivial
def tw6105778675010075145:=trivial
def tw986961396128373407:=trivial
def tw12168812385573401146:=trivial
def tw16976381015903272158:=trivial
def tw2909310872988465450:=trivial
def tw1891348007782386034:=trivial
def tw14632871226018006271:=trivial
def tw16764995524046682847:=trivial
def tw16126060719378571181:=trivial
def tw14764563198554230876:=trivial
def tw7709305829725312670:=trivial
def tw8497782865242679593:=trivial
def tw17189200226636491290:=trivial
def tw10092468792380943519:=trivial
def tw11818729363854639367:=trivial
def tw11324475695887996841:=trivial
def tw5820833677934189174:=trivial
def tw13725794930770862172:=trivial
def tw16615677085259039877:=trivial
def tw15924407631425390739:=trivial
def tw16658680651012949544:=trivial
def tw3105895410830694044:=trivial
def tw3870145978541727567:=trivial
def tw6360444982892198405:=trivial
def tw4922990219447853597:=trivial
def tw14529827335372178807:=trivial
def tw7997587319558166457:=trivial
def tw322745116179391884:=trivial
def tw15521121372444172142:=trivial
def tw13809755147838524842:=trivial
def tw16572330739105162358:=trivial
def tw12949613967127615262:=trivial
def tw1951887517312843867:=trivial
def tw9340527238413514791:=trivial
def tw14210792013586128594:=trivial
end PySem.W.Fast
set_option maxRecDepth 100000 in
set_option maxHeartbeats 0 in
theorem PySem.Challenge.cw_neverwait_k42_ways_phases_wishes_holds : PySem.Challenge.rw_neverwait_k42_ways_phases_wishes.Holds := by
 w_on; o_law; k_head; (case hw=>w_witness2)
 k_fill
 refine oI.walk (l:=PySem.Challenge.rw_neverwait_k42_ways_phases_wishes) (Pt:=_) rfl rfl (fun w h Y=>PySem.W.km_in_of Y) (fun w h Y=>PySem.W.km_tabs_of Y) ?Vq ?Vr ?F;case F =>
  intro w mg fa h KX G Jd;refine' oI.Hf (Pt:=_) KX G Jd ?_ ?_ ?_ ?_ ?_ ?_ ?_ ?_ ?_ ?_ ?_ ?_ ?_ ?_ ?_ ?_ ?_ ?_ ?_ ?_ ?_ ?_ ?_ ?_ ?_ ?_ ?_ ?_ ?_ ?_ ?_ ?_ ?_ ?_ ?_ ?_ ?_ ?_ ?_ ?_ ?_ ?_ ?_ ?_ ?_ ?_ ?_ ?_ ?_ ?_ ?_ ?_ ?_ ?_ ?_ ?_ ?_ ?_ ?_ ?_ ?_ ?_ ?_ ?_ ?_ ?_ ?_ ?_ ?_ ?_ ?_ ?_ ?_ ?_ ?_ ?_ ?_ ?_ ?_ ?_ ?_ ?_ ?_ ?_ ?_ ?_ ?_ ?_ ?_ ?_ ?_ ?_ ?_ ?_ ?_ ?_ ?_ ?_ ?_ ?_ ?_ ?_ ?_ ?_ ?_ ?_ ?_ ?_ ?_ ?_ ?_ ?_;all_goals first
   | (refine' oI.FD.mk ?a ?l ?d ?k; (case a=>k_is); (case l=>k_is); (case d=>k_is); (case k=>k_is))
   | (refine' oI.FC.mk ?a ?l ?d ?k; (case a=>k_is); (case l=>k_is); (case d=>k_is); (case k=>k_is))
   | (refine' oI.MD.mk ?a ?i ?l ?d ?k; (case a=>k_is); (case i=>k_is); (case l=>k_is); (case d=>k_is); (case k=>k_is))
   | (refine' oI.MC.mk ?a ?i ?l ?d ?k; (case a=>k_is); (case i=>k_is); (case l=>k_is); (case d=>k_is); (case k=>k_is))
   | k_is
   | kernel_rfl
   | decide
   | exact ⟨by kernel_rfl,by k_is,by k_is,by k_is,by k_is,by k_is,by k_is,by kernel_rfl⟩
   | skip
 case Vr=>intro w; kernel_rfl
 case Vq=>intro w; kernel_rfl
